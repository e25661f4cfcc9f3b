/-
  Texts of MV joined (VecRP, VecRC, VecRS, VecRE).
-/
import Derived.Test.YtbcpeagannjgpaaGreatDoorMV4
set_option linter.unusedVariables false
set_option linter.unusedSimpArgs false
set_option linter.unusedSectionVars false
namespace Go.Proofs.YtbcpeagannjgpaaGreatDoor
section
open Go.RowKit
set_option maxRecDepth 100000
set_option linter.unusedSimpArgs false
set_option linter.unusedVariables false
set_option maxHeartbeats 8000000 in
theorem rpair_any (op : Int) (f : Int → Int → Int) (hop : (op = 37 ∧ f = mAnd) ∨ (op = 38 ∧ f = mOr) ∨ (op = 39 ∧ f = mXor) ∨ (op = 40 ∧ f = mEq)) (w0 : World) (Aa : Option Addr) (la : List Int) (ca : Nat) (sa : Bool) (Ab : Option Addr) (lb : List Int) (cb : Nat) (sb : Bool) (w : World) (ha : la.length ≤ 4096) (hb : lb.length ≤ 4096) (hca : Hid (la.length ≤ ca ∧ ca ≤ maxLen)) (hcb : Hid (lb.length ≤ cb ∧ cb ≤ maxLen)) (hra : RQ w Aa la) (hrb : RQ w Ab lb) (ya : By la) (yb : By lb) (g g2 : Nat) (eg : Aa = some ⟨g, 0, none⟩) (hg : w0.heap.size ≤ g) (hrow : RowQ w g la.length (qt la)) (eg2 : Ab = some ⟨g2, 0, none⟩) (hrow2 : RowQ w g2 lb.length (qt lb)) (hgg : g2 ≠ g) (hW : Below w0.heap.size w0 w) (hln : lb.length = la.length) (h1 : Gd la) (h2 : Gd lb) :
    Calls Tryz.prog 87 #[.int .u8 op, .agg #[.slice Aa la.length ca, .bool sa], .agg #[.slice Ab lb.length cb, .bool sb]] w fun e w' => e = .returned (.agg #[.slice Aa la.length ca, .bool sa]) ∧ RowQ w' g la.length (fun i => f (qt la i) (qt lb i)) ∧ (∀ x, x ≠ g → x < w.heap.size → w'.heap[x]? = w.heap[x]?) ∧ w.heap.size ≤ w'.heap.size ∧ Below w0.heap.size w0 w' := by
  have Oa := hide hra
  have La := hide ha
  have Ca := hca
  have Ya := hide ya
  have Ob := hide hrb
  have Lb := hide hb
  have Cb := hcb
  have Yb := hide yb
  clear ha hca hra ya hb hcb hrb yb
  obtain ⟨F, hF⟩ : ∃ F : Nat → Int, F = fun i => f (qt la i) (qt lb i) := ⟨_, rfl⟩
  have hFi : ∀ i, F i = f (qt la i) (qt lb i) := fun i => by rw [hF]
  rw [← hF]
  clear hF
  have hz0 := hW.size
  have hU : Below w.heap.size w w := Below.refl _ _
  refine calls_sl (l := [.int .u8 op, .agg #[.slice Aa la.length ca, .bool sa], .agg #[.slice Ab lb.length cb, .bool sb]]) 83 Tryz.func87 rfl kr (by simp) (wp_seq (reg_lit (wpl_boxvec (A := Aa) (m := la.length) (c := ca) (s := sa) rfl kr rfl kr ?_)))
  intro w1 Na Ba hNa hb
  replace Ba := hide Ba
  replace Oa := kQ Oa hb
  replace Ob := kQ Ob hb
  have hza : w.heap.size ≤ Na := Nat.le_trans hU.size hNa
  clear hNa
  replace hU := kU hU hb
  clear hb
  refine wpl_boxvec (A := Ab) (m := lb.length) (c := cb) (s := sb) rfl kr rfl kr ?_
  intro w2 Nb Bb hNb hb
  replace Bb := hide Bb
  have neab : Na ≠ Nb := by have := Ba.out.lt; omega
  replace Oa := kQ Oa hb
  replace Ob := kQ Ob hb
  replace Ba := kB Ba hb
  have hzb : w.heap.size ≤ Nb := Nat.le_trans hU.size hNb
  clear hNb
  replace hU := kU hU hb
  clear hb
  refine wpl_al rfl kr rfl ?_
  intro w3 Nu Bu hNu hb
  replace Bu := hide Bu
  have neau : Na ≠ Nu := by have := Ba.out.lt; omega
  have nebu : Nb ≠ Nu := by have := Bb.out.lt; omega
  replace Oa := kQ Oa hb
  replace Ob := kQ Ob hb
  replace Ba := kB Ba hb
  replace Bb := kB Bb hb
  have hzu : w.heap.size ≤ Nu := Nat.le_trans hU.size hNu
  clear hNu
  replace hU := kU hU hb
  clear hb
  refine wpl_end (then_normal (wp_seq (wp_seq (reg_lit (wpl_r1 [(7, .int .i64 0)] kr (wpl_end (then_normal ?_)))))))
  refine wp_block ?_
  replace hrow := hrow.kept hU
  replace hrow2 := hrow2.kept hU
  have hgw := hrow.lt
  have hl1 := h1.le
  have hxa : Na ≠ g := Ba.out.off hrow h1.pos
  have hxb : Nb ≠ g := Bb.out.off hrow h1.pos
  have hxu : Nu ≠ g := Bu.out.off hrow h1.pos
  refine loop_r (la.length + 1) ?_
  refine loop_inv (N := la.length) (fun k E W => Kp [(7, .int .i64 (k : Nat)), (0, .int .u8 op), (4, .pointer (some ⟨Na, 0, none⟩)), (5, .pointer (some ⟨Nb, 0, none⟩)), (6, .pointer (some ⟨Nu, 0, none⟩))] E ∧ PutQ w0 w3 g la.length (cdg la F k) W) ?_ _ 0 _ _ (Nat.zero_le _) (by omega) ⟨Kp_c kr (Kp_c kr (Kp_c kr (Kp_c kr (Kp_c kr (Kp_n))))), (PutQ.start hrow (hW.trans (hU.mono hz0))).congr (fun i _ => cdg_0 la F i)⟩
  intro k E W next hk hI hnext
  obtain ⟨hKp, HP⟩ := hI
  replace HP := hide HP
  refine wp_keep _ hKp (fun X => ?_)
  clear hKp
  refine wp_seq (wp_seq ?_)
  rcases Nat.lt_or_ge k la.length with hlt | hge
  refine reg_lit (wpl_r2 [(9, .pointer (some ⟨Na, 0, none⟩)), (8, .int .i64 ((k : Nat)))] kr (wpl_ldsl (HP.out.box Ba.out hxa) rfl kr rfl kr (wpl_r1 [(11, .int .i64 ((la.length : Nat)))] kr (wpl_val rfl kr (run_lss (a := (k : Int)) (b := (la.length : Int)) rfl kr kr (decide_eq_true (by omega))) (wpl_end (then_normal (wp_ift kr ?_)))))))
  refine wp_skip (then_normal (wp_seq (wp_block (wp_seq ?_))))
  have hk3 : k < lb.length := by omega
  have hc1 : ∀ w', w' = W.drew → w'.cell? ((⟨g, 0, none⟩ : Addr).add k) = some (.int .u8 (qt la k)) := fun w' e => by rw [e, addr_add]; have h := HP.out.row.cell hlt; rw [cdg_at] at h; exact h
  have hc2 : ∀ w', w' = W.drew → w'.cell? ((⟨g2, 0, none⟩ : Addr).add k) = some (.int .u8 (qt lb k)) := fun w' e => by rw [e, addr_add]; exact (HP.out.cell (p := ⟨g2, k, none⟩) hgg).trans (hrow2.cell hk3)
  rcases hop with ⟨h, hf⟩ | ⟨h, hf⟩ | ⟨h, hf⟩ | ⟨h, hf⟩
  subst h
  have hv : F k = mAnd (qt la k) (qt lb k) := by rw [hFi, hf]
  refine reg_lit (wpl_r1 [(15, .int .u8 37)] kr (wpl_end (then_normal (wp_block (sw_t [(31, .bool true), (32, .bool true)] rfl kr kr (gregion (n := 15) (N := 16) (fun x => x = W.drew) kr kr kr kr kr kr rfl (fun _ _ _ _ _ h => h) ?_))))))
  intro Fr hQ
  refine gany_val (i := 0) (m' := 1) (v := .pointer (some ⟨Na, 0, none⟩)) Fr hQ rfl rfl kr kr kr kr kr (fun _ hb => by kernel_rfl) (gany_val (i := 1) (m' := 3) (v := .slice Aa la.length ca) Fr hQ rfl rfl kr kr kr kr kr (fun _ hb => run_ldsl rfl kr (Box.drewq (HP.out.box Ba.out hxa) hb)) (gany_val (i := 2) (m' := 7) (v := .int .i64 ((k : Nat))) Fr hQ rfl rfl kr kr kr kr kr (fun _ hb => by kernel_rfl) (gany_val (i := 3) (m' := 15) (v := .pointer (some ⟨Na, 0, none⟩)) Fr hQ rfl rfl kr kr kr kr kr (fun _ hb => by kernel_rfl) (gany_val (i := 4) (m' := 31) (v := .slice Aa la.length ca) Fr hQ rfl rfl kr kr kr kr kr (fun _ hb => run_ldsl rfl kr (Box.drewq (HP.out.box Ba.out hxa) hb)) (gany_val (i := 5) (m' := 63) (v := .int .i64 ((k : Nat))) Fr hQ rfl rfl kr kr kr kr kr (fun _ hb => by kernel_rfl) (gany_val (i := 6) (m' := 127) (v := .pointer (some ((⟨g, 0, none⟩ : Addr).add k))) Fr hQ rfl rfl kr kr kr kr kr (fun _ hb => run_ix (k := k) (m := la.length) (cc := ca) rfl kr eg kr hlt) (gany_val (i := 7) (m' := 255) (v := .int .u8 ((qt la k))) Fr hQ rfl rfl kr kr kr kr kr (fun _ hb => run_ldbit rfl kr (hc1 _ hb)) ?_)))))))
  refine gany_val (i := 8) (m' := 511) (v := .pointer (some ⟨Nb, 0, none⟩)) Fr hQ rfl rfl kr kr kr kr kr (fun _ hb => by kernel_rfl) (gany_val (i := 9) (m' := 1023) (v := .slice Ab lb.length cb) Fr hQ rfl rfl kr kr kr kr kr (fun _ hb => run_ldsl rfl kr (Box.drewq (HP.out.box Bb.out hxb) hb)) (gany_val (i := 10) (m' := 2047) (v := .int .i64 ((k : Nat))) Fr hQ rfl rfl kr kr kr kr kr (fun _ hb => by kernel_rfl) (gany_val (i := 11) (m' := 4095) (v := .pointer (some ((⟨g2, 0, none⟩ : Addr).add k))) Fr hQ rfl rfl kr kr kr kr kr (fun _ hb => run_ix (k := k) (m := lb.length) (cc := cb) rfl kr eg2 kr hk3) (gany_val (i := 12) (m' := 8191) (v := .int .u8 ((qt lb k))) Fr hQ rfl rfl kr kr kr kr kr (fun _ hb => run_ldbit rfl kr (hc2 _ hb)) (gany_one (i := 13) kr (gstep_call (m' := 16383) rfl rfl kr kr kr kr (rand_q (qt la k) (qt lb k) _) (gany_val (i := 14) (m' := 32767) (v := .pointer (some ((⟨g, 0, none⟩ : Addr).add k))) Fr hQ rfl rfl kr kr kr kr kr (fun _ hb => run_ix (k := k) (m := la.length) (cc := ca) rfl kr eg kr hlt) ?_)))))))
  refine gany_e (gany_none (i := 15) (m' := 65535) (w' := W.drew.setCell ⟨g, k, none⟩ (.int .u8 (mAnd (qt la k) (qt lb k)))) rfl rfl kr kr kr kr (run_stbit rfl kr (addr_add g k) kr HP.out.drew.row hlt) (gany_done kr ?_))
  have HS := (HP.out.drew.step hg k (mAnd (qt la k) (qt lb k))).congr (fun i _ => cdg_nv la F k i _ hv)
  clear Fr hQ
  refine block_normal (block_normal (then_normal (reg_lit (wpl_r1 [(13, .int .i64 ((k : Nat)))] kr (wpl_val rfl kr (run_add (a := (k : Int)) (b := 1) (c := ((k + 1 : Int) : Int)) rfl kr kr (by omega) (by omega) (by omega)) (wpl_r1 [(7, .int .i64 (((k + 1 : Nat) : Int)))] kr (wpl_end ?_)))))))
  refine then_normal (hnext _ _ hlt ⟨Kp_c kr (Kp_c kr (Kp_c kr (Kp_c kr (Kp_c kr (Kp_n))))), HS⟩)
  subst h
  have hv : F k = mOr (qt la k) (qt lb k) := by rw [hFi, hf]
  refine reg_lit (wpl_r1 [(15, .int .u8 38)] kr (wpl_end (then_normal (wp_block (sw_f [(31, .bool false), (32, .bool false)] rfl kr kr (sw_t [(48, .bool true), (49, .bool true)] rfl kr kr (gregion (n := 15) (N := 16) (fun x => x = W.drew) kr kr kr kr kr kr rfl (fun _ _ _ _ _ h => h) ?_)))))))
  intro Fr hQ
  refine gany_val (i := 0) (m' := 1) (v := .pointer (some ⟨Na, 0, none⟩)) Fr hQ rfl rfl kr kr kr kr kr (fun _ hb => by kernel_rfl) (gany_val (i := 1) (m' := 3) (v := .slice Aa la.length ca) Fr hQ rfl rfl kr kr kr kr kr (fun _ hb => run_ldsl rfl kr (Box.drewq (HP.out.box Ba.out hxa) hb)) (gany_val (i := 2) (m' := 7) (v := .int .i64 ((k : Nat))) Fr hQ rfl rfl kr kr kr kr kr (fun _ hb => by kernel_rfl) (gany_val (i := 3) (m' := 15) (v := .pointer (some ⟨Na, 0, none⟩)) Fr hQ rfl rfl kr kr kr kr kr (fun _ hb => by kernel_rfl) (gany_val (i := 4) (m' := 31) (v := .slice Aa la.length ca) Fr hQ rfl rfl kr kr kr kr kr (fun _ hb => run_ldsl rfl kr (Box.drewq (HP.out.box Ba.out hxa) hb)) (gany_val (i := 5) (m' := 63) (v := .int .i64 ((k : Nat))) Fr hQ rfl rfl kr kr kr kr kr (fun _ hb => by kernel_rfl) (gany_val (i := 6) (m' := 127) (v := .pointer (some ((⟨g, 0, none⟩ : Addr).add k))) Fr hQ rfl rfl kr kr kr kr kr (fun _ hb => run_ix (k := k) (m := la.length) (cc := ca) rfl kr eg kr hlt) (gany_val (i := 7) (m' := 255) (v := .int .u8 ((qt la k))) Fr hQ rfl rfl kr kr kr kr kr (fun _ hb => run_ldbit rfl kr (hc1 _ hb)) ?_)))))))
  refine gany_val (i := 8) (m' := 511) (v := .pointer (some ⟨Nb, 0, none⟩)) Fr hQ rfl rfl kr kr kr kr kr (fun _ hb => by kernel_rfl) (gany_val (i := 9) (m' := 1023) (v := .slice Ab lb.length cb) Fr hQ rfl rfl kr kr kr kr kr (fun _ hb => run_ldsl rfl kr (Box.drewq (HP.out.box Bb.out hxb) hb)) (gany_val (i := 10) (m' := 2047) (v := .int .i64 ((k : Nat))) Fr hQ rfl rfl kr kr kr kr kr (fun _ hb => by kernel_rfl) (gany_val (i := 11) (m' := 4095) (v := .pointer (some ((⟨g2, 0, none⟩ : Addr).add k))) Fr hQ rfl rfl kr kr kr kr kr (fun _ hb => run_ix (k := k) (m := lb.length) (cc := cb) rfl kr eg2 kr hk3) (gany_val (i := 12) (m' := 8191) (v := .int .u8 ((qt lb k))) Fr hQ rfl rfl kr kr kr kr kr (fun _ hb => run_ldbit rfl kr (hc2 _ hb)) (gany_one (i := 13) kr (gstep_call (m' := 16383) rfl rfl kr kr kr kr (ror_q (qt la k) (qt lb k) _) (gany_val (i := 14) (m' := 32767) (v := .pointer (some ((⟨g, 0, none⟩ : Addr).add k))) Fr hQ rfl rfl kr kr kr kr kr (fun _ hb => run_ix (k := k) (m := la.length) (cc := ca) rfl kr eg kr hlt) ?_)))))))
  refine gany_e (gany_none (i := 15) (m' := 65535) (w' := W.drew.setCell ⟨g, k, none⟩ (.int .u8 (mOr (qt la k) (qt lb k)))) rfl rfl kr kr kr kr (run_stbit rfl kr (addr_add g k) kr HP.out.drew.row hlt) (gany_done kr ?_))
  have HS := (HP.out.drew.step hg k (mOr (qt la k) (qt lb k))).congr (fun i _ => cdg_nv la F k i _ hv)
  clear Fr hQ
  refine block_normal (block_normal (then_normal (reg_lit (wpl_r1 [(13, .int .i64 ((k : Nat)))] kr (wpl_val rfl kr (run_add (a := (k : Int)) (b := 1) (c := ((k + 1 : Int) : Int)) rfl kr kr (by omega) (by omega) (by omega)) (wpl_r1 [(7, .int .i64 (((k + 1 : Nat) : Int)))] kr (wpl_end ?_)))))))
  refine then_normal (hnext _ _ hlt ⟨Kp_c kr (Kp_c kr (Kp_c kr (Kp_c kr (Kp_c kr (Kp_n))))), HS⟩)
  subst h
  have hv : F k = mXor (qt la k) (qt lb k) := by rw [hFi, hf]
  refine reg_lit (wpl_r1 [(15, .int .u8 39)] kr (wpl_end (then_normal (wp_block (sw_f [(31, .bool false), (32, .bool false)] rfl kr kr (sw_f [(48, .bool false), (49, .bool false)] rfl kr kr (sw_t [(65, .bool true), (66, .bool true)] rfl kr kr ?_)))))))
  refine gregion (n := 15) (N := 16) (fun x => x = W.drew) kr kr kr kr kr kr rfl (fun _ _ _ _ _ h => h) ?_
  intro Fr hQ
  refine gany_val (i := 0) (m' := 1) (v := .pointer (some ⟨Na, 0, none⟩)) Fr hQ rfl rfl kr kr kr kr kr (fun _ hb => by kernel_rfl) (gany_val (i := 1) (m' := 3) (v := .slice Aa la.length ca) Fr hQ rfl rfl kr kr kr kr kr (fun _ hb => run_ldsl rfl kr (Box.drewq (HP.out.box Ba.out hxa) hb)) (gany_val (i := 2) (m' := 7) (v := .int .i64 ((k : Nat))) Fr hQ rfl rfl kr kr kr kr kr (fun _ hb => by kernel_rfl) (gany_val (i := 3) (m' := 15) (v := .pointer (some ⟨Na, 0, none⟩)) Fr hQ rfl rfl kr kr kr kr kr (fun _ hb => by kernel_rfl) (gany_val (i := 4) (m' := 31) (v := .slice Aa la.length ca) Fr hQ rfl rfl kr kr kr kr kr (fun _ hb => run_ldsl rfl kr (Box.drewq (HP.out.box Ba.out hxa) hb)) (gany_val (i := 5) (m' := 63) (v := .int .i64 ((k : Nat))) Fr hQ rfl rfl kr kr kr kr kr (fun _ hb => by kernel_rfl) (gany_val (i := 6) (m' := 127) (v := .pointer (some ((⟨g, 0, none⟩ : Addr).add k))) Fr hQ rfl rfl kr kr kr kr kr (fun _ hb => run_ix (k := k) (m := la.length) (cc := ca) rfl kr eg kr hlt) (gany_val (i := 7) (m' := 255) (v := .int .u8 ((qt la k))) Fr hQ rfl rfl kr kr kr kr kr (fun _ hb => run_ldbit rfl kr (hc1 _ hb)) ?_)))))))
  refine gany_val (i := 8) (m' := 511) (v := .pointer (some ⟨Nb, 0, none⟩)) Fr hQ rfl rfl kr kr kr kr kr (fun _ hb => by kernel_rfl) (gany_val (i := 9) (m' := 1023) (v := .slice Ab lb.length cb) Fr hQ rfl rfl kr kr kr kr kr (fun _ hb => run_ldsl rfl kr (Box.drewq (HP.out.box Bb.out hxb) hb)) (gany_val (i := 10) (m' := 2047) (v := .int .i64 ((k : Nat))) Fr hQ rfl rfl kr kr kr kr kr (fun _ hb => by kernel_rfl) (gany_val (i := 11) (m' := 4095) (v := .pointer (some ((⟨g2, 0, none⟩ : Addr).add k))) Fr hQ rfl rfl kr kr kr kr kr (fun _ hb => run_ix (k := k) (m := lb.length) (cc := cb) rfl kr eg2 kr hk3) (gany_val (i := 12) (m' := 8191) (v := .int .u8 ((qt lb k))) Fr hQ rfl rfl kr kr kr kr kr (fun _ hb => run_ldbit rfl kr (hc2 _ hb)) (gany_one (i := 13) kr (gstep_call (m' := 16383) rfl rfl kr kr kr kr (rxor_q (qt la k) (qt lb k) _ (h1.bd k).1 (h2.bd k).1) (gany_val (i := 14) (m' := 32767) (v := .pointer (some ((⟨g, 0, none⟩ : Addr).add k))) Fr hQ rfl rfl kr kr kr kr kr (fun _ hb => run_ix (k := k) (m := la.length) (cc := ca) rfl kr eg kr hlt) ?_)))))))
  refine gany_e (gany_none (i := 15) (m' := 65535) (w' := W.drew.setCell ⟨g, k, none⟩ (.int .u8 (mXor (qt la k) (qt lb k)))) rfl rfl kr kr kr kr (run_stbit rfl kr (addr_add g k) kr HP.out.drew.row hlt) (gany_done kr ?_))
  have HS := (HP.out.drew.step hg k (mXor (qt la k) (qt lb k))).congr (fun i _ => cdg_nv la F k i _ hv)
  clear Fr hQ
  refine block_normal (block_normal (then_normal (reg_lit (wpl_r1 [(13, .int .i64 ((k : Nat)))] kr (wpl_val rfl kr (run_add (a := (k : Int)) (b := 1) (c := ((k + 1 : Int) : Int)) rfl kr kr (by omega) (by omega) (by omega)) (wpl_r1 [(7, .int .i64 (((k + 1 : Nat) : Int)))] kr (wpl_end ?_)))))))
  refine then_normal (hnext _ _ hlt ⟨Kp_c kr (Kp_c kr (Kp_c kr (Kp_c kr (Kp_c kr (Kp_n))))), HS⟩)
  subst h
  have hv : F k = mEq (qt la k) (qt lb k) := by rw [hFi, hf]
  refine reg_lit (wpl_r1 [(15, .int .u8 40)] kr (wpl_end (then_normal (wp_block (sw_f [(31, .bool false), (32, .bool false)] rfl kr kr (sw_f [(48, .bool false), (49, .bool false)] rfl kr kr (sw_f [(65, .bool false), (66, .bool false)] rfl kr kr ?_)))))))
  refine gregion (n := 15) (N := 16) (fun x => x = W.drew) kr kr kr kr kr kr rfl (fun _ _ _ _ _ h => h) ?_
  intro Fr hQ
  refine gany_val (i := 0) (m' := 1) (v := .pointer (some ⟨Na, 0, none⟩)) Fr hQ rfl rfl kr kr kr kr kr (fun _ hb => by kernel_rfl) (gany_val (i := 1) (m' := 3) (v := .slice Aa la.length ca) Fr hQ rfl rfl kr kr kr kr kr (fun _ hb => run_ldsl rfl kr (Box.drewq (HP.out.box Ba.out hxa) hb)) (gany_val (i := 2) (m' := 7) (v := .int .i64 ((k : Nat))) Fr hQ rfl rfl kr kr kr kr kr (fun _ hb => by kernel_rfl) (gany_val (i := 3) (m' := 15) (v := .pointer (some ⟨Na, 0, none⟩)) Fr hQ rfl rfl kr kr kr kr kr (fun _ hb => by kernel_rfl) (gany_val (i := 4) (m' := 31) (v := .slice Aa la.length ca) Fr hQ rfl rfl kr kr kr kr kr (fun _ hb => run_ldsl rfl kr (Box.drewq (HP.out.box Ba.out hxa) hb)) (gany_val (i := 5) (m' := 63) (v := .int .i64 ((k : Nat))) Fr hQ rfl rfl kr kr kr kr kr (fun _ hb => by kernel_rfl) (gany_val (i := 6) (m' := 127) (v := .pointer (some ((⟨g, 0, none⟩ : Addr).add k))) Fr hQ rfl rfl kr kr kr kr kr (fun _ hb => run_ix (k := k) (m := la.length) (cc := ca) rfl kr eg kr hlt) (gany_val (i := 7) (m' := 255) (v := .int .u8 ((qt la k))) Fr hQ rfl rfl kr kr kr kr kr (fun _ hb => run_ldbit rfl kr (hc1 _ hb)) ?_)))))))
  refine gany_val (i := 8) (m' := 511) (v := .pointer (some ⟨Nb, 0, none⟩)) Fr hQ rfl rfl kr kr kr kr kr (fun _ hb => by kernel_rfl) (gany_val (i := 9) (m' := 1023) (v := .slice Ab lb.length cb) Fr hQ rfl rfl kr kr kr kr kr (fun _ hb => run_ldsl rfl kr (Box.drewq (HP.out.box Bb.out hxb) hb)) (gany_val (i := 10) (m' := 2047) (v := .int .i64 ((k : Nat))) Fr hQ rfl rfl kr kr kr kr kr (fun _ hb => by kernel_rfl) (gany_val (i := 11) (m' := 4095) (v := .pointer (some ((⟨g2, 0, none⟩ : Addr).add k))) Fr hQ rfl rfl kr kr kr kr kr (fun _ hb => run_ix (k := k) (m := lb.length) (cc := cb) rfl kr eg2 kr hk3) (gany_val (i := 12) (m' := 8191) (v := .int .u8 ((qt lb k))) Fr hQ rfl rfl kr kr kr kr kr (fun _ hb => run_ldbit rfl kr (hc2 _ hb)) (gany_one (i := 13) kr (gstep_call (m' := 16383) rfl rfl kr kr kr kr (req_q (qt la k) (qt lb k) _ (h1.bd k).1 (h2.bd k).1) (gany_val (i := 14) (m' := 32767) (v := .pointer (some ((⟨g, 0, none⟩ : Addr).add k))) Fr hQ rfl rfl kr kr kr kr kr (fun _ hb => run_ix (k := k) (m := la.length) (cc := ca) rfl kr eg kr hlt) ?_)))))))
  refine gany_e (gany_none (i := 15) (m' := 65535) (w' := W.drew.setCell ⟨g, k, none⟩ (.int .u8 (mEq (qt la k) (qt lb k)))) rfl rfl kr kr kr kr (run_stbit rfl kr (addr_add g k) kr HP.out.drew.row hlt) (gany_done kr ?_))
  have HS := (HP.out.drew.step hg k (mEq (qt la k) (qt lb k))).congr (fun i _ => cdg_nv la F k i _ hv)
  clear Fr hQ
  refine block_normal (block_normal (then_normal (reg_lit (wpl_r1 [(13, .int .i64 ((k : Nat)))] kr (wpl_val rfl kr (run_add (a := (k : Int)) (b := 1) (c := ((k + 1 : Int) : Int)) rfl kr kr (by omega) (by omega) (by omega)) (wpl_r1 [(7, .int .i64 (((k + 1 : Nat) : Int)))] kr (wpl_end ?_)))))))
  refine then_normal (hnext _ _ hlt ⟨Kp_c kr (Kp_c kr (Kp_c kr (Kp_c kr (Kp_c kr (Kp_n))))), HS⟩)
  refine reg_lit (wpl_r2 [(9, .pointer (some ⟨Na, 0, none⟩)), (8, .int .i64 ((k : Nat)))] kr (wpl_ldsl (HP.out.box Ba.out hxa) rfl kr rfl kr (wpl_r1 [(11, .int .i64 ((la.length : Nat)))] kr (wpl_val rfl kr (run_lss (a := (k : Int)) (b := (la.length : Int)) rfl kr kr (decide_eq_false (by omega))) (wpl_end (then_normal (wp_iff kr ?_)))))))
  refine wp_exit (then_exit (then_exit (exit_here (then_normal (wp_seq (reg_lit (wpl_ldvec (HP.out.box Ba.out hxa) rfl kr rfl kr ?_)))))))
  refine wpl_stk (HP.out.box Bu.out hxu) rfl kr rfl kr (A2 := Aa) (m2 := la.length) (c2 := ca) (s2 := sa) kr ?_
  intro w4 hst hkeep
  refine wpl_end (then_normal (wp_ret ?_))
  obtain rfl : k = la.length := by omega
  refine ret_box hst.box rfl kr ?_
  exact ⟨rfl, by obtain ⟨cs, hc, hi⟩ := HP.out.row; exact ⟨cs, by rw [hkeep g hxu.symm]; exact hc, fun i hi2 => by rw [hi i hi2]; unfold cdg; rw [if_pos hi2]⟩, fun x hx hx2 => by rw [hkeep x (by omega), HP.out.far x hx, hU.block x hx2], by have h1 := (hst.bel (Nat.zero_le _)).size; have h2 := HP.out.size; have h3 := hU.size; omega, HP.out.bel.trans (hst.bel (Nat.le_trans hz0 hzu))⟩
end
section
open Go.RowKit
set_option maxRecDepth 100000
set_option linter.unusedSimpArgs false
set_option linter.unusedVariables false
theorem cmp_w (la lb : List Int) (A B : Option Addr) (a b : List Bool) (c d : Nat) (w : World) (ea : a = nb la) (eb : b = nb lb) (ha : la.length ≤ 4096) (hb : lb.length ≤ 4096) (hca : Hid (a.length ≤ c ∧ c ≤ maxLen)) (hcb : Hid (b.length ≤ d ∧ d ≤ maxLen)) (hA : Rd w A a) (hB : Rd w B b) :
    Calls Tryz.prog 153 #[.slice A a.length c, .slice B b.length d] w (Mk (.int .i64 (cmp (nv (nb la)) (nv (nb lb)))) w) := by
  subst ea eb
  exact rcmp_any A B _ _ c d w (by rw [nb_length]; exact ha) (by rw [nb_length]; exact hb) hca hcb hA hB
theorem scmp_w (la lb : List Int) (A B : Option Addr) (a b : List Bool) (c d : Nat) (w : World) (ea : a = nb la) (eb : b = nb lb) (ha : la.length ≤ 4000) (hb : lb.length ≤ 4000) (hca : Hid (a.length ≤ c ∧ c ≤ maxLen)) (hcb : Hid (b.length ≤ d ∧ d ≤ maxLen)) (hA : Rd w A a) (hB : Rd w B b) :
    Calls Tryz.prog 163 #[.slice A a.length c, .slice B b.length d] w (Mk (.int .i64 (cmp (sv (nb la)) (sv (nb lb)))) w) := by
  subst ea eb
  exact rscmp_any A B _ _ c d w (by rw [nb_length]; exact ha) (by rw [nb_length]; exact hb) hca hcb hA hB
set_option maxHeartbeats 16000000 in
theorem rcompare_any (op : Int) (hop : op = 27 ∨ op = 28 ∨ op = 29 ∨ op = 30 ∨ op = 31 ∨ op = 32 ∨ op = 33 ∨ op = 34) (Aa : Option Addr) (la : List Int) (ca : Nat) (sa : Bool) (Ab : Option Addr) (lb : List Int) (cb : Nat) (sb : Bool) (w : World) (ha : la.length ≤ 4096) (hb : lb.length ≤ 4096) (hca : Hid (la.length ≤ ca ∧ ca ≤ maxLen)) (hcb : Hid (lb.length ≤ cb ∧ cb ≤ maxLen)) (hra : RQ w Aa la) (hrb : RQ w Ab lb) (ya : By la) (yb : By lb) (hln : lb.length = la.length) (h1 : Gd la) (h2 : Gd lb) :
    Calls Tryz.prog 89 #[.int .u8 op, .agg #[.slice Aa la.length ca, .bool sa], .agg #[.slice Ab lb.length cb, .bool sb]] w (Mk (.int .u8 (rcmpV op la lb sa)) w) := by
  have Oa := hide hra
  have La := hide ha
  have Ca := hca
  have Ya := hide ya
  have Ob := hide hrb
  have Lb := hide hb
  have Cb := hcb
  have Yb := hide yb
  clear ha hca hra ya hb hcb hrb yb
  have hl1 := h1.le
  have hU : Below w.heap.size w w := Below.refl _ _
  refine calls_sl (l := [.int .u8 op, .agg #[.slice Aa la.length ca, .bool sa], .agg #[.slice Ab lb.length cb, .bool sb]]) 101 Tryz.func89 rfl kr (by simp) (wp_seq (reg_lit (wpl_boxvec (A := Aa) (m := la.length) (c := ca) (s := sa) rfl kr rfl kr ?_)))
  intro w1 Na Ba hNa hb
  replace Ba := hide Ba
  replace Oa := kQ Oa hb
  replace Ob := kQ Ob hb
  have hza : w.heap.size ≤ Na := Nat.le_trans hU.size hNa
  clear hNa
  replace hU := kU hU hb
  clear hb
  refine wpl_boxvec (A := Ab) (m := lb.length) (c := cb) (s := sb) rfl kr rfl kr ?_
  intro w2 Nb Bb hNb hb
  replace Bb := hide Bb
  have neab : Na ≠ Nb := by have := Ba.out.lt; omega
  replace Oa := kQ Oa hb
  replace Ob := kQ Ob hb
  replace Ba := kB Ba hb
  have hzb : w.heap.size ≤ Nb := Nat.le_trans hU.size hNb
  clear hNb
  replace hU := kU hU hb
  clear hb
  refine wpl_r1 [(6, .int .u8 0)] kr (sx_n (wpl_r2 [(8, .bool true), (7, .int .u8 1)] kr (wpl_end (then_normal (wp_seq (wp_seq (reg_lit ?_)))))))
  refine wpl_r1 [(9, .int .i64 0)] kr (wpl_end (then_normal (wp_block (loop_r (la.length + 1) ?_))))
  refine loop_inv (N := la.length) (fun k E W => Kp [(9, .int .i64 (k : Nat)), (7, .int .u8 ((rcE la lb k))), (8, .bool (rcS la lb k)), (0, .int .u8 op), (4, .pointer (some ⟨Na, 0, none⟩)), (5, .pointer (some ⟨Nb, 0, none⟩))] E ∧ Below w.heap.size w W ∧ RQ W Aa la ∧ RQ W Ab lb ∧ Box Na Aa la.length ca sa W ∧ Box Nb Ab lb.length cb sb W) ?_ _ 0 _ _ (Nat.zero_le _) (by omega) ⟨Kp_c kr (Kp_c kr (Kp_c kr (Kp_c kr (Kp_c kr (Kp_c kr (Kp_n)))))), hU, Oa.out, Ob.out, Ba.out, Bb.out⟩
  clear hU Oa Ob Ba Bb
  intro k E w3 next hk hI hnext
  obtain ⟨hKp, hU, Oa, Ob, Ba, Bb⟩ := hI
  replace Oa := hide Oa
  replace Ob := hide Ob
  replace Ba := hide Ba
  replace Bb := hide Bb
  refine wp_keep _ hKp (fun X => ?_)
  clear hKp
  refine wp_seq (wp_seq ?_)
  rcases Nat.lt_or_ge k la.length with hlt | hge
  refine reg_lit (wpl_r2 [(12, .pointer (some ⟨Na, 0, none⟩)), (11, .int .i64 ((k : Nat)))] kr (wpl_ldsl Ba.out rfl kr rfl kr (wpl_r1 [(14, .int .i64 ((la.length : Nat)))] kr (wpl_val rfl kr (run_lss (a := (k : Int)) (b := (la.length : Int)) rfl kr kr (decide_eq_true (by omega))) (wpl_end (then_normal (wp_ift kr ?_)))))))
  refine wp_skip (then_normal (wp_seq (wp_block (wp_seq ?_))))
  obtain ⟨ad1, hA1, hc1⟩ := RQ.bit Oa.out hlt
  obtain ⟨ad2, hA2, hc2⟩ := RQ.bit Ob.out (i := k) (by omega)
  refine region_R (n := 13) (N := 14) kr kr kr kr kr kr (fun _ _ _ _ _ h => h) ?_
  intro F hQ
  have Ba0 := Ba
  have Bb0 := Bb
  refine anyR_val (i := 0) (m' := 1) (v := .int .u8 ((rcE la lb k))) F hQ rfl rfl kr kr kr kr kr (fun _ _ => kr) (anyR_val (i := 1) (m' := 3) (v := .pointer (some ⟨Na, 0, none⟩)) F hQ rfl rfl kr kr kr kr kr (fun _ _ => kr) (anyR_ldsl (i := 2) (m' := 7) Ba0.out F hQ rfl rfl kr kr kr kr kr rfl kr (anyR_val (i := 3) (m' := 15) (v := .int .i64 ((k : Nat))) F hQ rfl rfl kr kr kr kr kr (fun _ _ => kr) (anyR_val (i := 4) (m' := 31) (v := .pointer (some (ad1.add k))) F hQ rfl rfl kr kr kr kr kr (fun _ _ => run_ix (k := k) (m := la.length) (cc := ca) rfl kr hA1 kr hlt) (anyR_val (i := 5) (m' := 63) (v := .int .u8 ((qt la k))) F hQ rfl rfl kr kr kr kr kr (fun _ hb => run_ldbit rfl kr (hc1 _ hb)) (anyR_val (i := 6) (m' := 127) (v := .pointer (some ⟨Nb, 0, none⟩)) F hQ rfl rfl kr kr kr kr kr (fun _ _ => kr) (anyR_ldsl (i := 7) (m' := 255) Bb0.out F hQ rfl rfl kr kr kr kr kr rfl kr ?_)))))))
  refine anyR_val (i := 8) (m' := 511) (v := .int .i64 ((k : Nat))) F hQ rfl rfl kr kr kr kr kr (fun _ _ => kr) (anyR_val (i := 9) (m' := 1023) (v := .pointer (some (ad2.add k))) F hQ rfl rfl kr kr kr kr kr (fun _ _ => run_ix (k := k) (m := lb.length) (cc := cb) rfl kr hA2 kr (by omega)) (anyR_val (i := 10) (m' := 2047) (v := .int .u8 ((qt lb k))) F hQ rfl rfl kr kr kr kr kr (fun _ hb => run_ldbit rfl kr (hc2 _ hb)) ?_))
  refine anyR_call (i := 11) (m' := 4095) rfl rfl kr kr kr kr kr ((eq_m (qt la k) (qt lb k) (mEq (qt la k) (qt lb k)) _ (h1.bd k).1 (h2.bd k).1 rfl).mono ?_)
  rintro e w4 ⟨rfl, hb⟩
  refine ⟨_, rfl, hb, ?_⟩
  replace hb : Below w3.heap.size w3 w4 := Below.trans ((Below.refl _ _).drew) hb
  replace Oa := kQ Oa hb
  replace Ob := kQ Ob hb
  replace Ba := kB Ba hb
  replace Bb := kB Bb hb
  replace hU := kU hU hb
  clear hb
  refine anyR_call (i := 12) (m' := 8191) rfl rfl kr kr kr kr kr ((and_m (rcE la lb k) (mEq (qt la k) (qt lb k)) (rcE la lb (k + 1)) _ rfl).mono ?_)
  rintro e w5 ⟨rfl, hb⟩
  refine ⟨_, rfl, hb, ?_⟩
  replace Oa := kQ Oa hb
  replace Ob := kQ Ob hb
  replace Ba := kB Ba hb
  replace Bb := kB Bb hb
  replace hU := kU hU hb
  clear hb
  refine anyR_e (anyR_last (i := 13) (m' := 16383) (v := .int .u8 ((rcE la lb (k + 1)))) rfl rfl kr kr kr kr kr (anyE_done kr ?_))
  clear F hQ Ba0 Bb0
  refine then_normal ?_
  clear hc1 hc2
  obtain ⟨ad1, hA1, hc1⟩ := RQ.bit Oa.out hlt
  obtain ⟨ad2, hA2, hc2⟩ := RQ.bit Ob.out (i := k) (by omega)
  obtain ⟨q, hq⟩ : ∃ q, q = rcS la lb k := ⟨_, rfl⟩
  rw [← hq]
  cases q
  have hn : rcS la lb (k + 1) = false := by show (rcS la lb k && _) = false; rw [← hq]; rfl
  refine region_R (n := 14) (N := 15) kr kr kr kr kr kr (fun _ _ _ _ _ h => h) ?_
  intro F hQ
  have Ba0 := Ba
  have Bb0 := Bb
  refine anyR_val (i := 0) (m' := 1) (v := .bool false) F hQ rfl rfl kr kr kr kr kr (fun _ _ => kr) (anyR_val (i := 1) (m' := 3) (v := .bool false) F hQ rfl rfl kr kr kr kr kr (fun _ _ => kr) (anyR_off (i := 2) (m' := 7) F hQ rfl rfl kr kr kr kr kr (anyR_off (i := 3) (m' := 15) F hQ rfl rfl kr kr kr kr kr (anyR_off (i := 4) (m' := 31) F hQ rfl rfl kr kr kr kr kr (anyR_off (i := 5) (m' := 63) F hQ rfl rfl kr kr kr kr kr (anyR_off (i := 6) (m' := 127) F hQ rfl rfl kr kr kr kr kr (anyR_off (i := 7) (m' := 255) F hQ rfl rfl kr kr kr kr kr ?_)))))))
  refine anyR_off (i := 8) (m' := 511) F hQ rfl rfl kr kr kr kr kr (anyR_off (i := 9) (m' := 1023) F hQ rfl rfl kr kr kr kr kr (anyR_off (i := 10) (m' := 2047) F hQ rfl rfl kr kr kr kr kr (anyR_off (i := 11) (m' := 4095) F hQ rfl rfl kr kr kr kr kr (anyR_off (i := 12) (m' := 8191) F hQ rfl rfl kr kr kr kr kr (anyR_val (i := 13) (m' := 16383) (v := .bool false) F hQ rfl rfl kr kr kr kr kr (fun _ _ => kr) (anyR_e (anyR_last (i := 14) (m' := 32767) (v := .bool false) rfl rfl kr kr kr kr kr ?_)))))))
  refine anyE_done kr ?_
  clear F hQ Ba0 Bb0
  generalize hw : World.drew w5 = w6
  have hb : Below w5.heap.size w5 w6 := by rw [← hw]; exact (Below.refl _ _).drew
  clear hw
  replace Oa := kQ Oa hb
  replace Ob := kQ Ob hb
  replace Ba := kB Ba hb
  replace Bb := kB Bb hb
  replace hU := kU hU hb
  clear hb
  refine block_normal (then_normal (reg_lit (wpl_r1 [(16, .int .i64 ((k : Nat)))] kr (wpl_val rfl kr (run_add (a := (k : Int)) (b := 1) (c := ((k + 1 : Int) : Int)) rfl kr kr (by omega) (by omega) (by omega)) (wpl_r1 [(9, .int .i64 (((k + 1 : Nat) : Int)))] kr (wpl_end ?_))))))
  refine then_normal (hnext _ _ hlt ⟨(by rw [hn]; exact Kp_c kr (Kp_c kr (Kp_c kr (Kp_c kr (Kp_c kr (Kp_c kr (Kp_n))))))), hU, Oa.out, Ob.out, Ba.out, Bb.out⟩)
  have hn : rcS la lb (k + 1) = (qt la k == qt lb k) := by show (rcS la lb k && _) = _; rw [← hq]; rfl
  refine region_R (n := 14) (N := 15) kr kr kr kr kr kr (fun _ _ _ _ _ h => h) ?_
  intro F hQ
  have Ba0 := Ba
  have Bb0 := Bb
  refine anyR_val (i := 0) (m' := 1) (v := .bool true) F hQ rfl rfl kr kr kr kr kr (fun _ _ => kr) (anyR_val (i := 1) (m' := 3) (v := .bool true) F hQ rfl rfl kr kr kr kr kr (fun _ _ => kr) (anyR_val (i := 2) (m' := 7) (v := .pointer (some ⟨Na, 0, none⟩)) F hQ rfl rfl kr kr kr kr kr (fun _ _ => kr) (anyR_ldsl (i := 3) (m' := 15) Ba0.out F hQ rfl rfl kr kr kr kr kr rfl kr (anyR_val (i := 4) (m' := 31) (v := .int .i64 ((k : Nat))) F hQ rfl rfl kr kr kr kr kr (fun _ _ => kr) (anyR_val (i := 5) (m' := 63) (v := .pointer (some (ad1.add k))) F hQ rfl rfl kr kr kr kr kr (fun _ _ => run_ix (k := k) (m := la.length) (cc := ca) rfl kr hA1 kr hlt) (anyR_val (i := 6) (m' := 127) (v := .int .u8 ((qt la k))) F hQ rfl rfl kr kr kr kr kr (fun _ hb => run_ldbit rfl kr (hc1 _ hb)) (anyR_val (i := 7) (m' := 255) (v := .pointer (some ⟨Nb, 0, none⟩)) F hQ rfl rfl kr kr kr kr kr (fun _ _ => kr) ?_)))))))
  refine anyR_ldsl (i := 8) (m' := 511) Bb0.out F hQ rfl rfl kr kr kr kr kr rfl kr (anyR_val (i := 9) (m' := 1023) (v := .int .i64 ((k : Nat))) F hQ rfl rfl kr kr kr kr kr (fun _ _ => kr) (anyR_val (i := 10) (m' := 2047) (v := .pointer (some (ad2.add k))) F hQ rfl rfl kr kr kr kr kr (fun _ _ => run_ix (k := k) (m := lb.length) (cc := cb) rfl kr hA2 kr (by omega)) (anyR_val (i := 11) (m' := 4095) (v := .int .u8 ((qt lb k))) F hQ rfl rfl kr kr kr kr kr (fun _ hb => run_ldbit rfl kr (hc2 _ hb)) (anyR_val (i := 12) (m' := 8191) (v := .bool (qt la k == qt lb k)) F hQ rfl rfl kr kr kr kr kr (fun _ _ => run_eql8 (a := (qt la k)) (b := (qt lb k)) rfl kr kr rfl) (anyR_val (i := 13) (m' := 16383) (v := .bool (qt la k == qt lb k)) F hQ rfl rfl kr kr kr kr kr (fun _ _ => kr) (anyR_e (anyR_last (i := 14) (m' := 32767) (v := .bool (qt la k == qt lb k)) rfl rfl kr kr kr kr kr ?_)))))))
  refine anyE_done kr ?_
  clear F hQ Ba0 Bb0
  generalize hw : World.drew w5 = w7
  have hb : Below w5.heap.size w5 w7 := by rw [← hw]; exact (Below.refl _ _).drew
  clear hw
  replace Oa := kQ Oa hb
  replace Ob := kQ Ob hb
  replace Ba := kB Ba hb
  replace Bb := kB Bb hb
  replace hU := kU hU hb
  clear hb
  refine block_normal (then_normal (reg_lit (wpl_r1 [(16, .int .i64 ((k : Nat)))] kr (wpl_val rfl kr (run_add (a := (k : Int)) (b := 1) (c := ((k + 1 : Int) : Int)) rfl kr kr (by omega) (by omega) (by omega)) (wpl_r1 [(9, .int .i64 (((k + 1 : Nat) : Int)))] kr (wpl_end ?_))))))
  refine then_normal (hnext _ _ hlt ⟨(by rw [hn]; exact Kp_c kr (Kp_c kr (Kp_c kr (Kp_c kr (Kp_c kr (Kp_c kr (Kp_n))))))), hU, Oa.out, Ob.out, Ba.out, Bb.out⟩)
  obtain rfl : k = la.length := by omega
  refine reg_lit (wpl_r2 [(12, .pointer (some ⟨Na, 0, none⟩)), (11, .int .i64 ((la.length : Nat)))] kr (wpl_ldsl Ba.out rfl kr rfl kr (wpl_r1 [(14, .int .i64 ((la.length : Nat)))] kr (wpl_val rfl kr (run_lss (a := (la.length : Int)) (b := (la.length : Int)) rfl kr kr (decide_eq_false (by omega))) (wpl_end (then_normal (wp_iff kr ?_)))))))
  refine wp_exit (then_exit (then_exit (exit_here (then_normal (wp_seq (wp_seq ?_))))))
  rcases hop with rfl | rfl | rfl | rfl | hgrp
  refine reg_lit (wpl_r1 [(45, .int .u8 27)] kr (wpl_end (then_normal (wp_block (sw_t [(46, .bool true), (47, .bool true)] rfl kr kr (wp_seq (reg_lit ?_)))))))
  refine wpl_r2 [(6, .int .u8 ((rcE la lb la.length))), (48, .int .u8 ((rcE la lb la.length)))] kr (wpl_end (then_normal (wp_ret ?_)))
  refine (show bodyPost _ _ _ .ret _ _ from ret_sl (.int .u8 (rcE la lb la.length)) rfl kr ?_)
  exact ⟨rfl, hU⟩
  refine reg_lit (wpl_r1 [(45, .int .u8 28)] kr (wpl_end (then_normal (wp_block (sw_f [(46, .bool false), (47, .bool false)] rfl kr kr (sw_t [(49, .bool true), (50, .bool true)] rfl kr kr (wp_seq ?_)))))))
  refine reg_lit (wpl_r1 [(51, .int .u8 ((rcE la lb la.length)))] kr ?_)
  refine wpl_call rfl kr kr ((not_m (rcE la lb la.length) (mNot (rcE la lb la.length)) _ rfl).mono ?_)
  rintro e w8 ⟨rfl, hb⟩
  refine ⟨_, rfl, ?_⟩
  replace Oa := kQ Oa hb
  replace Ob := kQ Ob hb
  replace Ba := kB Ba hb
  replace Bb := kB Bb hb
  replace hU := kU hU hb
  clear hb
  refine wpl_r1 [(6, .int .u8 ((mNot (rcE la lb la.length))))] kr (wpl_end (then_normal (wp_ret ?_)))
  refine (show bodyPost _ _ _ .ret _ _ from ret_sl (.int .u8 (mNot (rcE la lb la.length))) rfl kr ?_)
  exact ⟨rfl, hU⟩
  refine reg_lit (wpl_r1 [(45, .int .u8 29)] kr (wpl_end (then_normal (wp_block (sw_f [(46, .bool false), (47, .bool false)] rfl kr kr (sw_f [(49, .bool false), (50, .bool false)] rfl kr kr (sw_t [(53, .bool true), (54, .bool true)] rfl kr kr ?_)))))))
  refine wp_seq (reg_lit (wpl_r1 [(55, .bool (rcS la lb la.length))] kr ?_))
  refine wpl_call rfl kr kr ((from_m (mFrom (rcS la lb la.length)) (rcS la lb la.length) _ rfl).mono ?_)
  rintro e w9 ⟨rfl, hb⟩
  refine ⟨_, rfl, ?_⟩
  replace Oa := kQ Oa hb
  replace Ob := kQ Ob hb
  replace Ba := kB Ba hb
  replace Bb := kB Bb hb
  replace hU := kU hU hb
  clear hb
  refine wpl_r1 [(6, .int .u8 ((mFrom (rcS la lb la.length))))] kr (wpl_end (then_normal (wp_ret ?_)))
  refine (show bodyPost _ _ _ .ret _ _ from ret_sl (.int .u8 (mFrom (rcS la lb la.length))) rfl kr ?_)
  exact ⟨rfl, hU⟩
  refine reg_lit (wpl_r1 [(45, .int .u8 30)] kr (wpl_end (then_normal (wp_block (sw_f [(46, .bool false), (47, .bool false)] rfl kr kr (sw_f [(49, .bool false), (50, .bool false)] rfl kr kr (sw_f [(53, .bool false), (54, .bool false)] rfl kr kr ?_)))))))
  refine sw_t [(57, .bool true), (58, .bool true)] rfl kr kr (wp_seq (reg_lit (wpl_r1 [(59, .bool (rcS la lb la.length))] kr (wpl_val rfl kr (run_not (a := (rcS la lb la.length)) rfl kr rfl) ?_))))
  refine wpl_call rfl kr kr ((from_m (mFrom (!(rcS la lb la.length))) (!(rcS la lb la.length)) _ rfl).mono ?_)
  rintro e w10 ⟨rfl, hb⟩
  refine ⟨_, rfl, ?_⟩
  replace Oa := kQ Oa hb
  replace Ob := kQ Ob hb
  replace Ba := kB Ba hb
  replace Bb := kB Bb hb
  replace hU := kU hU hb
  clear hb
  refine wpl_r1 [(6, .int .u8 ((mFrom (!(rcS la lb la.length)))))] kr (wpl_end (then_normal (wp_ret ?_)))
  refine (show bodyPost _ _ _ .ret _ _ from ret_sl (.int .u8 (mFrom (!(rcS la lb la.length)))) rfl kr ?_)
  exact ⟨rfl, hU⟩
  have hgo : 31 ≤ op ∧ op ≤ 34 := by omega
  cases hka : kn la
  refine reg_lit (wpl_r1 [(45, .int .u8 op)] kr (wpl_end (then_normal (wp_block (wp_seq (reg_lit (wpl_val rfl kr (run_eql8 (a := op) (b := 27) rfl kr kr (beq_eq_false_iff_ne.2 (by omega))) ?_)))))))
  refine wpl_r1 [(46, .bool false)] kr (wpl_end (then_normal (wp_iff kr (wp_seq (reg_lit (wpl_val rfl kr (run_eql8 (a := op) (b := 28) rfl kr kr (beq_eq_false_iff_ne.2 (by omega))) (wpl_r1 [(49, .bool false)] kr ?_)))))))
  refine wpl_end (then_normal (wp_iff kr (wp_seq (reg_lit (wpl_val rfl kr (run_eql8 (a := op) (b := 29) rfl kr kr (beq_eq_false_iff_ne.2 (by omega))) (wpl_r1 [(53, .bool false)] kr (wpl_end ?_)))))))
  refine then_normal (wp_iff kr (wp_seq (reg_lit (wpl_val rfl kr (run_eql8 (a := op) (b := 30) rfl kr kr (beq_eq_false_iff_ne.2 (by omega))) (wpl_r1 [(57, .bool false)] kr (wpl_end (then_normal ?_)))))))
  refine wp_iff kr (wp_skip (block_normal (then_normal (wp_seq (wp_seq (reg_lit (wpl_ldvec Ba.out rfl kr rfl kr ?_)))))))
  refine wpl_call rfl kr kr ((known_w false Aa la ca sa _ La.out Ca Oa.out Ya.out h1 hka).mono ?_)
  rintro e w11 ⟨rfl, hb⟩
  refine ⟨_, rfl, ?_⟩
  replace Oa := kQ Oa hb
  replace Ob := kQ Ob hb
  replace Ba := kB Ba hb
  replace Bb := kB Bb hb
  replace hU := kU hU hb
  clear hb
  refine wpl_r6 [(69, .bool true), (68, undef), (67, undef), (66, undef), (65, .bool true), (64, .bool true)] kr (wpl_end (then_normal (wp_ift kr (wp_seq (reg_lit (wpl_r1 [(6, .int .u8 2)] kr (wpl_end ?_)))))))
  refine then_normal (wp_ret ?_)
  refine (show bodyPost _ _ _ .ret _ _ from ret_sl (.int .u8 2) rfl kr ?_)
  exact ⟨(by show Ending.returned _ = Ending.returned _; rw [rcmpV_u hgo (by simp [hka])]), hU⟩
  cases hkb : kn lb
  refine reg_lit (wpl_r1 [(45, .int .u8 op)] kr (wpl_end (then_normal (wp_block (wp_seq (reg_lit (wpl_val rfl kr (run_eql8 (a := op) (b := 27) rfl kr kr (beq_eq_false_iff_ne.2 (by omega))) ?_)))))))
  refine wpl_r1 [(46, .bool false)] kr (wpl_end (then_normal (wp_iff kr (wp_seq (reg_lit (wpl_val rfl kr (run_eql8 (a := op) (b := 28) rfl kr kr (beq_eq_false_iff_ne.2 (by omega))) (wpl_r1 [(49, .bool false)] kr ?_)))))))
  refine wpl_end (then_normal (wp_iff kr (wp_seq (reg_lit (wpl_val rfl kr (run_eql8 (a := op) (b := 29) rfl kr kr (beq_eq_false_iff_ne.2 (by omega))) (wpl_r1 [(53, .bool false)] kr (wpl_end ?_)))))))
  refine then_normal (wp_iff kr (wp_seq (reg_lit (wpl_val rfl kr (run_eql8 (a := op) (b := 30) rfl kr kr (beq_eq_false_iff_ne.2 (by omega))) (wpl_r1 [(57, .bool false)] kr (wpl_end (then_normal ?_)))))))
  refine wp_iff kr (wp_skip (block_normal (then_normal (wp_seq (wp_seq (reg_lit (wpl_ldvec Ba.out rfl kr rfl kr ?_)))))))
  refine wpl_call rfl kr kr ((known_w true Aa la ca sa _ La.out Ca Oa.out Ya.out h1 hka).mono ?_)
  rintro e w12 ⟨rfl, hb⟩
  refine ⟨_, rfl, ?_⟩
  replace Oa := kQ Oa hb
  replace Ob := kQ Ob hb
  replace Ba := kB Ba hb
  replace Bb := kB Bb hb
  replace hU := kU hU hb
  clear hb
  refine wpl_r2 [(65, .bool false), (64, .bool false)] kr (wpl_ldvec Bb.out rfl kr rfl kr ?_)
  refine wpl_call rfl kr kr ((known_w false Ab lb cb sb _ Lb.out Cb Ob.out Yb.out h2 hkb).mono ?_)
  rintro e w13 ⟨rfl, hb⟩
  refine ⟨_, rfl, ?_⟩
  replace Oa := kQ Oa hb
  replace Ob := kQ Ob hb
  replace Ba := kB Ba hb
  replace Bb := kB Bb hb
  replace hU := kU hU hb
  clear hb
  refine wpl_r2 [(69, .bool true), (68, .bool true)] kr (wpl_end (then_normal (wp_ift kr (wp_seq (reg_lit (wpl_r1 [(6, .int .u8 2)] kr (wpl_end ?_)))))))
  refine then_normal (wp_ret ?_)
  refine (show bodyPost _ _ _ .ret _ _ from ret_sl (.int .u8 2) rfl kr ?_)
  exact ⟨(by show Ending.returned _ = Ending.returned _; rw [rcmpV_u hgo (by simp [hka, hkb])]), hU⟩
  refine reg_lit (wpl_r1 [(45, .int .u8 op)] kr (wpl_end (then_normal (wp_block (wp_seq (reg_lit (wpl_val rfl kr (run_eql8 (a := op) (b := 27) rfl kr kr (beq_eq_false_iff_ne.2 (by omega))) ?_)))))))
  refine wpl_r1 [(46, .bool false)] kr (wpl_end (then_normal (wp_iff kr (wp_seq (reg_lit (wpl_val rfl kr (run_eql8 (a := op) (b := 28) rfl kr kr (beq_eq_false_iff_ne.2 (by omega))) (wpl_r1 [(49, .bool false)] kr ?_)))))))
  refine wpl_end (then_normal (wp_iff kr (wp_seq (reg_lit (wpl_val rfl kr (run_eql8 (a := op) (b := 29) rfl kr kr (beq_eq_false_iff_ne.2 (by omega))) (wpl_r1 [(53, .bool false)] kr (wpl_end ?_)))))))
  refine then_normal (wp_iff kr (wp_seq (reg_lit (wpl_val rfl kr (run_eql8 (a := op) (b := 30) rfl kr kr (beq_eq_false_iff_ne.2 (by omega))) (wpl_r1 [(57, .bool false)] kr (wpl_end (then_normal ?_)))))))
  refine wp_iff kr (wp_skip (block_normal (then_normal (wp_seq (wp_seq (reg_lit (wpl_ldvec Ba.out rfl kr rfl kr ?_)))))))
  refine wpl_call rfl kr kr ((known_w true Aa la ca sa _ La.out Ca Oa.out Ya.out h1 hka).mono ?_)
  rintro e w14 ⟨rfl, hb⟩
  refine ⟨_, rfl, ?_⟩
  replace Oa := kQ Oa hb
  replace Ob := kQ Ob hb
  replace Ba := kB Ba hb
  replace Bb := kB Bb hb
  replace hU := kU hU hb
  clear hb
  refine wpl_r2 [(65, .bool false), (64, .bool false)] kr (wpl_ldvec Bb.out rfl kr rfl kr ?_)
  refine wpl_call rfl kr kr ((known_w true Ab lb cb sb _ Lb.out Cb Ob.out Yb.out h2 hkb).mono ?_)
  rintro e w15 ⟨rfl, hb⟩
  refine ⟨_, rfl, ?_⟩
  replace Oa := kQ Oa hb
  replace Ob := kQ Ob hb
  replace Ba := kB Ba hb
  replace Bb := kB Bb hb
  replace hU := kU hU hb
  clear hb
  refine wpl_r2 [(69, .bool false), (68, .bool false)] kr (wpl_end (then_normal (wp_iff kr (wp_skip (then_normal (wp_seq (region_R (n := 5) (N := 6) kr kr kr kr kr kr (fun _ _ _ _ _ h => h) ?_)))))))
  intro F hQ
  have Ba0 := Ba
  have Bb0 := Bb
  refine anyR_ldvec (i := 0) (m' := 1) Ba0.out F hQ rfl rfl kr kr kr kr kr rfl kr (anyR_ldvec (i := 2) (m' := 5) Bb0.out F hQ rfl rfl kr kr kr kr kr rfl kr ?_)
  refine anyR_call (i := 1) (m' := 7) rfl rfl kr kr kr kr kr ((rbools_any Aa la ca sa _ La.out (by exact Oa.out)).mono ?_)
  rintro e w16 ⟨ka, Ka, ea, Ta, rfl, Ua, Ra, hb⟩
  refine ⟨_, rfl, hb, ?_⟩
  replace hb : Below w15.heap.size w15 w16 := Below.trans ((Below.refl _ _).drew) hb
  replace Oa := kQ Oa hb
  replace Ob := kQ Ob hb
  replace Ba := kB Ba hb
  replace Bb := kB Bb hb
  replace hU := kU hU hb
  clear hb
  replace Ra := hide Ra.out.rd
  refine anyR_call (i := 3) (m' := 15) rfl rfl kr kr kr kr kr ((rbools_any Ab lb cb sb _ Lb.out Ob.out).mono ?_)
  rintro e w17 ⟨kb, Kb, eb, Tb, rfl, Ub, Rb, hb⟩
  refine ⟨_, rfl, hb, ?_⟩
  replace Oa := kQ Oa hb
  replace Ob := kQ Ob hb
  replace Ba := kB Ba hb
  replace Bb := kB Bb hb
  replace Ra := hide (Rd.kept Ra.out hb)
  replace hU := kU hU hb
  clear hb
  replace Rb := hide Rb.out.rd
  refine anyR_call (i := 4) (m' := 31) rfl rfl kr kr kr kr kr ((cmp_w la lb Ka Kb ka kb ea eb _ Ta.out Tb.out La.out Lb.out Ua Ub Ra.out Rb.out).mono ?_)
  rintro e w18 ⟨rfl, hb⟩
  refine ⟨_, rfl, hb, ?_⟩
  replace Oa := kQ Oa hb
  replace Ob := kQ Ob hb
  replace Ba := kB Ba hb
  replace Bb := kB Bb hb
  replace Ra := hide (Rd.kept Ra.out hb)
  replace Rb := hide (Rd.kept Rb.out hb)
  replace hU := kU hU hb
  clear hb
  refine anyR_e (anyR_last (i := 5) (m' := 63) (v := .int .i64 ((cmp (nv (nb la)) (nv (nb lb))))) rfl rfl kr kr kr kr kr (anyE_done kr ?_))
  clear F hQ Ba0 Bb0
  refine then_normal (wp_seq ?_)
  refine wp_cutK (α := Int) (fun z => [(10, .int .i64 z), (0, .int .u8 op), (4, .pointer (some ⟨Na, 0, none⟩)), (5, .pointer (some ⟨Nb, 0, none⟩))]) (fun z W => Below w.heap.size w W ∧ Hid (RQ W Aa la) ∧ Hid (RQ W Ab lb) ∧ Hid (Box Na Aa la.length ca sa W) ∧ Hid (Box Nb Ab lb.length cb sb W) ∧ z = rcC la lb sa) ?_ ?_
  refine wp_seq ?_
  rcases Bool.eq_false_or_eq_true sa with hs | hs
  refine reg_lit (wpl_r1 [(75, .pointer (some ⟨Na, 1, none⟩))] kr (wpl_ldsg (s := true) (by rw [← hs]; exact Ba.out) rfl kr rfl kr (wpl_end (then_normal (wp_ift kr (region_R (n := 5) (N := 6) kr kr kr kr kr kr (fun _ _ _ _ _ h => h) ?_))))))
  intro F hQ
  have Ba0 := Ba
  have Bb0 := Bb
  refine anyR_ldvec (i := 0) (m' := 1) Ba0.out F hQ rfl rfl kr kr kr kr kr rfl kr (anyR_ldvec (i := 2) (m' := 5) Bb0.out F hQ rfl rfl kr kr kr kr kr rfl kr ?_)
  refine anyR_call (i := 1) (m' := 7) rfl rfl kr kr kr kr kr ((rbools_any Aa la ca sa _ La.out (by exact Oa.out)).mono ?_)
  rintro e w19 ⟨kp_, Kp_, ep_, Tp_, rfl, Up_, Rp_, hb⟩
  refine ⟨_, rfl, hb, ?_⟩
  replace hb : Below w18.heap.size w18 w19 := Below.trans ((Below.refl _ _).drew) hb
  replace Oa := kQ Oa hb
  replace Ob := kQ Ob hb
  replace Ba := kB Ba hb
  replace Bb := kB Bb hb
  replace hU := kU hU hb
  clear hb
  replace Rp_ := hide Rp_.out.rd
  refine anyR_call (i := 3) (m' := 15) rfl rfl kr kr kr kr kr ((rbools_any Ab lb cb sb _ Lb.out Ob.out).mono ?_)
  rintro e w20 ⟨kq_, Kq_, eq_, Tq_, rfl, Uq_, Rq_, hb⟩
  refine ⟨_, rfl, hb, ?_⟩
  replace Oa := kQ Oa hb
  replace Ob := kQ Ob hb
  replace Ba := kB Ba hb
  replace Bb := kB Bb hb
  replace Rp_ := hide (Rd.kept Rp_.out hb)
  replace hU := kU hU hb
  clear hb
  replace Rq_ := hide Rq_.out.rd
  refine anyR_call (i := 4) (m' := 31) rfl rfl kr kr kr kr kr ((scmp_w la lb Kp_ Kq_ kp_ kq_ ep_ eq_ _ Tp_.out Tq_.out (Nat.le_trans hl1 (by decide)) (Nat.le_trans h2.le (by decide)) Up_ Uq_ Rp_.out Rq_.out).mono ?_)
  rintro e w21 ⟨rfl, hb⟩
  refine ⟨_, rfl, hb, ?_⟩
  replace Oa := kQ Oa hb
  replace Ob := kQ Ob hb
  replace Ba := kB Ba hb
  replace Bb := kB Bb hb
  replace Rp_ := hide (Rd.kept Rp_.out hb)
  replace Rq_ := hide (Rd.kept Rq_.out hb)
  replace hU := kU hU hb
  clear hb
  refine anyR_e (anyR_last (i := 5) (m' := 63) (v := .int .i64 ((cmp (sv (nb la)) (sv (nb lb))))) rfl rfl kr kr kr kr kr (anyE_done kr ?_))
  clear F hQ Ba0 Bb0
  refine then_normal ⟨(cmp (sv (nb la)) (sv (nb lb))), _, rfl, Kp_c kr (Kp_c kr (Kp_c kr (Kp_c kr (Kp_n)))), ?_⟩
  exact ⟨hU, Oa, Ob, Ba, Bb, (by unfold rcC; rw [hs]; rfl)⟩
  refine reg_lit (wpl_r1 [(75, .pointer (some ⟨Na, 1, none⟩))] kr (wpl_ldsg (s := false) (by rw [← hs]; exact Ba.out) rfl kr rfl kr (wpl_end (then_normal (wp_iff kr (wp_skip ?_))))))
  refine then_normal ⟨(cmp (nv (nb la)) (nv (nb lb))), _, rfl, Kp_c kr (Kp_c kr (Kp_c kr (Kp_c kr (Kp_n)))), ?_⟩
  exact ⟨hU, Oa, Ob, Ba, Bb, (by unfold rcC; rw [hs]; rfl)⟩
  rintro z X22 w22 h
  clear hU Oa Ob Ba Bb
  obtain ⟨hU, Oa, Ob, Ba, Bb, hz⟩ := h
  refine then_normal (wp_seq (wp_seq ?_))
  rcases (show op = 31 ∨ op = 32 ∨ op = 33 ∨ op = 34 by omega) with rfl | rfl | rfl | rfl
  refine reg_lit (wpl_r1 [(82, .int .u8 31)] kr (wpl_end (then_normal (wp_block (sw_t [(83, .bool true), (84, .bool true)] rfl kr kr (wp_seq (reg_lit ?_)))))))
  refine wpl_r1 [(85, .int .i64 z)] kr (wpl_val rfl kr (run_lss (a := z) (b := 0) rfl kr kr rfl) ?_)
  refine wpl_call rfl kr kr ((from_m (mFrom (decide (z < 0))) (decide (z < 0)) _ rfl).mono ?_)
  rintro e w23 ⟨rfl, hb⟩
  refine ⟨_, rfl, ?_⟩
  replace Oa := kQ Oa hb
  replace Ob := kQ Ob hb
  replace Ba := kB Ba hb
  replace Bb := kB Bb hb
  replace hU := kU hU hb
  clear hb
  refine wpl_r1 [(6, .int .u8 ((mFrom (decide (z < 0)))))] kr (wpl_end (then_normal (wp_ret ?_)))
  refine (show bodyPost _ _ _ .ret _ _ from ret_sl (.int .u8 (mFrom (decide (z < 0)))) rfl kr ?_)
  exact ⟨(by show Ending.returned _ = Ending.returned (.int .u8 (rcR (fun z => decide (z < 0)) la lb sa)); unfold rcR; rw [hka, hkb, ← hz]; rfl), hU⟩
  refine reg_lit (wpl_r1 [(82, .int .u8 32)] kr (wpl_end (then_normal (wp_block (sw_f [(83, .bool false), (84, .bool false)] rfl kr kr (sw_t [(88, .bool true), (89, .bool true)] rfl kr kr (wp_seq ?_)))))))
  refine reg_lit (wpl_r1 [(90, .int .i64 z)] kr (wpl_val rfl kr (run_leq (a := z) (b := 0) rfl kr kr rfl) ?_))
  refine wpl_call rfl kr kr ((from_m (mFrom (decide (z ≤ 0))) (decide (z ≤ 0)) _ rfl).mono ?_)
  rintro e w24 ⟨rfl, hb⟩
  refine ⟨_, rfl, ?_⟩
  replace Oa := kQ Oa hb
  replace Ob := kQ Ob hb
  replace Ba := kB Ba hb
  replace Bb := kB Bb hb
  replace hU := kU hU hb
  clear hb
  refine wpl_r1 [(6, .int .u8 ((mFrom (decide (z ≤ 0)))))] kr (wpl_end (then_normal (wp_ret ?_)))
  refine (show bodyPost _ _ _ .ret _ _ from ret_sl (.int .u8 (mFrom (decide (z ≤ 0)))) rfl kr ?_)
  exact ⟨(by show Ending.returned _ = Ending.returned (.int .u8 (rcR (fun z => decide (z ≤ 0)) la lb sa)); unfold rcR; rw [hka, hkb, ← hz]; rfl), hU⟩
  refine reg_lit (wpl_r1 [(82, .int .u8 33)] kr (wpl_end (then_normal (wp_block (sw_f [(83, .bool false), (84, .bool false)] rfl kr kr (sw_f [(88, .bool false), (89, .bool false)] rfl kr kr (sw_t [(93, .bool true), (94, .bool true)] rfl kr kr ?_)))))))
  refine wp_seq (reg_lit (wpl_r1 [(95, .int .i64 z)] kr (wpl_val rfl kr (run_gtr (a := z) (b := 0) rfl kr kr rfl) ?_)))
  refine wpl_call rfl kr kr ((from_m (mFrom (decide (z > 0))) (decide (z > 0)) _ rfl).mono ?_)
  rintro e w25 ⟨rfl, hb⟩
  refine ⟨_, rfl, ?_⟩
  replace Oa := kQ Oa hb
  replace Ob := kQ Ob hb
  replace Ba := kB Ba hb
  replace Bb := kB Bb hb
  replace hU := kU hU hb
  clear hb
  refine wpl_r1 [(6, .int .u8 ((mFrom (decide (z > 0)))))] kr (wpl_end (then_normal (wp_ret ?_)))
  refine (show bodyPost _ _ _ .ret _ _ from ret_sl (.int .u8 (mFrom (decide (z > 0)))) rfl kr ?_)
  exact ⟨(by show Ending.returned _ = Ending.returned (.int .u8 (rcR (fun z => decide (0 < z)) la lb sa)); unfold rcR; rw [hka, hkb, ← hz]; rfl), hU⟩
  refine reg_lit (wpl_r1 [(82, .int .u8 34)] kr (wpl_end (then_normal (wp_block (sw_f [(83, .bool false), (84, .bool false)] rfl kr kr (sw_f [(88, .bool false), (89, .bool false)] rfl kr kr (sw_f [(93, .bool false), (94, .bool false)] rfl kr kr ?_)))))))
  refine wp_skip (block_normal (then_normal (wp_seq (reg_lit (wpl_r1 [(98, .int .i64 z)] kr (wpl_val rfl kr (run_geq (a := z) (b := 0) rfl kr kr rfl) ?_))))))
  refine wpl_call rfl kr kr ((from_m (mFrom (decide (z ≥ 0))) (decide (z ≥ 0)) _ rfl).mono ?_)
  rintro e w26 ⟨rfl, hb⟩
  refine ⟨_, rfl, ?_⟩
  replace Oa := kQ Oa hb
  replace Ob := kQ Ob hb
  replace Ba := kB Ba hb
  replace Bb := kB Bb hb
  replace hU := kU hU hb
  clear hb
  refine wpl_r1 [(6, .int .u8 ((mFrom (decide (z ≥ 0)))))] kr (wpl_end (then_normal (wp_ret ?_)))
  refine (show bodyPost _ _ _ .ret _ _ from ret_sl (.int .u8 (mFrom (decide (z ≥ 0)))) rfl kr ?_)
  exact ⟨(by show Ending.returned _ = Ending.returned (.int .u8 (rcR (fun z => decide (0 ≤ z)) la lb sa)); unfold rcR; rw [hka, hkb, ← hz]; rfl), hU⟩
end
section
open Go.RowKit
set_option maxRecDepth 100000
set_option linter.unusedSimpArgs false
set_option linter.unusedVariables false
set_option maxHeartbeats 16000000 in
theorem rshift_any (op : Int) (hop : op = 41 ∨ op = 42 ∨ op = 43 ∨ op = 44) (Aa : Option Addr) (la : List Int) (ca : Nat) (sa : Bool) (Ab : Option Addr) (lb : List Int) (cb : Nat) (sb : Bool) (w : World) (ha : la.length ≤ 4096) (hb : lb.length ≤ 4096) (hca : Hid (la.length ≤ ca ∧ ca ≤ maxLen)) (hcb : Hid (lb.length ≤ cb ∧ cb ≤ maxLen)) (hra : RQ w Aa la) (hrb : RQ w Ab lb) (ya : By la) (yb : By lb) :
    Calls Tryz.prog 85 #[.int .u8 op, .agg #[.slice Aa la.length ca, .bool sa], .agg #[.slice Ab lb.length cb, .bool sb]] w (RetC (· = shfV op ⟨la, sa⟩ ⟨lb, sb⟩) w) := by
  have Oa := hide hra
  have La := hide ha
  have Ca := hca
  have Ya := hide ya
  have Ob := hide hrb
  have Lb := hide hb
  have Cb := hcb
  have Yb := hide yb
  clear ha hca hra ya hb hcb hrb yb
  have hU : Below w.heap.size w w := Below.refl _ _
  refine calls_sl (l := [.int .u8 op, .agg #[.slice Aa la.length ca, .bool sa], .agg #[.slice Ab lb.length cb, .bool sb]]) 107 Tryz.func85 rfl kr (by simp) (wp_seq (reg_lit (wpl_boxvec (A := Aa) (m := la.length) (c := ca) (s := sa) rfl kr rfl kr ?_)))
  intro w1 Na Ba hNa hb
  replace Ba := hide Ba
  replace Oa := kQ Oa hb
  replace Ob := kQ Ob hb
  have hza : w.heap.size ≤ Na := Nat.le_trans hU.size hNa
  clear hNa
  replace hU := kU hU hb
  clear hb
  refine wpl_boxvec (A := Ab) (m := lb.length) (c := cb) (s := sb) rfl kr rfl kr ?_
  intro w2 Nb Bb hNb hb
  replace Bb := hide Bb
  have neab : Na ≠ Nb := by have := Ba.out.lt; omega
  replace Oa := kQ Oa hb
  replace Ob := kQ Ob hb
  replace Ba := kB Ba hb
  have hzb : w.heap.size ≤ Nb := Nat.le_trans hU.size hNb
  clear hNb
  replace hU := kU hU hb
  clear hb
  refine wpl_al rfl kr rfl ?_
  intro w3 Nu Bu hNu hb
  replace Bu := hide Bu
  have neau : Na ≠ Nu := by have := Ba.out.lt; omega
  have nebu : Nb ≠ Nu := by have := Bb.out.lt; omega
  replace Oa := kQ Oa hb
  replace Ob := kQ Ob hb
  replace Ba := kB Ba hb
  replace Bb := kB Bb hb
  have hzu : w.heap.size ≤ Nu := Nat.le_trans hU.size hNu
  clear hNu
  replace hU := kU hU hb
  clear hb
  refine wpl_end (then_normal (wp_seq (region_R (n := 4) (N := 6) kr kr kr kr kr kr (fun _ _ _ _ _ h => h) ?_)))
  intro F hQ
  have Ba0 := Ba
  have Bb0 := Bb
  have Bu0 := Bu
  refine anyR_ldvec (i := 0) (m' := 1) Ba0.out F hQ rfl rfl kr kr kr kr kr rfl kr (anyR_ldvec (i := 2) (m' := 5) Bb0.out F hQ rfl rfl kr kr kr kr kr rfl kr ?_)
  refine anyR_call (i := 1) (m' := 7) rfl rfl kr kr kr kr kr ((rnorm_any' Aa la ca sa _ La.out Ca (by exact Oa.out) Ya.out).mono ?_)
  rintro e w4 ⟨l1, s1, A1, c1, E1, rfl, C1, O1, hb⟩
  refine ⟨_, rfl, hb, ?_⟩
  replace hb : Below w3.heap.size w3 w4 := Below.trans ((Below.refl _ _).drew) hb
  replace Oa := kQ Oa hb
  replace Ob := kQ Ob hb
  replace Ba := kB Ba hb
  replace Bb := kB Bb hb
  replace Bu := kB Bu hb
  replace O1 := hide O1.out.rd
  replace hU := kU hU hb
  clear hb
  have G1 : Gd l1 := by have h := congrArg Vc.b E1.out; dsimp only at h; rw [h]; exact (cnt_gd (v := ⟨la, sa⟩) Ya.out)
  have L1 := hide (show l1.length ≤ 4096 from Nat.le_trans G1.le (by decide))
  have Y1 := hide G1.by_
  clear G1
  have HG1 := hide (show Gd l1 by have h := congrArg Vc.b E1.out; dsimp only at h; rw [h]; exact cnt_gd (v := ⟨la, sa⟩) Ya.out)
  refine anyR_call (i := 3) (m' := 15) rfl rfl kr kr kr kr kr ((rnorm_any' Ab lb cb sb _ Lb.out Cb Ob.out Yb.out).mono ?_)
  rintro e w5 ⟨l2, s2, A2, c2, E2, rfl, C2, O2, hb⟩
  refine ⟨_, rfl, hb, ?_⟩
  replace Oa := kQ Oa hb
  replace Ob := kQ Ob hb
  replace O1 := kQ O1 hb
  replace Ba := kB Ba hb
  replace Bb := kB Bb hb
  replace Bu := kB Bu hb
  replace O2 := hide O2.out.rd
  replace hU := kU hU hb
  clear hb
  have G2 : Gd l2 := by have h := congrArg Vc.b E2.out; dsimp only at h; rw [h]; exact (cnt_gd (v := ⟨lb, sb⟩) Yb.out)
  have L2 := hide (show l2.length ≤ 4096 from Nat.le_trans G2.le (by decide))
  have Y2 := hide G2.by_
  clear G2
  have HG2 := hide (show Gd l2 by have h := congrArg Vc.b E2.out; dsimp only at h; rw [h]; exact cnt_gd (v := ⟨lb, sb⟩) Yb.out)
  refine anyR_e (anyE_st (i := 4) (m' := 31) Ba.out rfl rfl kr kr kr kr rfl kr (A2 := A1) (m2 := l1.length) (c2 := c1) (s2 := s1) kr ?_)
  intro w6 hst
  replace Oa := kS hst Oa
  replace Ob := kS hst Ob
  replace O1 := kS hst O1
  replace O2 := kS hst O2
  replace Bb := hide (hst.ne Bb.out (by first | exact neba | exact (Ne.symm neab) | assumption | (exact Ne.symm (by assumption)) | omega))
  replace Bu := hide (hst.ne Bu.out (by first | exact neua | exact (Ne.symm neau) | assumption | (exact Ne.symm (by assumption)) | omega))
  replace Ba := hide hst.box
  replace hU := hU.trans (hst.bel hza)
  clear hst
  refine anyE_st (i := 5) (m' := 63) Bb.out rfl rfl kr kr kr kr rfl kr (A2 := A2) (m2 := l2.length) (c2 := c2) (s2 := s2) kr ?_
  intro w7 hst
  replace Oa := kS hst Oa
  replace Ob := kS hst Ob
  replace O1 := kS hst O1
  replace O2 := kS hst O2
  replace Ba := hide (hst.ne Ba.out (by first | exact neab | exact (Ne.symm neba) | assumption | (exact Ne.symm (by assumption)) | omega))
  replace Bu := hide (hst.ne Bu.out (by first | exact neub | exact (Ne.symm nebu) | assumption | (exact Ne.symm (by assumption)) | omega))
  replace Bb := hide hst.box
  replace hU := hU.trans (hst.bel hzb)
  clear hst
  refine anyE_done kr ?_
  clear F hQ Ba0 Bb0 Bu0
  refine then_normal (wp_seq (wp_seq ?_))
  have hc1 : cnt ⟨la, sa⟩ = ⟨l1, s1⟩ := E1.out.symm
  have hc2 : cnt ⟨lb, sb⟩ = ⟨l2, s2⟩ := E2.out.symm
  have b1 := HG1.out.le
  have p1 := HG1.out.pos
  clear Oa Ca La Ya
  clear Ob Cb Lb Yb
  cases hk : kn l2
  refine reg_lit (wpl_ldvec Bb.out rfl kr rfl kr ?_)
  refine wpl_call rfl kr kr ((known_w false A2 l2 c2 s2 _ L2.out C2 O2.out Y2.out HG2.out hk).mono ?_)
  rintro e w8 ⟨rfl, hb⟩
  refine ⟨_, rfl, ?_⟩
  replace O1 := kQ O1 hb
  replace O2 := kQ O2 hb
  replace Ba := kB Ba hb
  replace Bb := kB Bb hb
  replace Bu := kB Bu hb
  replace hU := kU hU hb
  clear hb
  refine wpl_r1 [(20, .bool true)] kr (wpl_end (then_normal (wp_ift kr (wp_seq (reg_lit (wpl_r1 [(21, .pointer (some ⟨Na, 0, none⟩))] kr (wpl_ldsl Ba.out rfl kr rfl kr ?_)))))))
  refine wpl_r2 [(24, .pointer (some ⟨Na, 1, none⟩)), (23, .int .i64 ((l1.length : Nat)))] kr (wpl_ldsg Ba.out rfl kr rfl kr ?_)
  refine wpl_call rfl kr kr ((rfill_any 2 l1.length s1 _ (by omega)).mono ?_)
  rintro e w9 ⟨lv, sv, Av, cv, Ev, rfl, Cv, Ov, hb⟩
  refine ⟨_, rfl, ?_⟩
  have k0 : w.heap.size ≤ w8.heap.size := hU.size
  replace O1 := kQ O1 hb
  replace O2 := kQ O2 hb
  replace Ba := kB Ba hb
  replace Bb := kB Bb hb
  replace Bu := kB Bu hb
  replace hU := kU hU hb
  clear hb
  have Gv : Gd lv := by have h := congrArg Vc.b Ev.out; dsimp only at h; rw [h]; exact (gd_xs (n := l1.length) (s := s1) (by omega) (by omega))
  have Lv := hide (show lv.length ≤ 4096 from Nat.le_trans Gv.le (by decide))
  have Yv := hide Gv.by_
  clear Gv
  replace Ov := hide (OwQ.base Ov.out k0)
  clear k0
  refine wpl_stk Bu.out rfl kr rfl kr (A2 := Av) (m2 := lv.length) (c2 := cv) (s2 := sv) kr ?_
  intro w10 hst hkeep
  replace O1 := kS hst O1
  replace O2 := kS hst O2
  replace Ov := hide (OwQ.box Ov.out Bu.out hkeep)
  replace Ba := hide (hst.ne Ba.out nq)
  replace Bb := hide (hst.ne Bb.out nq)
  replace Bu := hide hst.box
  replace hU := hU.trans (hst.bel hzu)
  clear hst hkeep
  refine wpl_end (then_normal (wp_ret (ret_box Bu.out rfl kr ?_)))
  exact ⟨lv, sv, Av, cv, hide (by rw [shfV_unknown hc1 hc2 hk]; exact Ev.out), rfl, Cv, Ov, hU⟩
  refine reg_lit (wpl_ldvec Bb.out rfl kr rfl kr ?_)
  refine wpl_call rfl kr kr ((known_w true A2 l2 c2 s2 _ L2.out C2 O2.out Y2.out HG2.out hk).mono ?_)
  rintro e w11 ⟨rfl, hb⟩
  refine ⟨_, rfl, ?_⟩
  replace O1 := kQ O1 hb
  replace O2 := kQ O2 hb
  replace Ba := kB Ba hb
  replace Bb := kB Bb hb
  replace Bu := kB Bu hb
  replace hU := kU hU hb
  clear hb
  refine wpl_r1 [(20, .bool false)] kr (wpl_end (then_normal (wp_iff kr (wp_skip (then_normal (wp_seq (reg_lit ?_)))))))
  refine wpl_r1 [(27, .pointer (some ⟨Na, 0, none⟩))] kr (wpl_ldsl Ba.out rfl kr rfl kr (wpl_r2 [(7, .int .i64 ((l1.length : Nat))), (29, .int .i64 ((l1.length : Nat)))] kr (wpl_end (then_normal (wp_seq ?_)))))
  obtain ⟨M, hM⟩ : ∃ M, M = nv (nb l2) := ⟨_, rfl⟩
  obtain ⟨mx, qx, hx⟩ := uint_ex M
  refine reg_lit (wpl_ldvec Bb.out rfl kr rfl kr ?_)
  refine wpl_call rfl kr kr ((rbools_any A2 l2 c2 s2 _ L2.out O2.out).mono ?_)
  rintro e w12 ⟨kb, Kb, eb, Tb, rfl, Ub, Rb, hb⟩
  refine ⟨_, rfl, ?_⟩
  replace O1 := kQ O1 hb
  replace O2 := kQ O2 hb
  replace Ba := kB Ba hb
  replace Bb := kB Bb hb
  replace Bu := kB Bu hb
  replace hU := kU hU hb
  clear hb
  replace Rb := hide Rb.out.rd
  refine wpl_call rfl kr kr ((uint_x l2 M mx qx hx Kb kb eb _ Tb.out hM L2.out Ub Rb.out).mono ?_)
  rintro e w13 ⟨rfl, hb⟩
  refine ⟨_, rfl, ?_⟩
  replace O1 := kQ O1 hb
  replace O2 := kQ O2 hb
  replace Ba := kB Ba hb
  replace Bb := kB Bb hb
  replace Bu := kB Bu hb
  replace Rb := hide (Rd.kept Rb.out hb)
  replace hU := kU hU hb
  clear hb
  refine wpl_r5 [(9, .bool qx), (8, .int .u64 ((mx : Nat))), (35, .bool qx), (34, .int .u64 ((mx : Nat))), (30, .tuple #[.int .u64 ((mx : Nat)), .bool qx])] kr (wpl_end (then_normal (wp_seq ?_)))
  refine wp_cutK (α := Nat) (fun D => [(7, .int .i64 ((D : Nat))), (0, .int .u8 op), (4, .pointer (some ⟨Na, 0, none⟩)), (5, .pointer (some ⟨Nb, 0, none⟩)), (6, .pointer (some ⟨Nu, 0, none⟩))]) (fun D W => Below w.heap.size w W ∧ Hid (RQ W A1 l1) ∧ Hid (RQ W A2 l2) ∧ Hid (Box Na A1 l1.length c1 s1 W) ∧ Hid (Box Nb A2 l2.length c2 s2 W) ∧ Hid (Box Nu none 0 0 false W) ∧ D = min M l1.length) ?_ ?_
  refine wp_seq ?_
  rcases hx with ⟨hq, hm, hm2⟩ | ⟨hq, hm, hm2⟩
  subst hq
  rcases Nat.lt_or_ge mx l1.length with hml | hml
  refine reg_lit (wpl_r4 [(39, .int .i64 ((l1.length : Nat))), (38, .int .u64 ((mx : Nat))), (37, .bool true), (36, .bool true)] kr (wpl_val rfl kr (run_convi64u (a := (l1.length : Int)) rfl kr (by omega) (by omega)) (wpl_val rfl kr (run_lssu (a := (mx : Int)) (b := (l1.length : Int)) rfl kr kr (decide_eq_true (by omega))) (wpl_r1 [(42, .bool true)] kr (wpl_end (then_normal (wp_ift kr ?_)))))))
  refine reg_lit (wpl_r1 [(43, .int .u64 ((mx : Nat)))] kr (wpl_val rfl kr (run_convu64i (a := (mx : Int)) rfl kr (by omega) (by omega)) (wpl_r1 [(7, .int .i64 ((mx : Nat)))] kr (wpl_end ?_))))
  refine then_normal ⟨mx, _, rfl, Kp_c kr (Kp_c kr (Kp_c kr (Kp_c kr (Kp_c kr (Kp_n))))), ?_⟩
  exact ⟨hU, O1, O2, Ba, Bb, Bu, by omega⟩
  refine reg_lit (wpl_r4 [(39, .int .i64 ((l1.length : Nat))), (38, .int .u64 ((mx : Nat))), (37, .bool true), (36, .bool true)] kr (wpl_val rfl kr (run_convi64u (a := (l1.length : Int)) rfl kr (by omega) (by omega)) (wpl_val rfl kr (run_lssu (a := (mx : Int)) (b := (l1.length : Int)) rfl kr kr (decide_eq_false (by omega))) (wpl_r1 [(42, .bool false)] kr (wpl_end (then_normal (wp_iff kr ?_)))))))
  refine wp_skip ?_
  refine then_normal ⟨l1.length, _, rfl, Kp_c kr (Kp_c kr (Kp_c kr (Kp_c kr (Kp_c kr (Kp_n))))), ?_⟩
  exact ⟨hU, O1, O2, Ba, Bb, Bu, by omega⟩
  subst hq
  refine reg_lit (wpl_r7 [(42, .bool false), (41, undef), (40, undef), (39, undef), (38, undef), (37, .bool false), (36, .bool false)] kr (wpl_end (then_normal (wp_iff kr (wp_skip ?_)))))
  refine then_normal ⟨l1.length, _, rfl, Kp_c kr (Kp_c kr (Kp_c kr (Kp_c kr (Kp_c kr (Kp_n))))), ?_⟩
  exact ⟨hU, O1, O2, Ba, Bb, Bu, by omega⟩
  rintro D X14 w14 h
  clear hU O1 O2 Ba Bb Bu
  obtain ⟨hU, O1, O2, Ba, Bb, Bu, hD⟩ := h
  refine then_normal (wp_seq (reg_lit (wpl_r1 [(10, .int .u8 0)] kr (wpl_end (then_normal (wp_seq (wp_seq ?_)))))))
  rcases hop with rfl | rfl | rfl | rfl
  obtain ⟨F, hF⟩ : ∃ F : Nat → Int, F = fun i : Nat => if 0 ≤ -(D : Int) + (i : Int) ∧ -(D : Int) + (i : Int) < l1.length then qt l1 (-(D : Int) + (i : Int)).toNat else 0 := ⟨_, rfl⟩
  have hF1 : ∀ i j : Nat, -(D : Int) + (i : Int) = j → j < l1.length → F i = qt l1 j := fun i j h1 h2 => by rw [hF]; dsimp only; rw [if_pos (by omega), show (-(D : Int) + (i : Int)).toNat = j by omega]
  have hF2 : ∀ i : Nat, (-(D : Int) + (i : Int) < 0 ∨ (l1.length : Int) ≤ -(D : Int) + (i : Int)) → F i = 0 := fun i h1 => by rw [hF]; exact if_neg (by omega)
  have hR : ⟨ql l1.length F, s1⟩ = shfV 41 ⟨la, sa⟩ ⟨lb, sb⟩ := by rw [hF]; show _ = shf mShl _ _; rw [shf_known hc1 hc2 hk, ← hM, ← hD]; unfold mShl wdw; rfl
  clear hF
  refine reg_lit (wpl_r6 [(50, .bool false), (49, undef), (48, undef), (47, .bool false), (46, .bool false), (45, .int .u8 41)] kr (wpl_end (then_normal (wp_iff kr (wp_skip (then_normal (wp_seq ?_)))))))
  refine reg_lit (wpl_r1 [(59, .pointer (some ⟨Na, 1, none⟩))] kr (wpl_ldsg Ba.out rfl kr rfl kr (wpl_r1 [(61, .agg #[.slice none 0 0, .bool s1])] kr (wpl_made (A := none) (m := 0) (c := 0) (s := s1) rfl rfl rfl rfl rfl rfl (fun _ => kr) (fun _ => kr) ?_))))
  intro wz No Bo hNo hV
  have hna : Na < No + 1 := by have := Ba.out.lt; omega
  have hnb : Nb < No + 1 := by have := Bb.out.lt; omega
  have hnu : Nu < No + 1 := by have := Bu.out.lt; omega
  refine wpl_end (then_normal (wp_seq (wp_seq (reg_lit (wpl_r1 [(12, .int .i64 0)] kr (wpl_end (then_normal ?_)))))))
  refine wp_block (loop_r (l1.length + 1) ?_)
  refine loop_inv (N := l1.length) (fun k E W => Kp [(12, .int .i64 (k : Nat)), (0, .int .u8 41), (4, .pointer (some ⟨Na, 0, none⟩)), (6, .pointer (some ⟨Nu, 0, none⟩)), (7, .int .i64 ((D : Nat))), (10, .int .u8 0), (11, .pointer (some ⟨No, 0, none⟩))] E ∧ Below w14.heap.size w14 W ∧ ∃ A c, Box No A (ql k F).length c s1 W ∧ OwnV (No + 1) A (ql k F) c W) ?_ _ 0 _ _ (Nat.zero_le _) (by omega) ⟨Kp_c kr (Kp_c kr (Kp_c kr (Kp_c kr (Kp_c kr (Kp_c kr (Kp_c kr (Kp_n))))))), hV, none, 0, Bo, OwnV.nil _ _⟩
  clear hV Bo
  intro k E W next hk hI hnext
  obtain ⟨hKp, hV, Ao, co, Bo, Ho⟩ := hI
  obtain ⟨lo, hlo⟩ : ∃ lo, lo = ql k F := ⟨_, rfl⟩
  rw [← hlo] at Bo Ho
  replace Bo := hide Bo
  replace Ho := hide Ho
  have hlk : lo.length = k := by rw [hlo, ql_length]
  have hlo4 : lo.length ≤ 4096 := by omega
  have hB : No + 1 ≤ W.heap.size := Bo.out.lt
  refine wp_keep _ hKp (fun X => ?_)
  clear hKp
  refine wp_seq (wp_seq ?_)
  rcases Nat.lt_or_ge k l1.length with hlt | hge
  refine reg_lit (wpl_r2 [(63, .pointer (some ⟨Na, 0, none⟩)), (62, .int .i64 ((k : Nat)))] kr ?_)
  refine wpl_ldsl (Ba.out.kept hV) rfl kr rfl kr ?_
  refine wpl_r1 [(65, .int .i64 ((l1.length : Nat)))] kr (wpl_val rfl kr (run_lss (a := (k : Int)) (b := (l1.length : Int)) rfl kr kr (decide_eq_true (by omega))) (wpl_end (then_normal (wp_ift kr (wp_skip (then_normal (wp_seq ?_)))))))
  refine wp_block (wp_seq ?_)
  rcases Int.lt_or_le ((k : Int) - (D : Int)) 0 with hn0 | hn0
  refine reg_lit (wpl_r2 [(70, .int .i64 ((D : Nat))), (69, .int .i64 ((k : Nat)))] kr (wpl_val rfl kr (run_add (a := (k : Int)) (b := (D : Int)) (c := ((k : Int) + (D : Int))) rfl kr kr (rfl) (by omega) (by omega)) (wpl_r1 [(13, .int .i64 (((k : Int) + (D : Int))))] kr (wpl_end (then_normal (wp_seq (sw_t [(77, .bool true), (76, undef), (75, undef), (74, .bool true), (73, .bool true), (72, .int .u8 41)] rfl kr kr ?_)))))))
  refine reg_lit (wpl_r2 [(79, .int .i64 ((D : Nat))), (78, .int .i64 ((k : Nat)))] kr (wpl_val rfl kr (run_sub (a := (k : Int)) (b := (D : Int)) (c := ((k : Int) - (D : Int))) rfl kr kr (rfl) (by omega) (by omega)) (wpl_r1 [(13, .int .i64 (((k : Int) - (D : Int))))] kr (sx_n (wpl_r1 [(81, .int .i64 (((k : Int) - (D : Int))))] kr (wpl_val rfl kr (run_geq (a := ((k : Int) - (D : Int))) (b := 0) rfl kr kr (decide_eq_false (by omega))) (wpl_r7 [(89, .bool false), (88, undef), (87, undef), (86, undef), (85, undef), (84, undef), (83, .bool false)] kr ?_)))))))
  refine wpl_end (then_normal (wp_iff kr ?_))
  have hz : lo ++ [0] = ql (k + 1) F := by rw [ql_snoc, ← hlo, hF2 k (by omega)]
  refine reg_lit (wpl_r1 [(100, .pointer (some ⟨No, 0, none⟩))] kr (wpl_ldsl Bo.out rfl kr rfl kr (wpl_r1 [(102, .int .u8 0)] kr (wpl_app1q (z := 0) Ho.out hB hlo4 rfl rfl rfl kr rfl rfl rfl (fun _ => kr) (fun _ => kr) ?_))))
  intro V A2 c2 Hv hb
  refine wpl_r1 [(105, .pointer (some ⟨No, 0, none⟩))] kr ?_
  refine wpl_none (w' := V.setCell ⟨No, 0, none⟩ (.slice A2 (lo ++ [0]).length c2)) rfl kr (run_stsl rfl kr kr (Bo.out.keptB hb (Nat.lt_succ_self _))) ?_
  have HS := fit_next hV hNo Bo.out hb Hv hz
  refine wpl_end (block_normal (then_normal (reg_lit (wpl_r1 [(67, .int .i64 ((k : Nat)))] kr (wpl_val rfl kr (run_add (a := (k : Int)) (b := 1) (c := ((k + 1 : Int) : Int)) rfl kr kr (by omega) (by omega) (by omega)) (wpl_r1 [(12, .int .i64 (((k + 1 : Nat) : Int)))] kr (wpl_end ?_)))))))
  refine then_normal (hnext _ _ hlt ⟨Kp_c kr (Kp_c kr (Kp_c kr (Kp_c kr (Kp_c kr (Kp_c kr (Kp_c kr (Kp_n))))))), HS⟩)
  obtain ⟨j, hj⟩ : ∃ j : Nat, (k : Int) - (D : Int) = j := ⟨((k : Int) - (D : Int)).toNat, by omega⟩
  rcases Nat.lt_or_ge j l1.length with hj1 | hj1
  refine reg_lit (wpl_r2 [(70, .int .i64 ((D : Nat))), (69, .int .i64 ((k : Nat)))] kr (wpl_val rfl kr (run_add (a := (k : Int)) (b := (D : Int)) (c := ((k : Int) + (D : Int))) rfl kr kr (rfl) (by omega) (by omega)) (wpl_r1 [(13, .int .i64 (((k : Int) + (D : Int))))] kr (wpl_end (then_normal (wp_seq (sw_t [(77, .bool true), (76, undef), (75, undef), (74, .bool true), (73, .bool true), (72, .int .u8 41)] rfl kr kr ?_)))))))
  refine reg_lit (wpl_r2 [(79, .int .i64 ((D : Nat))), (78, .int .i64 ((k : Nat)))] kr (wpl_val rfl kr (run_sub (a := (k : Int)) (b := (D : Int)) (c := (j : Int)) rfl kr kr (by omega) (by omega) (by omega)) (wpl_r1 [(13, .int .i64 ((j : Nat)))] kr (sx_n (wpl_r1 [(81, .int .i64 ((j : Nat)))] kr (wpl_val rfl kr (run_geq (a := (j : Int)) (b := 0) rfl kr kr (decide_eq_true (by omega))) (wpl_r3 [(85, .pointer (some ⟨Na, 0, none⟩)), (84, .int .i64 ((j : Nat))), (83, .bool true)] kr ?_)))))))
  refine wpl_ldsl (Ba.out.kept hV) rfl kr rfl kr ?_
  refine wpl_r1 [(87, .int .i64 ((l1.length : Nat)))] kr (wpl_val rfl kr (run_lss (a := (j : Int)) (b := (l1.length : Int)) rfl kr kr (decide_eq_true (by omega))) (wpl_r1 [(89, .bool true)] kr (wpl_end (then_normal (wp_ift kr ?_)))))
  have hz : lo ++ [qt l1 j] = ql (k + 1) F := by rw [ql_snoc, ← hlo, hF1 k j (by omega) hj1]
  obtain ⟨ad, hA, hc⟩ := RQ.bitB O1.out hV (B := No + 1) (by omega) hj1
  refine gregion (n := 10) (N := 11) (fun x => Below (No + 1) W x) kr kr kr kr kr kr (Below.refl _ _).drew (fun _ _ _ _ _ h => h) ?_
  intro Fr hQ
  refine gany_val (i := 0) (m' := 1) (v := .pointer (some ⟨No, 0, none⟩)) Fr hQ rfl rfl kr kr kr kr kr (fun _ hb => by kernel_rfl) ?_
  refine gany_val (i := 1) (m' := 3) (v := .slice Ao lo.length co) Fr hQ rfl rfl kr kr kr kr kr (fun _ hb => run_ldsl rfl kr (Box.keptB Bo.out hb (Nat.lt_succ_self _))) ?_
  refine gany_val (i := 2) (m' := 7) (v := .pointer (some ⟨Na, 0, none⟩)) Fr hQ rfl rfl kr kr kr kr kr (fun _ hb => by kernel_rfl) ?_
  refine gany_val (i := 3) (m' := 15) (v := .slice A1 l1.length c1) Fr hQ rfl rfl kr kr kr kr kr (fun _ hb => run_ldsl rfl kr (Box.keptB (Ba.out.kept hV) hb hna)) ?_
  refine gany_val (i := 4) (m' := 31) (v := .int .i64 ((j : Nat))) Fr hQ rfl rfl kr kr kr kr kr (fun _ hb => by kernel_rfl) (gany_val (i := 5) (m' := 63) (v := .pointer (some (ad.add j))) Fr hQ rfl rfl kr kr kr kr kr (fun _ hb => run_ix (k := j) (m := l1.length) (cc := c1) rfl kr hA kr hj1) (gany_val (i := 6) (m' := 127) (v := .int .u8 ((qt l1 j))) Fr hQ rfl rfl kr kr kr kr kr (fun _ hb => run_ldbit rfl kr (hc _ hb)) (gany_one (i := 7) kr (gstep_app (j := 8) (m' := 255) (j' := 511) (z := (qt l1 j)) Ho.out.drew' W hB hlo4 (fun _ hb h => h.trans (hb.mono hB)) (fun _ _ hb h => h.trans hb) rfl rfl kr kr kr rfl kr kr rfl rfl kr rfl kr rfl (fun _ => kr) (fun _ => kr) ?_))))
  intro V A2 c2 Hv hb
  replace hb : Below (No + 1) W V := ((Below.refl _ _).drew).trans hb
  refine gany_val (i := 9) (m' := 1023) (v := .pointer (some ⟨No, 0, none⟩)) Fr hQ rfl rfl kr kr kr kr kr (fun _ hb => by kernel_rfl) (gany_e ?_)
  refine gany_none (i := 10) (m' := 2047) (w' := V.setCell ⟨No, 0, none⟩ (.slice A2 (lo ++ [(qt l1 j)]).length c2)) rfl rfl kr kr kr kr (run_stsl rfl kr kr (Bo.out.keptB hb (Nat.lt_succ_self _))) ?_
  refine gany_done kr ?_
  have HS := fit_next hV hNo Bo.out hb Hv hz
  clear Fr hQ
  refine block_normal (then_normal (reg_lit (wpl_r1 [(67, .int .i64 ((k : Nat)))] kr (wpl_val rfl kr (run_add (a := (k : Int)) (b := 1) (c := ((k + 1 : Int) : Int)) rfl kr kr (by omega) (by omega) (by omega)) (wpl_r1 [(12, .int .i64 (((k + 1 : Nat) : Int)))] kr (wpl_end ?_))))))
  refine then_normal (hnext _ _ hlt ⟨Kp_c kr (Kp_c kr (Kp_c kr (Kp_c kr (Kp_c kr (Kp_c kr (Kp_c kr (Kp_n))))))), HS⟩)
  refine reg_lit (wpl_r2 [(70, .int .i64 ((D : Nat))), (69, .int .i64 ((k : Nat)))] kr (wpl_val rfl kr (run_add (a := (k : Int)) (b := (D : Int)) (c := ((k : Int) + (D : Int))) rfl kr kr (rfl) (by omega) (by omega)) (wpl_r1 [(13, .int .i64 (((k : Int) + (D : Int))))] kr (wpl_end (then_normal (wp_seq (sw_t [(77, .bool true), (76, undef), (75, undef), (74, .bool true), (73, .bool true), (72, .int .u8 41)] rfl kr kr ?_)))))))
  refine reg_lit (wpl_r2 [(79, .int .i64 ((D : Nat))), (78, .int .i64 ((k : Nat)))] kr (wpl_val rfl kr (run_sub (a := (k : Int)) (b := (D : Int)) (c := (j : Int)) rfl kr kr (by omega) (by omega) (by omega)) (wpl_r1 [(13, .int .i64 ((j : Nat)))] kr (sx_n (wpl_r1 [(81, .int .i64 ((j : Nat)))] kr (wpl_val rfl kr (run_geq (a := (j : Int)) (b := 0) rfl kr kr (decide_eq_true (by omega))) (wpl_r3 [(85, .pointer (some ⟨Na, 0, none⟩)), (84, .int .i64 ((j : Nat))), (83, .bool true)] kr ?_)))))))
  refine wpl_ldsl (Ba.out.kept hV) rfl kr rfl kr ?_
  refine wpl_r1 [(87, .int .i64 ((l1.length : Nat)))] kr (wpl_val rfl kr (run_lss (a := (j : Int)) (b := (l1.length : Int)) rfl kr kr (decide_eq_false (by omega))) (wpl_r1 [(89, .bool false)] kr (wpl_end (then_normal (wp_iff kr ?_)))))
  have hz : lo ++ [0] = ql (k + 1) F := by rw [ql_snoc, ← hlo, hF2 k (by omega)]
  refine reg_lit (wpl_r1 [(100, .pointer (some ⟨No, 0, none⟩))] kr (wpl_ldsl Bo.out rfl kr rfl kr (wpl_r1 [(102, .int .u8 0)] kr (wpl_app1q (z := 0) Ho.out hB hlo4 rfl rfl rfl kr rfl rfl rfl (fun _ => kr) (fun _ => kr) ?_))))
  intro V A2 c2 Hv hb
  refine wpl_r1 [(105, .pointer (some ⟨No, 0, none⟩))] kr ?_
  refine wpl_none (w' := V.setCell ⟨No, 0, none⟩ (.slice A2 (lo ++ [0]).length c2)) rfl kr (run_stsl rfl kr kr (Bo.out.keptB hb (Nat.lt_succ_self _))) ?_
  have HS := fit_next hV hNo Bo.out hb Hv hz
  refine wpl_end (block_normal (then_normal (reg_lit (wpl_r1 [(67, .int .i64 ((k : Nat)))] kr (wpl_val rfl kr (run_add (a := (k : Int)) (b := 1) (c := ((k + 1 : Int) : Int)) rfl kr kr (by omega) (by omega) (by omega)) (wpl_r1 [(12, .int .i64 (((k + 1 : Nat) : Int)))] kr (wpl_end ?_)))))))
  refine then_normal (hnext _ _ hlt ⟨Kp_c kr (Kp_c kr (Kp_c kr (Kp_c kr (Kp_c kr (Kp_c kr (Kp_c kr (Kp_n))))))), HS⟩)
  refine reg_lit (wpl_r2 [(63, .pointer (some ⟨Na, 0, none⟩)), (62, .int .i64 ((k : Nat)))] kr ?_)
  refine wpl_ldsl (Ba.out.kept hV) rfl kr rfl kr ?_
  refine wpl_r1 [(65, .int .i64 ((l1.length : Nat)))] kr (wpl_val rfl kr (run_lss (a := (k : Int)) (b := (l1.length : Int)) rfl kr kr (decide_eq_false (by omega))) (wpl_end (then_normal (wp_iff kr (wp_exit (then_exit (then_exit ?_)))))))
  refine exit_here (then_normal (wp_seq (reg_lit (wpl_ldvec Bo.out rfl kr rfl kr ?_))))
  refine wpl_stq (A2 := Ao) (m2 := lo.length) (c2 := co) (s2 := s1) (Bu.out.kept hV) rfl kr rfl kr kr ?_
  intro V Bq hkeep hbel
  refine wpl_end (then_normal (wp_ret (ret_box Bq rfl kr ?_)))
  obtain rfl : k = l1.length := by omega
  exact ⟨lo, s1, Ao, co, hide (by rw [← hR, hlo]), rfl, Ho.out.open_.1, hide (OwQ.low (OwQ.std (m2 := 0) (c2 := 0) (A2 := none) (s2 := false) Ho.out.open_.2.out hbel hnu hkeep) (by have := hU.size; omega)), (hU.trans (hV.mono hU.size)).trans (hbel hzu)⟩
  obtain ⟨F, hF⟩ : ∃ F : Nat → Int, F = fun i : Nat => if 0 ≤ (D : Int) + (i : Int) ∧ (D : Int) + (i : Int) < l1.length then qt l1 ((D : Int) + (i : Int)).toNat else 0 := ⟨_, rfl⟩
  have hF1 : ∀ i j : Nat, (D : Int) + (i : Int) = j → j < l1.length → F i = qt l1 j := fun i j h1 h2 => by rw [hF]; dsimp only; rw [if_pos (by omega), show ((D : Int) + (i : Int)).toNat = j by omega]
  have hF2 : ∀ i : Nat, ((D : Int) + (i : Int) < 0 ∨ (l1.length : Int) ≤ (D : Int) + (i : Int)) → F i = 0 := fun i h1 => by rw [hF]; exact if_neg (by omega)
  have hR : ⟨ql l1.length F, s1⟩ = shfV 42 ⟨la, sa⟩ ⟨lb, sb⟩ := by rw [hF]; show _ = shf mShr _ _; rw [shf_known hc1 hc2 hk, ← hM, ← hD]; unfold mShr wdw; rfl
  clear hF
  refine reg_lit (wpl_r6 [(50, .bool false), (49, undef), (48, undef), (47, .bool false), (46, .bool false), (45, .int .u8 42)] kr (wpl_end (then_normal (wp_iff kr (wp_skip (then_normal (wp_seq ?_)))))))
  refine reg_lit (wpl_r1 [(59, .pointer (some ⟨Na, 1, none⟩))] kr (wpl_ldsg Ba.out rfl kr rfl kr (wpl_r1 [(61, .agg #[.slice none 0 0, .bool s1])] kr (wpl_made (A := none) (m := 0) (c := 0) (s := s1) rfl rfl rfl rfl rfl rfl (fun _ => kr) (fun _ => kr) ?_))))
  intro wz No Bo hNo hV
  have hna : Na < No + 1 := by have := Ba.out.lt; omega
  have hnb : Nb < No + 1 := by have := Bb.out.lt; omega
  have hnu : Nu < No + 1 := by have := Bu.out.lt; omega
  refine wpl_end (then_normal (wp_seq (wp_seq (reg_lit (wpl_r1 [(12, .int .i64 0)] kr (wpl_end (then_normal ?_)))))))
  refine wp_block (loop_r (l1.length + 1) ?_)
  refine loop_inv (N := l1.length) (fun k E W => Kp [(12, .int .i64 (k : Nat)), (0, .int .u8 42), (4, .pointer (some ⟨Na, 0, none⟩)), (6, .pointer (some ⟨Nu, 0, none⟩)), (7, .int .i64 ((D : Nat))), (10, .int .u8 0), (11, .pointer (some ⟨No, 0, none⟩))] E ∧ Below w14.heap.size w14 W ∧ ∃ A c, Box No A (ql k F).length c s1 W ∧ OwnV (No + 1) A (ql k F) c W) ?_ _ 0 _ _ (Nat.zero_le _) (by omega) ⟨Kp_c kr (Kp_c kr (Kp_c kr (Kp_c kr (Kp_c kr (Kp_c kr (Kp_c kr (Kp_n))))))), hV, none, 0, Bo, OwnV.nil _ _⟩
  clear hV Bo
  intro k E W next hk hI hnext
  obtain ⟨hKp, hV, Ao, co, Bo, Ho⟩ := hI
  obtain ⟨lo, hlo⟩ : ∃ lo, lo = ql k F := ⟨_, rfl⟩
  rw [← hlo] at Bo Ho
  replace Bo := hide Bo
  replace Ho := hide Ho
  have hlk : lo.length = k := by rw [hlo, ql_length]
  have hlo4 : lo.length ≤ 4096 := by omega
  have hB : No + 1 ≤ W.heap.size := Bo.out.lt
  refine wp_keep _ hKp (fun X => ?_)
  clear hKp
  refine wp_seq (wp_seq ?_)
  rcases Nat.lt_or_ge k l1.length with hlt | hge
  refine reg_lit (wpl_r2 [(63, .pointer (some ⟨Na, 0, none⟩)), (62, .int .i64 ((k : Nat)))] kr ?_)
  refine wpl_ldsl (Ba.out.kept hV) rfl kr rfl kr ?_
  refine wpl_r1 [(65, .int .i64 ((l1.length : Nat)))] kr (wpl_val rfl kr (run_lss (a := (k : Int)) (b := (l1.length : Int)) rfl kr kr (decide_eq_true (by omega))) (wpl_end (then_normal (wp_ift kr (wp_skip (then_normal (wp_seq ?_)))))))
  refine wp_block (wp_seq ?_)
  obtain ⟨j, hj⟩ : ∃ j : Nat, (k : Int) + (D : Int) = j := ⟨k + D, by omega⟩
  rcases Nat.lt_or_ge j l1.length with hj1 | hj1
  refine reg_lit (wpl_r2 [(70, .int .i64 ((D : Nat))), (69, .int .i64 ((k : Nat)))] kr (wpl_val rfl kr (run_add (a := (k : Int)) (b := (D : Int)) (c := (j : Int)) rfl kr kr (by omega) (by omega) (by omega)) (wpl_r1 [(13, .int .i64 ((j : Nat)))] kr (wpl_end (then_normal (wp_seq (sw_f [(77, .bool false), (76, .bool false), (75, .int .u8 42), (74, .bool false), (73, .bool false), (72, .int .u8 42)] rfl kr kr ?_)))))))
  refine wp_skip (then_normal (wp_seq (reg_lit (wpl_r1 [(81, .int .i64 ((j : Nat)))] kr (wpl_val rfl kr (run_geq (a := (j : Int)) (b := 0) rfl kr kr (decide_eq_true (by omega))) (wpl_r3 [(85, .pointer (some ⟨Na, 0, none⟩)), (84, .int .i64 ((j : Nat))), (83, .bool true)] kr ?_))))))
  refine wpl_ldsl (Ba.out.kept hV) rfl kr rfl kr ?_
  refine wpl_r1 [(87, .int .i64 ((l1.length : Nat)))] kr (wpl_val rfl kr (run_lss (a := (j : Int)) (b := (l1.length : Int)) rfl kr kr (decide_eq_true (by omega))) (wpl_r1 [(89, .bool true)] kr (wpl_end (then_normal (wp_ift kr ?_)))))
  have hz : lo ++ [qt l1 j] = ql (k + 1) F := by rw [ql_snoc, ← hlo, hF1 k j (by omega) hj1]
  obtain ⟨ad, hA, hc⟩ := RQ.bitB O1.out hV (B := No + 1) (by omega) hj1
  refine gregion (n := 10) (N := 11) (fun x => Below (No + 1) W x) kr kr kr kr kr kr (Below.refl _ _).drew (fun _ _ _ _ _ h => h) ?_
  intro Fr hQ
  refine gany_val (i := 0) (m' := 1) (v := .pointer (some ⟨No, 0, none⟩)) Fr hQ rfl rfl kr kr kr kr kr (fun _ hb => by kernel_rfl) ?_
  refine gany_val (i := 1) (m' := 3) (v := .slice Ao lo.length co) Fr hQ rfl rfl kr kr kr kr kr (fun _ hb => run_ldsl rfl kr (Box.keptB Bo.out hb (Nat.lt_succ_self _))) ?_
  refine gany_val (i := 2) (m' := 7) (v := .pointer (some ⟨Na, 0, none⟩)) Fr hQ rfl rfl kr kr kr kr kr (fun _ hb => by kernel_rfl) ?_
  refine gany_val (i := 3) (m' := 15) (v := .slice A1 l1.length c1) Fr hQ rfl rfl kr kr kr kr kr (fun _ hb => run_ldsl rfl kr (Box.keptB (Ba.out.kept hV) hb hna)) ?_
  refine gany_val (i := 4) (m' := 31) (v := .int .i64 ((j : Nat))) Fr hQ rfl rfl kr kr kr kr kr (fun _ hb => by kernel_rfl) (gany_val (i := 5) (m' := 63) (v := .pointer (some (ad.add j))) Fr hQ rfl rfl kr kr kr kr kr (fun _ hb => run_ix (k := j) (m := l1.length) (cc := c1) rfl kr hA kr hj1) (gany_val (i := 6) (m' := 127) (v := .int .u8 ((qt l1 j))) Fr hQ rfl rfl kr kr kr kr kr (fun _ hb => run_ldbit rfl kr (hc _ hb)) (gany_one (i := 7) kr (gstep_app (j := 8) (m' := 255) (j' := 511) (z := (qt l1 j)) Ho.out.drew' W hB hlo4 (fun _ hb h => h.trans (hb.mono hB)) (fun _ _ hb h => h.trans hb) rfl rfl kr kr kr rfl kr kr rfl rfl kr rfl kr rfl (fun _ => kr) (fun _ => kr) ?_))))
  intro V A2 c2 Hv hb
  replace hb : Below (No + 1) W V := ((Below.refl _ _).drew).trans hb
  refine gany_val (i := 9) (m' := 1023) (v := .pointer (some ⟨No, 0, none⟩)) Fr hQ rfl rfl kr kr kr kr kr (fun _ hb => by kernel_rfl) (gany_e ?_)
  refine gany_none (i := 10) (m' := 2047) (w' := V.setCell ⟨No, 0, none⟩ (.slice A2 (lo ++ [(qt l1 j)]).length c2)) rfl rfl kr kr kr kr (run_stsl rfl kr kr (Bo.out.keptB hb (Nat.lt_succ_self _))) ?_
  refine gany_done kr ?_
  have HS := fit_next hV hNo Bo.out hb Hv hz
  clear Fr hQ
  refine block_normal (then_normal (reg_lit (wpl_r1 [(67, .int .i64 ((k : Nat)))] kr (wpl_val rfl kr (run_add (a := (k : Int)) (b := 1) (c := ((k + 1 : Int) : Int)) rfl kr kr (by omega) (by omega) (by omega)) (wpl_r1 [(12, .int .i64 (((k + 1 : Nat) : Int)))] kr (wpl_end ?_))))))
  refine then_normal (hnext _ _ hlt ⟨Kp_c kr (Kp_c kr (Kp_c kr (Kp_c kr (Kp_c kr (Kp_c kr (Kp_c kr (Kp_n))))))), HS⟩)
  refine reg_lit (wpl_r2 [(70, .int .i64 ((D : Nat))), (69, .int .i64 ((k : Nat)))] kr (wpl_val rfl kr (run_add (a := (k : Int)) (b := (D : Int)) (c := (j : Int)) rfl kr kr (by omega) (by omega) (by omega)) (wpl_r1 [(13, .int .i64 ((j : Nat)))] kr (wpl_end (then_normal (wp_seq (sw_f [(77, .bool false), (76, .bool false), (75, .int .u8 42), (74, .bool false), (73, .bool false), (72, .int .u8 42)] rfl kr kr ?_)))))))
  refine wp_skip (then_normal (wp_seq (reg_lit (wpl_r1 [(81, .int .i64 ((j : Nat)))] kr (wpl_val rfl kr (run_geq (a := (j : Int)) (b := 0) rfl kr kr (decide_eq_true (by omega))) (wpl_r3 [(85, .pointer (some ⟨Na, 0, none⟩)), (84, .int .i64 ((j : Nat))), (83, .bool true)] kr ?_))))))
  refine wpl_ldsl (Ba.out.kept hV) rfl kr rfl kr ?_
  refine wpl_r1 [(87, .int .i64 ((l1.length : Nat)))] kr (wpl_val rfl kr (run_lss (a := (j : Int)) (b := (l1.length : Int)) rfl kr kr (decide_eq_false (by omega))) (wpl_r1 [(89, .bool false)] kr (wpl_end (then_normal (wp_iff kr ?_)))))
  have hz : lo ++ [0] = ql (k + 1) F := by rw [ql_snoc, ← hlo, hF2 k (by omega)]
  refine reg_lit (wpl_r1 [(100, .pointer (some ⟨No, 0, none⟩))] kr (wpl_ldsl Bo.out rfl kr rfl kr (wpl_r1 [(102, .int .u8 0)] kr (wpl_app1q (z := 0) Ho.out hB hlo4 rfl rfl rfl kr rfl rfl rfl (fun _ => kr) (fun _ => kr) ?_))))
  intro V A2 c2 Hv hb
  refine wpl_r1 [(105, .pointer (some ⟨No, 0, none⟩))] kr ?_
  refine wpl_none (w' := V.setCell ⟨No, 0, none⟩ (.slice A2 (lo ++ [0]).length c2)) rfl kr (run_stsl rfl kr kr (Bo.out.keptB hb (Nat.lt_succ_self _))) ?_
  have HS := fit_next hV hNo Bo.out hb Hv hz
  refine wpl_end (block_normal (then_normal (reg_lit (wpl_r1 [(67, .int .i64 ((k : Nat)))] kr (wpl_val rfl kr (run_add (a := (k : Int)) (b := 1) (c := ((k + 1 : Int) : Int)) rfl kr kr (by omega) (by omega) (by omega)) (wpl_r1 [(12, .int .i64 (((k + 1 : Nat) : Int)))] kr (wpl_end ?_)))))))
  refine then_normal (hnext _ _ hlt ⟨Kp_c kr (Kp_c kr (Kp_c kr (Kp_c kr (Kp_c kr (Kp_c kr (Kp_c kr (Kp_n))))))), HS⟩)
  refine reg_lit (wpl_r2 [(63, .pointer (some ⟨Na, 0, none⟩)), (62, .int .i64 ((k : Nat)))] kr ?_)
  refine wpl_ldsl (Ba.out.kept hV) rfl kr rfl kr ?_
  refine wpl_r1 [(65, .int .i64 ((l1.length : Nat)))] kr (wpl_val rfl kr (run_lss (a := (k : Int)) (b := (l1.length : Int)) rfl kr kr (decide_eq_false (by omega))) (wpl_end (then_normal (wp_iff kr (wp_exit (then_exit (then_exit ?_)))))))
  refine exit_here (then_normal (wp_seq (reg_lit (wpl_ldvec Bo.out rfl kr rfl kr ?_))))
  refine wpl_stq (A2 := Ao) (m2 := lo.length) (c2 := co) (s2 := s1) (Bu.out.kept hV) rfl kr rfl kr kr ?_
  intro V Bq hkeep hbel
  refine wpl_end (then_normal (wp_ret (ret_box Bq rfl kr ?_)))
  obtain rfl : k = l1.length := by omega
  exact ⟨lo, s1, Ao, co, hide (by rw [← hR, hlo]), rfl, Ho.out.open_.1, hide (OwQ.low (OwQ.std (m2 := 0) (c2 := 0) (A2 := none) (s2 := false) Ho.out.open_.2.out hbel hnu hkeep) (by have := hU.size; omega)), (hU.trans (hV.mono hU.size)).trans (hbel hzu)⟩
  obtain ⟨F, hF⟩ : ∃ F : Nat → Int, F = fun i : Nat => if 0 ≤ -(D : Int) + (i : Int) ∧ -(D : Int) + (i : Int) < l1.length then qt l1 (-(D : Int) + (i : Int)).toNat else 0 := ⟨_, rfl⟩
  have hF1 : ∀ i j : Nat, -(D : Int) + (i : Int) = j → j < l1.length → F i = qt l1 j := fun i j h1 h2 => by rw [hF]; dsimp only; rw [if_pos (by omega), show (-(D : Int) + (i : Int)).toNat = j by omega]
  have hF2 : ∀ i : Nat, (-(D : Int) + (i : Int) < 0 ∨ (l1.length : Int) ≤ -(D : Int) + (i : Int)) → F i = 0 := fun i h1 => by rw [hF]; exact if_neg (by omega)
  have hR : ⟨ql l1.length F, s1⟩ = shfV 43 ⟨la, sa⟩ ⟨lb, sb⟩ := by rw [hF]; show _ = shf mShl _ _; rw [shf_known hc1 hc2 hk, ← hM, ← hD]; unfold mShl wdw; rfl
  clear hF
  refine reg_lit (wpl_r6 [(50, .bool false), (49, undef), (48, undef), (47, .bool false), (46, .bool false), (45, .int .u8 43)] kr (wpl_end (then_normal (wp_iff kr (wp_skip (then_normal (wp_seq ?_)))))))
  refine reg_lit (wpl_r1 [(59, .pointer (some ⟨Na, 1, none⟩))] kr (wpl_ldsg Ba.out rfl kr rfl kr (wpl_r1 [(61, .agg #[.slice none 0 0, .bool s1])] kr (wpl_made (A := none) (m := 0) (c := 0) (s := s1) rfl rfl rfl rfl rfl rfl (fun _ => kr) (fun _ => kr) ?_))))
  intro wz No Bo hNo hV
  have hna : Na < No + 1 := by have := Ba.out.lt; omega
  have hnb : Nb < No + 1 := by have := Bb.out.lt; omega
  have hnu : Nu < No + 1 := by have := Bu.out.lt; omega
  refine wpl_end (then_normal (wp_seq (wp_seq (reg_lit (wpl_r1 [(12, .int .i64 0)] kr (wpl_end (then_normal ?_)))))))
  refine wp_block (loop_r (l1.length + 1) ?_)
  refine loop_inv (N := l1.length) (fun k E W => Kp [(12, .int .i64 (k : Nat)), (0, .int .u8 43), (4, .pointer (some ⟨Na, 0, none⟩)), (6, .pointer (some ⟨Nu, 0, none⟩)), (7, .int .i64 ((D : Nat))), (10, .int .u8 0), (11, .pointer (some ⟨No, 0, none⟩))] E ∧ Below w14.heap.size w14 W ∧ ∃ A c, Box No A (ql k F).length c s1 W ∧ OwnV (No + 1) A (ql k F) c W) ?_ _ 0 _ _ (Nat.zero_le _) (by omega) ⟨Kp_c kr (Kp_c kr (Kp_c kr (Kp_c kr (Kp_c kr (Kp_c kr (Kp_c kr (Kp_n))))))), hV, none, 0, Bo, OwnV.nil _ _⟩
  clear hV Bo
  intro k E W next hk hI hnext
  obtain ⟨hKp, hV, Ao, co, Bo, Ho⟩ := hI
  obtain ⟨lo, hlo⟩ : ∃ lo, lo = ql k F := ⟨_, rfl⟩
  rw [← hlo] at Bo Ho
  replace Bo := hide Bo
  replace Ho := hide Ho
  have hlk : lo.length = k := by rw [hlo, ql_length]
  have hlo4 : lo.length ≤ 4096 := by omega
  have hB : No + 1 ≤ W.heap.size := Bo.out.lt
  refine wp_keep _ hKp (fun X => ?_)
  clear hKp
  refine wp_seq (wp_seq ?_)
  rcases Nat.lt_or_ge k l1.length with hlt | hge
  refine reg_lit (wpl_r2 [(63, .pointer (some ⟨Na, 0, none⟩)), (62, .int .i64 ((k : Nat)))] kr ?_)
  refine wpl_ldsl (Ba.out.kept hV) rfl kr rfl kr ?_
  refine wpl_r1 [(65, .int .i64 ((l1.length : Nat)))] kr (wpl_val rfl kr (run_lss (a := (k : Int)) (b := (l1.length : Int)) rfl kr kr (decide_eq_true (by omega))) (wpl_end (then_normal (wp_ift kr (wp_skip (then_normal (wp_seq ?_)))))))
  refine wp_block (wp_seq ?_)
  rcases Int.lt_or_le ((k : Int) - (D : Int)) 0 with hn0 | hn0
  refine reg_lit (wpl_r2 [(70, .int .i64 ((D : Nat))), (69, .int .i64 ((k : Nat)))] kr (wpl_val rfl kr (run_add (a := (k : Int)) (b := (D : Int)) (c := ((k : Int) + (D : Int))) rfl kr kr (rfl) (by omega) (by omega)) (wpl_r1 [(13, .int .i64 (((k : Int) + (D : Int))))] kr (wpl_end (then_normal (wp_seq (sw_t [(77, .bool true), (76, .bool true), (75, .int .u8 43), (74, .bool false), (73, .bool false), (72, .int .u8 43)] rfl kr kr ?_)))))))
  refine reg_lit (wpl_r2 [(79, .int .i64 ((D : Nat))), (78, .int .i64 ((k : Nat)))] kr (wpl_val rfl kr (run_sub (a := (k : Int)) (b := (D : Int)) (c := ((k : Int) - (D : Int))) rfl kr kr (rfl) (by omega) (by omega)) (wpl_r1 [(13, .int .i64 (((k : Int) - (D : Int))))] kr (sx_n (wpl_r1 [(81, .int .i64 (((k : Int) - (D : Int))))] kr (wpl_val rfl kr (run_geq (a := ((k : Int) - (D : Int))) (b := 0) rfl kr kr (decide_eq_false (by omega))) (wpl_r7 [(89, .bool false), (88, undef), (87, undef), (86, undef), (85, undef), (84, undef), (83, .bool false)] kr ?_)))))))
  refine wpl_end (then_normal (wp_iff kr ?_))
  have hz : lo ++ [0] = ql (k + 1) F := by rw [ql_snoc, ← hlo, hF2 k (by omega)]
  refine reg_lit (wpl_r1 [(100, .pointer (some ⟨No, 0, none⟩))] kr (wpl_ldsl Bo.out rfl kr rfl kr (wpl_r1 [(102, .int .u8 0)] kr (wpl_app1q (z := 0) Ho.out hB hlo4 rfl rfl rfl kr rfl rfl rfl (fun _ => kr) (fun _ => kr) ?_))))
  intro V A2 c2 Hv hb
  refine wpl_r1 [(105, .pointer (some ⟨No, 0, none⟩))] kr ?_
  refine wpl_none (w' := V.setCell ⟨No, 0, none⟩ (.slice A2 (lo ++ [0]).length c2)) rfl kr (run_stsl rfl kr kr (Bo.out.keptB hb (Nat.lt_succ_self _))) ?_
  have HS := fit_next hV hNo Bo.out hb Hv hz
  refine wpl_end (block_normal (then_normal (reg_lit (wpl_r1 [(67, .int .i64 ((k : Nat)))] kr (wpl_val rfl kr (run_add (a := (k : Int)) (b := 1) (c := ((k + 1 : Int) : Int)) rfl kr kr (by omega) (by omega) (by omega)) (wpl_r1 [(12, .int .i64 (((k + 1 : Nat) : Int)))] kr (wpl_end ?_)))))))
  refine then_normal (hnext _ _ hlt ⟨Kp_c kr (Kp_c kr (Kp_c kr (Kp_c kr (Kp_c kr (Kp_c kr (Kp_c kr (Kp_n))))))), HS⟩)
  obtain ⟨j, hj⟩ : ∃ j : Nat, (k : Int) - (D : Int) = j := ⟨((k : Int) - (D : Int)).toNat, by omega⟩
  rcases Nat.lt_or_ge j l1.length with hj1 | hj1
  refine reg_lit (wpl_r2 [(70, .int .i64 ((D : Nat))), (69, .int .i64 ((k : Nat)))] kr (wpl_val rfl kr (run_add (a := (k : Int)) (b := (D : Int)) (c := ((k : Int) + (D : Int))) rfl kr kr (rfl) (by omega) (by omega)) (wpl_r1 [(13, .int .i64 (((k : Int) + (D : Int))))] kr (wpl_end (then_normal (wp_seq (sw_t [(77, .bool true), (76, .bool true), (75, .int .u8 43), (74, .bool false), (73, .bool false), (72, .int .u8 43)] rfl kr kr ?_)))))))
  refine reg_lit (wpl_r2 [(79, .int .i64 ((D : Nat))), (78, .int .i64 ((k : Nat)))] kr (wpl_val rfl kr (run_sub (a := (k : Int)) (b := (D : Int)) (c := (j : Int)) rfl kr kr (by omega) (by omega) (by omega)) (wpl_r1 [(13, .int .i64 ((j : Nat)))] kr (sx_n (wpl_r1 [(81, .int .i64 ((j : Nat)))] kr (wpl_val rfl kr (run_geq (a := (j : Int)) (b := 0) rfl kr kr (decide_eq_true (by omega))) (wpl_r3 [(85, .pointer (some ⟨Na, 0, none⟩)), (84, .int .i64 ((j : Nat))), (83, .bool true)] kr ?_)))))))
  refine wpl_ldsl (Ba.out.kept hV) rfl kr rfl kr ?_
  refine wpl_r1 [(87, .int .i64 ((l1.length : Nat)))] kr (wpl_val rfl kr (run_lss (a := (j : Int)) (b := (l1.length : Int)) rfl kr kr (decide_eq_true (by omega))) (wpl_r1 [(89, .bool true)] kr (wpl_end (then_normal (wp_ift kr ?_)))))
  have hz : lo ++ [qt l1 j] = ql (k + 1) F := by rw [ql_snoc, ← hlo, hF1 k j (by omega) hj1]
  obtain ⟨ad, hA, hc⟩ := RQ.bitB O1.out hV (B := No + 1) (by omega) hj1
  refine gregion (n := 10) (N := 11) (fun x => Below (No + 1) W x) kr kr kr kr kr kr (Below.refl _ _).drew (fun _ _ _ _ _ h => h) ?_
  intro Fr hQ
  refine gany_val (i := 0) (m' := 1) (v := .pointer (some ⟨No, 0, none⟩)) Fr hQ rfl rfl kr kr kr kr kr (fun _ hb => by kernel_rfl) ?_
  refine gany_val (i := 1) (m' := 3) (v := .slice Ao lo.length co) Fr hQ rfl rfl kr kr kr kr kr (fun _ hb => run_ldsl rfl kr (Box.keptB Bo.out hb (Nat.lt_succ_self _))) ?_
  refine gany_val (i := 2) (m' := 7) (v := .pointer (some ⟨Na, 0, none⟩)) Fr hQ rfl rfl kr kr kr kr kr (fun _ hb => by kernel_rfl) ?_
  refine gany_val (i := 3) (m' := 15) (v := .slice A1 l1.length c1) Fr hQ rfl rfl kr kr kr kr kr (fun _ hb => run_ldsl rfl kr (Box.keptB (Ba.out.kept hV) hb hna)) ?_
  refine gany_val (i := 4) (m' := 31) (v := .int .i64 ((j : Nat))) Fr hQ rfl rfl kr kr kr kr kr (fun _ hb => by kernel_rfl) (gany_val (i := 5) (m' := 63) (v := .pointer (some (ad.add j))) Fr hQ rfl rfl kr kr kr kr kr (fun _ hb => run_ix (k := j) (m := l1.length) (cc := c1) rfl kr hA kr hj1) (gany_val (i := 6) (m' := 127) (v := .int .u8 ((qt l1 j))) Fr hQ rfl rfl kr kr kr kr kr (fun _ hb => run_ldbit rfl kr (hc _ hb)) (gany_one (i := 7) kr (gstep_app (j := 8) (m' := 255) (j' := 511) (z := (qt l1 j)) Ho.out.drew' W hB hlo4 (fun _ hb h => h.trans (hb.mono hB)) (fun _ _ hb h => h.trans hb) rfl rfl kr kr kr rfl kr kr rfl rfl kr rfl kr rfl (fun _ => kr) (fun _ => kr) ?_))))
  intro V A2 c2 Hv hb
  replace hb : Below (No + 1) W V := ((Below.refl _ _).drew).trans hb
  refine gany_val (i := 9) (m' := 1023) (v := .pointer (some ⟨No, 0, none⟩)) Fr hQ rfl rfl kr kr kr kr kr (fun _ hb => by kernel_rfl) (gany_e ?_)
  refine gany_none (i := 10) (m' := 2047) (w' := V.setCell ⟨No, 0, none⟩ (.slice A2 (lo ++ [(qt l1 j)]).length c2)) rfl rfl kr kr kr kr (run_stsl rfl kr kr (Bo.out.keptB hb (Nat.lt_succ_self _))) ?_
  refine gany_done kr ?_
  have HS := fit_next hV hNo Bo.out hb Hv hz
  clear Fr hQ
  refine block_normal (then_normal (reg_lit (wpl_r1 [(67, .int .i64 ((k : Nat)))] kr (wpl_val rfl kr (run_add (a := (k : Int)) (b := 1) (c := ((k + 1 : Int) : Int)) rfl kr kr (by omega) (by omega) (by omega)) (wpl_r1 [(12, .int .i64 (((k + 1 : Nat) : Int)))] kr (wpl_end ?_))))))
  refine then_normal (hnext _ _ hlt ⟨Kp_c kr (Kp_c kr (Kp_c kr (Kp_c kr (Kp_c kr (Kp_c kr (Kp_c kr (Kp_n))))))), HS⟩)
  refine reg_lit (wpl_r2 [(70, .int .i64 ((D : Nat))), (69, .int .i64 ((k : Nat)))] kr (wpl_val rfl kr (run_add (a := (k : Int)) (b := (D : Int)) (c := ((k : Int) + (D : Int))) rfl kr kr (rfl) (by omega) (by omega)) (wpl_r1 [(13, .int .i64 (((k : Int) + (D : Int))))] kr (wpl_end (then_normal (wp_seq (sw_t [(77, .bool true), (76, .bool true), (75, .int .u8 43), (74, .bool false), (73, .bool false), (72, .int .u8 43)] rfl kr kr ?_)))))))
  refine reg_lit (wpl_r2 [(79, .int .i64 ((D : Nat))), (78, .int .i64 ((k : Nat)))] kr (wpl_val rfl kr (run_sub (a := (k : Int)) (b := (D : Int)) (c := (j : Int)) rfl kr kr (by omega) (by omega) (by omega)) (wpl_r1 [(13, .int .i64 ((j : Nat)))] kr (sx_n (wpl_r1 [(81, .int .i64 ((j : Nat)))] kr (wpl_val rfl kr (run_geq (a := (j : Int)) (b := 0) rfl kr kr (decide_eq_true (by omega))) (wpl_r3 [(85, .pointer (some ⟨Na, 0, none⟩)), (84, .int .i64 ((j : Nat))), (83, .bool true)] kr ?_)))))))
  refine wpl_ldsl (Ba.out.kept hV) rfl kr rfl kr ?_
  refine wpl_r1 [(87, .int .i64 ((l1.length : Nat)))] kr (wpl_val rfl kr (run_lss (a := (j : Int)) (b := (l1.length : Int)) rfl kr kr (decide_eq_false (by omega))) (wpl_r1 [(89, .bool false)] kr (wpl_end (then_normal (wp_iff kr ?_)))))
  have hz : lo ++ [0] = ql (k + 1) F := by rw [ql_snoc, ← hlo, hF2 k (by omega)]
  refine reg_lit (wpl_r1 [(100, .pointer (some ⟨No, 0, none⟩))] kr (wpl_ldsl Bo.out rfl kr rfl kr (wpl_r1 [(102, .int .u8 0)] kr (wpl_app1q (z := 0) Ho.out hB hlo4 rfl rfl rfl kr rfl rfl rfl (fun _ => kr) (fun _ => kr) ?_))))
  intro V A2 c2 Hv hb
  refine wpl_r1 [(105, .pointer (some ⟨No, 0, none⟩))] kr ?_
  refine wpl_none (w' := V.setCell ⟨No, 0, none⟩ (.slice A2 (lo ++ [0]).length c2)) rfl kr (run_stsl rfl kr kr (Bo.out.keptB hb (Nat.lt_succ_self _))) ?_
  have HS := fit_next hV hNo Bo.out hb Hv hz
  refine wpl_end (block_normal (then_normal (reg_lit (wpl_r1 [(67, .int .i64 ((k : Nat)))] kr (wpl_val rfl kr (run_add (a := (k : Int)) (b := 1) (c := ((k + 1 : Int) : Int)) rfl kr kr (by omega) (by omega) (by omega)) (wpl_r1 [(12, .int .i64 (((k + 1 : Nat) : Int)))] kr (wpl_end ?_)))))))
  refine then_normal (hnext _ _ hlt ⟨Kp_c kr (Kp_c kr (Kp_c kr (Kp_c kr (Kp_c kr (Kp_c kr (Kp_c kr (Kp_n))))))), HS⟩)
  refine reg_lit (wpl_r2 [(63, .pointer (some ⟨Na, 0, none⟩)), (62, .int .i64 ((k : Nat)))] kr ?_)
  refine wpl_ldsl (Ba.out.kept hV) rfl kr rfl kr ?_
  refine wpl_r1 [(65, .int .i64 ((l1.length : Nat)))] kr (wpl_val rfl kr (run_lss (a := (k : Int)) (b := (l1.length : Int)) rfl kr kr (decide_eq_false (by omega))) (wpl_end (then_normal (wp_iff kr (wp_exit (then_exit (then_exit ?_)))))))
  refine exit_here (then_normal (wp_seq (reg_lit (wpl_ldvec Bo.out rfl kr rfl kr ?_))))
  refine wpl_stq (A2 := Ao) (m2 := lo.length) (c2 := co) (s2 := s1) (Bu.out.kept hV) rfl kr rfl kr kr ?_
  intro V Bq hkeep hbel
  refine wpl_end (then_normal (wp_ret (ret_box Bq rfl kr ?_)))
  obtain rfl : k = l1.length := by omega
  exact ⟨lo, s1, Ao, co, hide (by rw [← hR, hlo]), rfl, Ho.out.open_.1, hide (OwQ.low (OwQ.std (m2 := 0) (c2 := 0) (A2 := none) (s2 := false) Ho.out.open_.2.out hbel hnu hkeep) (by have := hU.size; omega)), (hU.trans (hV.mono hU.size)).trans (hbel hzu)⟩
  rcases Bool.eq_false_or_eq_true s1 with hs | hs
  obtain ⟨q, hq⟩ : ∃ q : Nat, q + 1 = l1.length := ⟨l1.length - 1, by omega⟩
  have hxt : xt ⟨l1, s1⟩ = qt l1 q := by unfold xt; simp only [hs, if_true]; rw [← hq]; (try rfl)
  obtain ⟨F, hF⟩ : ∃ F : Nat → Int, F = fun i : Nat => if 0 ≤ (D : Int) + (i : Int) ∧ (D : Int) + (i : Int) < l1.length then qt l1 ((D : Int) + (i : Int)).toNat else (qt l1 q) := ⟨_, rfl⟩
  have hF1 : ∀ i j : Nat, (D : Int) + (i : Int) = j → j < l1.length → F i = qt l1 j := fun i j h1 h2 => by rw [hF]; dsimp only; rw [if_pos (by omega), show ((D : Int) + (i : Int)).toNat = j by omega]
  have hF2 : ∀ i : Nat, ((D : Int) + (i : Int) < 0 ∨ (l1.length : Int) ≤ (D : Int) + (i : Int)) → F i = (qt l1 q) := fun i h1 => by rw [hF]; exact if_neg (by omega)
  have hR : ⟨ql l1.length F, s1⟩ = shfV 44 ⟨la, sa⟩ ⟨lb, sb⟩ := by rw [hF]; show _ = shf mAShr _ _; rw [shf_known hc1 hc2 hk, ← hM, ← hD]; unfold mAShr wdw; rw [hxt]
  clear hF
  refine reg_lit (wpl_r4 [(48, .pointer (some ⟨Na, 1, none⟩)), (47, .bool true), (46, .bool true), (45, .int .u8 44)] kr (wpl_ldsg (s := true) (by rw [← hs]; exact Ba.out) rfl kr rfl kr (wpl_r1 [(50, .bool true)] kr (wpl_end (then_normal (wp_ift kr ?_))))))
  obtain ⟨ad, hA, hc⟩ := RQ.bit O1.out (i := q) (by omega)
  refine reg_lit (wpl_r1 [(51, .pointer (some ⟨Na, 0, none⟩))] kr (wpl_ldsl Ba.out rfl kr rfl kr (wpl_r1 [(53, .pointer (some ⟨Na, 0, none⟩))] kr (wpl_ldsl Ba.out rfl kr rfl kr (wpl_r1 [(55, .int .i64 ((l1.length : Nat)))] kr (wpl_val rfl kr (run_sub (a := (l1.length : Int)) (b := 1) (c := (q : Int)) rfl kr kr (by omega) (by omega) (by omega)) (wpl_val rfl kr (run_ix (k := q) (m := l1.length) (cc := c1) rfl kr hA kr (by omega)) ?_)))))))
  refine wpl_val rfl kr (run_ldbit rfl kr (hc _ (Below.refl _ _))) (wpl_r1 [(10, .int .u8 ((qt l1 q)))] kr (sx_n (wpl_r1 [(59, .pointer (some ⟨Na, 1, none⟩))] kr (wpl_ldsg Ba.out rfl kr rfl kr (wpl_r1 [(61, .agg #[.slice none 0 0, .bool s1])] kr (wpl_made (A := none) (m := 0) (c := 0) (s := s1) rfl rfl rfl rfl rfl rfl (fun _ => kr) (fun _ => kr) ?_))))))
  intro wz No Bo hNo hV
  have hna : Na < No + 1 := by have := Ba.out.lt; omega
  have hnb : Nb < No + 1 := by have := Bb.out.lt; omega
  have hnu : Nu < No + 1 := by have := Bu.out.lt; omega
  refine wpl_end (then_normal (wp_seq (wp_seq (reg_lit (wpl_r1 [(12, .int .i64 0)] kr (wpl_end (then_normal ?_)))))))
  refine wp_block (loop_r (l1.length + 1) ?_)
  refine loop_inv (N := l1.length) (fun k E W => Kp [(12, .int .i64 (k : Nat)), (0, .int .u8 44), (4, .pointer (some ⟨Na, 0, none⟩)), (6, .pointer (some ⟨Nu, 0, none⟩)), (7, .int .i64 ((D : Nat))), (10, .int .u8 ((qt l1 q))), (11, .pointer (some ⟨No, 0, none⟩))] E ∧ Below w14.heap.size w14 W ∧ ∃ A c, Box No A (ql k F).length c s1 W ∧ OwnV (No + 1) A (ql k F) c W) ?_ _ 0 _ _ (Nat.zero_le _) (by omega) ⟨Kp_c kr (Kp_c kr (Kp_c kr (Kp_c kr (Kp_c kr (Kp_c kr (Kp_c kr (Kp_n))))))), hV, none, 0, Bo, OwnV.nil _ _⟩
  clear hV Bo
  intro k E W next hk hI hnext
  obtain ⟨hKp, hV, Ao, co, Bo, Ho⟩ := hI
  obtain ⟨lo, hlo⟩ : ∃ lo, lo = ql k F := ⟨_, rfl⟩
  rw [← hlo] at Bo Ho
  replace Bo := hide Bo
  replace Ho := hide Ho
  have hlk : lo.length = k := by rw [hlo, ql_length]
  have hlo4 : lo.length ≤ 4096 := by omega
  have hB : No + 1 ≤ W.heap.size := Bo.out.lt
  refine wp_keep _ hKp (fun X => ?_)
  clear hKp
  refine wp_seq (wp_seq ?_)
  rcases Nat.lt_or_ge k l1.length with hlt | hge
  refine reg_lit (wpl_r2 [(63, .pointer (some ⟨Na, 0, none⟩)), (62, .int .i64 ((k : Nat)))] kr ?_)
  refine wpl_ldsl (Ba.out.kept hV) rfl kr rfl kr ?_
  refine wpl_r1 [(65, .int .i64 ((l1.length : Nat)))] kr (wpl_val rfl kr (run_lss (a := (k : Int)) (b := (l1.length : Int)) rfl kr kr (decide_eq_true (by omega))) (wpl_end (then_normal (wp_ift kr (wp_skip (then_normal (wp_seq ?_)))))))
  refine wp_block (wp_seq ?_)
  obtain ⟨j, hj⟩ : ∃ j : Nat, (k : Int) + (D : Int) = j := ⟨k + D, by omega⟩
  rcases Nat.lt_or_ge j l1.length with hj1 | hj1
  refine reg_lit (wpl_r2 [(70, .int .i64 ((D : Nat))), (69, .int .i64 ((k : Nat)))] kr (wpl_val rfl kr (run_add (a := (k : Int)) (b := (D : Int)) (c := (j : Int)) rfl kr kr (by omega) (by omega) (by omega)) (wpl_r1 [(13, .int .i64 ((j : Nat)))] kr (wpl_end (then_normal (wp_seq (sw_f [(77, .bool false), (76, .bool false), (75, .int .u8 44), (74, .bool false), (73, .bool false), (72, .int .u8 44)] rfl kr kr ?_)))))))
  refine wp_skip (then_normal (wp_seq (reg_lit (wpl_r1 [(81, .int .i64 ((j : Nat)))] kr (wpl_val rfl kr (run_geq (a := (j : Int)) (b := 0) rfl kr kr (decide_eq_true (by omega))) (wpl_r3 [(85, .pointer (some ⟨Na, 0, none⟩)), (84, .int .i64 ((j : Nat))), (83, .bool true)] kr ?_))))))
  refine wpl_ldsl (Ba.out.kept hV) rfl kr rfl kr ?_
  refine wpl_r1 [(87, .int .i64 ((l1.length : Nat)))] kr (wpl_val rfl kr (run_lss (a := (j : Int)) (b := (l1.length : Int)) rfl kr kr (decide_eq_true (by omega))) (wpl_r1 [(89, .bool true)] kr (wpl_end (then_normal (wp_ift kr ?_)))))
  have hz : lo ++ [qt l1 j] = ql (k + 1) F := by rw [ql_snoc, ← hlo, hF1 k j (by omega) hj1]
  obtain ⟨ad, hA, hc⟩ := RQ.bitB O1.out hV (B := No + 1) (by omega) hj1
  refine gregion (n := 10) (N := 11) (fun x => Below (No + 1) W x) kr kr kr kr kr kr (Below.refl _ _).drew (fun _ _ _ _ _ h => h) ?_
  intro Fr hQ
  refine gany_val (i := 0) (m' := 1) (v := .pointer (some ⟨No, 0, none⟩)) Fr hQ rfl rfl kr kr kr kr kr (fun _ hb => by kernel_rfl) ?_
  refine gany_val (i := 1) (m' := 3) (v := .slice Ao lo.length co) Fr hQ rfl rfl kr kr kr kr kr (fun _ hb => run_ldsl rfl kr (Box.keptB Bo.out hb (Nat.lt_succ_self _))) ?_
  refine gany_val (i := 2) (m' := 7) (v := .pointer (some ⟨Na, 0, none⟩)) Fr hQ rfl rfl kr kr kr kr kr (fun _ hb => by kernel_rfl) ?_
  refine gany_val (i := 3) (m' := 15) (v := .slice A1 l1.length c1) Fr hQ rfl rfl kr kr kr kr kr (fun _ hb => run_ldsl rfl kr (Box.keptB (Ba.out.kept hV) hb hna)) ?_
  refine gany_val (i := 4) (m' := 31) (v := .int .i64 ((j : Nat))) Fr hQ rfl rfl kr kr kr kr kr (fun _ hb => by kernel_rfl) (gany_val (i := 5) (m' := 63) (v := .pointer (some (ad.add j))) Fr hQ rfl rfl kr kr kr kr kr (fun _ hb => run_ix (k := j) (m := l1.length) (cc := c1) rfl kr hA kr hj1) (gany_val (i := 6) (m' := 127) (v := .int .u8 ((qt l1 j))) Fr hQ rfl rfl kr kr kr kr kr (fun _ hb => run_ldbit rfl kr (hc _ hb)) (gany_one (i := 7) kr (gstep_app (j := 8) (m' := 255) (j' := 511) (z := (qt l1 j)) Ho.out.drew' W hB hlo4 (fun _ hb h => h.trans (hb.mono hB)) (fun _ _ hb h => h.trans hb) rfl rfl kr kr kr rfl kr kr rfl rfl kr rfl kr rfl (fun _ => kr) (fun _ => kr) ?_))))
  intro V A2 c2 Hv hb
  replace hb : Below (No + 1) W V := ((Below.refl _ _).drew).trans hb
  refine gany_val (i := 9) (m' := 1023) (v := .pointer (some ⟨No, 0, none⟩)) Fr hQ rfl rfl kr kr kr kr kr (fun _ hb => by kernel_rfl) (gany_e ?_)
  refine gany_none (i := 10) (m' := 2047) (w' := V.setCell ⟨No, 0, none⟩ (.slice A2 (lo ++ [(qt l1 j)]).length c2)) rfl rfl kr kr kr kr (run_stsl rfl kr kr (Bo.out.keptB hb (Nat.lt_succ_self _))) ?_
  refine gany_done kr ?_
  have HS := fit_next hV hNo Bo.out hb Hv hz
  clear Fr hQ
  refine block_normal (then_normal (reg_lit (wpl_r1 [(67, .int .i64 ((k : Nat)))] kr (wpl_val rfl kr (run_add (a := (k : Int)) (b := 1) (c := ((k + 1 : Int) : Int)) rfl kr kr (by omega) (by omega) (by omega)) (wpl_r1 [(12, .int .i64 (((k + 1 : Nat) : Int)))] kr (wpl_end ?_))))))
  refine then_normal (hnext _ _ hlt ⟨Kp_c kr (Kp_c kr (Kp_c kr (Kp_c kr (Kp_c kr (Kp_c kr (Kp_c kr (Kp_n))))))), HS⟩)
  refine reg_lit (wpl_r2 [(70, .int .i64 ((D : Nat))), (69, .int .i64 ((k : Nat)))] kr (wpl_val rfl kr (run_add (a := (k : Int)) (b := (D : Int)) (c := (j : Int)) rfl kr kr (by omega) (by omega) (by omega)) (wpl_r1 [(13, .int .i64 ((j : Nat)))] kr (wpl_end (then_normal (wp_seq (sw_f [(77, .bool false), (76, .bool false), (75, .int .u8 44), (74, .bool false), (73, .bool false), (72, .int .u8 44)] rfl kr kr ?_)))))))
  refine wp_skip (then_normal (wp_seq (reg_lit (wpl_r1 [(81, .int .i64 ((j : Nat)))] kr (wpl_val rfl kr (run_geq (a := (j : Int)) (b := 0) rfl kr kr (decide_eq_true (by omega))) (wpl_r3 [(85, .pointer (some ⟨Na, 0, none⟩)), (84, .int .i64 ((j : Nat))), (83, .bool true)] kr ?_))))))
  refine wpl_ldsl (Ba.out.kept hV) rfl kr rfl kr ?_
  refine wpl_r1 [(87, .int .i64 ((l1.length : Nat)))] kr (wpl_val rfl kr (run_lss (a := (j : Int)) (b := (l1.length : Int)) rfl kr kr (decide_eq_false (by omega))) (wpl_r1 [(89, .bool false)] kr (wpl_end (then_normal (wp_iff kr ?_)))))
  have hz : lo ++ [(qt l1 q)] = ql (k + 1) F := by rw [ql_snoc, ← hlo, hF2 k (by omega)]
  refine reg_lit (wpl_r1 [(100, .pointer (some ⟨No, 0, none⟩))] kr (wpl_ldsl Bo.out rfl kr rfl kr (wpl_r1 [(102, .int .u8 ((qt l1 q)))] kr (wpl_app1q (z := (qt l1 q)) Ho.out hB hlo4 rfl rfl rfl kr rfl rfl rfl (fun _ => kr) (fun _ => kr) ?_))))
  intro V A2 c2 Hv hb
  refine wpl_r1 [(105, .pointer (some ⟨No, 0, none⟩))] kr ?_
  refine wpl_none (w' := V.setCell ⟨No, 0, none⟩ (.slice A2 (lo ++ [(qt l1 q)]).length c2)) rfl kr (run_stsl rfl kr kr (Bo.out.keptB hb (Nat.lt_succ_self _))) ?_
  have HS := fit_next hV hNo Bo.out hb Hv hz
  refine wpl_end (block_normal (then_normal (reg_lit (wpl_r1 [(67, .int .i64 ((k : Nat)))] kr (wpl_val rfl kr (run_add (a := (k : Int)) (b := 1) (c := ((k + 1 : Int) : Int)) rfl kr kr (by omega) (by omega) (by omega)) (wpl_r1 [(12, .int .i64 (((k + 1 : Nat) : Int)))] kr (wpl_end ?_)))))))
  refine then_normal (hnext _ _ hlt ⟨Kp_c kr (Kp_c kr (Kp_c kr (Kp_c kr (Kp_c kr (Kp_c kr (Kp_c kr (Kp_n))))))), HS⟩)
  refine reg_lit (wpl_r2 [(63, .pointer (some ⟨Na, 0, none⟩)), (62, .int .i64 ((k : Nat)))] kr ?_)
  refine wpl_ldsl (Ba.out.kept hV) rfl kr rfl kr ?_
  refine wpl_r1 [(65, .int .i64 ((l1.length : Nat)))] kr (wpl_val rfl kr (run_lss (a := (k : Int)) (b := (l1.length : Int)) rfl kr kr (decide_eq_false (by omega))) (wpl_end (then_normal (wp_iff kr (wp_exit (then_exit (then_exit ?_)))))))
  refine exit_here (then_normal (wp_seq (reg_lit (wpl_ldvec Bo.out rfl kr rfl kr ?_))))
  refine wpl_stq (A2 := Ao) (m2 := lo.length) (c2 := co) (s2 := s1) (Bu.out.kept hV) rfl kr rfl kr kr ?_
  intro V Bq hkeep hbel
  refine wpl_end (then_normal (wp_ret (ret_box Bq rfl kr ?_)))
  obtain rfl : k = l1.length := by omega
  exact ⟨lo, s1, Ao, co, hide (by rw [← hR, hlo]), rfl, Ho.out.open_.1, hide (OwQ.low (OwQ.std (m2 := 0) (c2 := 0) (A2 := none) (s2 := false) Ho.out.open_.2.out hbel hnu hkeep) (by have := hU.size; omega)), (hU.trans (hV.mono hU.size)).trans (hbel hzu)⟩
  have hxt : xt ⟨l1, s1⟩ = 0 := by unfold xt; simp only [hs]; rfl
  obtain ⟨F, hF⟩ : ∃ F : Nat → Int, F = fun i : Nat => if 0 ≤ (D : Int) + (i : Int) ∧ (D : Int) + (i : Int) < l1.length then qt l1 ((D : Int) + (i : Int)).toNat else 0 := ⟨_, rfl⟩
  have hF1 : ∀ i j : Nat, (D : Int) + (i : Int) = j → j < l1.length → F i = qt l1 j := fun i j h1 h2 => by rw [hF]; dsimp only; rw [if_pos (by omega), show ((D : Int) + (i : Int)).toNat = j by omega]
  have hF2 : ∀ i : Nat, ((D : Int) + (i : Int) < 0 ∨ (l1.length : Int) ≤ (D : Int) + (i : Int)) → F i = 0 := fun i h1 => by rw [hF]; exact if_neg (by omega)
  have hR : ⟨ql l1.length F, s1⟩ = shfV 44 ⟨la, sa⟩ ⟨lb, sb⟩ := by rw [hF]; show _ = shf mAShr _ _; rw [shf_known hc1 hc2 hk, ← hM, ← hD]; unfold mAShr wdw; rw [hxt]
  clear hF
  refine reg_lit (wpl_r4 [(48, .pointer (some ⟨Na, 1, none⟩)), (47, .bool true), (46, .bool true), (45, .int .u8 44)] kr (wpl_ldsg (s := false) (by rw [← hs]; exact Ba.out) rfl kr rfl kr (wpl_r1 [(50, .bool false)] kr (wpl_end (then_normal (wp_iff kr (wp_skip ?_)))))))
  refine then_normal (wp_seq (reg_lit (wpl_r1 [(59, .pointer (some ⟨Na, 1, none⟩))] kr (wpl_ldsg Ba.out rfl kr rfl kr (wpl_r1 [(61, .agg #[.slice none 0 0, .bool s1])] kr (wpl_made (A := none) (m := 0) (c := 0) (s := s1) rfl rfl rfl rfl rfl rfl (fun _ => kr) (fun _ => kr) ?_))))))
  intro wz No Bo hNo hV
  have hna : Na < No + 1 := by have := Ba.out.lt; omega
  have hnb : Nb < No + 1 := by have := Bb.out.lt; omega
  have hnu : Nu < No + 1 := by have := Bu.out.lt; omega
  refine wpl_end (then_normal (wp_seq (wp_seq (reg_lit (wpl_r1 [(12, .int .i64 0)] kr (wpl_end (then_normal ?_)))))))
  refine wp_block (loop_r (l1.length + 1) ?_)
  refine loop_inv (N := l1.length) (fun k E W => Kp [(12, .int .i64 (k : Nat)), (0, .int .u8 44), (4, .pointer (some ⟨Na, 0, none⟩)), (6, .pointer (some ⟨Nu, 0, none⟩)), (7, .int .i64 ((D : Nat))), (10, .int .u8 0), (11, .pointer (some ⟨No, 0, none⟩))] E ∧ Below w14.heap.size w14 W ∧ ∃ A c, Box No A (ql k F).length c s1 W ∧ OwnV (No + 1) A (ql k F) c W) ?_ _ 0 _ _ (Nat.zero_le _) (by omega) ⟨Kp_c kr (Kp_c kr (Kp_c kr (Kp_c kr (Kp_c kr (Kp_c kr (Kp_c kr (Kp_n))))))), hV, none, 0, Bo, OwnV.nil _ _⟩
  clear hV Bo
  intro k E W next hk hI hnext
  obtain ⟨hKp, hV, Ao, co, Bo, Ho⟩ := hI
  obtain ⟨lo, hlo⟩ : ∃ lo, lo = ql k F := ⟨_, rfl⟩
  rw [← hlo] at Bo Ho
  replace Bo := hide Bo
  replace Ho := hide Ho
  have hlk : lo.length = k := by rw [hlo, ql_length]
  have hlo4 : lo.length ≤ 4096 := by omega
  have hB : No + 1 ≤ W.heap.size := Bo.out.lt
  refine wp_keep _ hKp (fun X => ?_)
  clear hKp
  refine wp_seq (wp_seq ?_)
  rcases Nat.lt_or_ge k l1.length with hlt | hge
  refine reg_lit (wpl_r2 [(63, .pointer (some ⟨Na, 0, none⟩)), (62, .int .i64 ((k : Nat)))] kr ?_)
  refine wpl_ldsl (Ba.out.kept hV) rfl kr rfl kr ?_
  refine wpl_r1 [(65, .int .i64 ((l1.length : Nat)))] kr (wpl_val rfl kr (run_lss (a := (k : Int)) (b := (l1.length : Int)) rfl kr kr (decide_eq_true (by omega))) (wpl_end (then_normal (wp_ift kr (wp_skip (then_normal (wp_seq ?_)))))))
  refine wp_block (wp_seq ?_)
  obtain ⟨j, hj⟩ : ∃ j : Nat, (k : Int) + (D : Int) = j := ⟨k + D, by omega⟩
  rcases Nat.lt_or_ge j l1.length with hj1 | hj1
  refine reg_lit (wpl_r2 [(70, .int .i64 ((D : Nat))), (69, .int .i64 ((k : Nat)))] kr (wpl_val rfl kr (run_add (a := (k : Int)) (b := (D : Int)) (c := (j : Int)) rfl kr kr (by omega) (by omega) (by omega)) (wpl_r1 [(13, .int .i64 ((j : Nat)))] kr (wpl_end (then_normal (wp_seq (sw_f [(77, .bool false), (76, .bool false), (75, .int .u8 44), (74, .bool false), (73, .bool false), (72, .int .u8 44)] rfl kr kr ?_)))))))
  refine wp_skip (then_normal (wp_seq (reg_lit (wpl_r1 [(81, .int .i64 ((j : Nat)))] kr (wpl_val rfl kr (run_geq (a := (j : Int)) (b := 0) rfl kr kr (decide_eq_true (by omega))) (wpl_r3 [(85, .pointer (some ⟨Na, 0, none⟩)), (84, .int .i64 ((j : Nat))), (83, .bool true)] kr ?_))))))
  refine wpl_ldsl (Ba.out.kept hV) rfl kr rfl kr ?_
  refine wpl_r1 [(87, .int .i64 ((l1.length : Nat)))] kr (wpl_val rfl kr (run_lss (a := (j : Int)) (b := (l1.length : Int)) rfl kr kr (decide_eq_true (by omega))) (wpl_r1 [(89, .bool true)] kr (wpl_end (then_normal (wp_ift kr ?_)))))
  have hz : lo ++ [qt l1 j] = ql (k + 1) F := by rw [ql_snoc, ← hlo, hF1 k j (by omega) hj1]
  obtain ⟨ad, hA, hc⟩ := RQ.bitB O1.out hV (B := No + 1) (by omega) hj1
  refine gregion (n := 10) (N := 11) (fun x => Below (No + 1) W x) kr kr kr kr kr kr (Below.refl _ _).drew (fun _ _ _ _ _ h => h) ?_
  intro Fr hQ
  refine gany_val (i := 0) (m' := 1) (v := .pointer (some ⟨No, 0, none⟩)) Fr hQ rfl rfl kr kr kr kr kr (fun _ hb => by kernel_rfl) ?_
  refine gany_val (i := 1) (m' := 3) (v := .slice Ao lo.length co) Fr hQ rfl rfl kr kr kr kr kr (fun _ hb => run_ldsl rfl kr (Box.keptB Bo.out hb (Nat.lt_succ_self _))) ?_
  refine gany_val (i := 2) (m' := 7) (v := .pointer (some ⟨Na, 0, none⟩)) Fr hQ rfl rfl kr kr kr kr kr (fun _ hb => by kernel_rfl) ?_
  refine gany_val (i := 3) (m' := 15) (v := .slice A1 l1.length c1) Fr hQ rfl rfl kr kr kr kr kr (fun _ hb => run_ldsl rfl kr (Box.keptB (Ba.out.kept hV) hb hna)) ?_
  refine gany_val (i := 4) (m' := 31) (v := .int .i64 ((j : Nat))) Fr hQ rfl rfl kr kr kr kr kr (fun _ hb => by kernel_rfl) (gany_val (i := 5) (m' := 63) (v := .pointer (some (ad.add j))) Fr hQ rfl rfl kr kr kr kr kr (fun _ hb => run_ix (k := j) (m := l1.length) (cc := c1) rfl kr hA kr hj1) (gany_val (i := 6) (m' := 127) (v := .int .u8 ((qt l1 j))) Fr hQ rfl rfl kr kr kr kr kr (fun _ hb => run_ldbit rfl kr (hc _ hb)) (gany_one (i := 7) kr (gstep_app (j := 8) (m' := 255) (j' := 511) (z := (qt l1 j)) Ho.out.drew' W hB hlo4 (fun _ hb h => h.trans (hb.mono hB)) (fun _ _ hb h => h.trans hb) rfl rfl kr kr kr rfl kr kr rfl rfl kr rfl kr rfl (fun _ => kr) (fun _ => kr) ?_))))
  intro V A2 c2 Hv hb
  replace hb : Below (No + 1) W V := ((Below.refl _ _).drew).trans hb
  refine gany_val (i := 9) (m' := 1023) (v := .pointer (some ⟨No, 0, none⟩)) Fr hQ rfl rfl kr kr kr kr kr (fun _ hb => by kernel_rfl) (gany_e ?_)
  refine gany_none (i := 10) (m' := 2047) (w' := V.setCell ⟨No, 0, none⟩ (.slice A2 (lo ++ [(qt l1 j)]).length c2)) rfl rfl kr kr kr kr (run_stsl rfl kr kr (Bo.out.keptB hb (Nat.lt_succ_self _))) ?_
  refine gany_done kr ?_
  have HS := fit_next hV hNo Bo.out hb Hv hz
  clear Fr hQ
  refine block_normal (then_normal (reg_lit (wpl_r1 [(67, .int .i64 ((k : Nat)))] kr (wpl_val rfl kr (run_add (a := (k : Int)) (b := 1) (c := ((k + 1 : Int) : Int)) rfl kr kr (by omega) (by omega) (by omega)) (wpl_r1 [(12, .int .i64 (((k + 1 : Nat) : Int)))] kr (wpl_end ?_))))))
  refine then_normal (hnext _ _ hlt ⟨Kp_c kr (Kp_c kr (Kp_c kr (Kp_c kr (Kp_c kr (Kp_c kr (Kp_c kr (Kp_n))))))), HS⟩)
  refine reg_lit (wpl_r2 [(70, .int .i64 ((D : Nat))), (69, .int .i64 ((k : Nat)))] kr (wpl_val rfl kr (run_add (a := (k : Int)) (b := (D : Int)) (c := (j : Int)) rfl kr kr (by omega) (by omega) (by omega)) (wpl_r1 [(13, .int .i64 ((j : Nat)))] kr (wpl_end (then_normal (wp_seq (sw_f [(77, .bool false), (76, .bool false), (75, .int .u8 44), (74, .bool false), (73, .bool false), (72, .int .u8 44)] rfl kr kr ?_)))))))
  refine wp_skip (then_normal (wp_seq (reg_lit (wpl_r1 [(81, .int .i64 ((j : Nat)))] kr (wpl_val rfl kr (run_geq (a := (j : Int)) (b := 0) rfl kr kr (decide_eq_true (by omega))) (wpl_r3 [(85, .pointer (some ⟨Na, 0, none⟩)), (84, .int .i64 ((j : Nat))), (83, .bool true)] kr ?_))))))
  refine wpl_ldsl (Ba.out.kept hV) rfl kr rfl kr ?_
  refine wpl_r1 [(87, .int .i64 ((l1.length : Nat)))] kr (wpl_val rfl kr (run_lss (a := (j : Int)) (b := (l1.length : Int)) rfl kr kr (decide_eq_false (by omega))) (wpl_r1 [(89, .bool false)] kr (wpl_end (then_normal (wp_iff kr ?_)))))
  have hz : lo ++ [0] = ql (k + 1) F := by rw [ql_snoc, ← hlo, hF2 k (by omega)]
  refine reg_lit (wpl_r1 [(100, .pointer (some ⟨No, 0, none⟩))] kr (wpl_ldsl Bo.out rfl kr rfl kr (wpl_r1 [(102, .int .u8 0)] kr (wpl_app1q (z := 0) Ho.out hB hlo4 rfl rfl rfl kr rfl rfl rfl (fun _ => kr) (fun _ => kr) ?_))))
  intro V A2 c2 Hv hb
  refine wpl_r1 [(105, .pointer (some ⟨No, 0, none⟩))] kr ?_
  refine wpl_none (w' := V.setCell ⟨No, 0, none⟩ (.slice A2 (lo ++ [0]).length c2)) rfl kr (run_stsl rfl kr kr (Bo.out.keptB hb (Nat.lt_succ_self _))) ?_
  have HS := fit_next hV hNo Bo.out hb Hv hz
  refine wpl_end (block_normal (then_normal (reg_lit (wpl_r1 [(67, .int .i64 ((k : Nat)))] kr (wpl_val rfl kr (run_add (a := (k : Int)) (b := 1) (c := ((k + 1 : Int) : Int)) rfl kr kr (by omega) (by omega) (by omega)) (wpl_r1 [(12, .int .i64 (((k + 1 : Nat) : Int)))] kr (wpl_end ?_)))))))
  refine then_normal (hnext _ _ hlt ⟨Kp_c kr (Kp_c kr (Kp_c kr (Kp_c kr (Kp_c kr (Kp_c kr (Kp_c kr (Kp_n))))))), HS⟩)
  refine reg_lit (wpl_r2 [(63, .pointer (some ⟨Na, 0, none⟩)), (62, .int .i64 ((k : Nat)))] kr ?_)
  refine wpl_ldsl (Ba.out.kept hV) rfl kr rfl kr ?_
  refine wpl_r1 [(65, .int .i64 ((l1.length : Nat)))] kr (wpl_val rfl kr (run_lss (a := (k : Int)) (b := (l1.length : Int)) rfl kr kr (decide_eq_false (by omega))) (wpl_end (then_normal (wp_iff kr (wp_exit (then_exit (then_exit ?_)))))))
  refine exit_here (then_normal (wp_seq (reg_lit (wpl_ldvec Bo.out rfl kr rfl kr ?_))))
  refine wpl_stq (A2 := Ao) (m2 := lo.length) (c2 := co) (s2 := s1) (Bu.out.kept hV) rfl kr rfl kr kr ?_
  intro V Bq hkeep hbel
  refine wpl_end (then_normal (wp_ret (ret_box Bq rfl kr ?_)))
  obtain rfl : k = l1.length := by omega
  exact ⟨lo, s1, Ao, co, hide (by rw [← hR, hlo]), rfl, Ho.out.open_.1, hide (OwQ.low (OwQ.std (m2 := 0) (c2 := 0) (A2 := none) (s2 := false) Ho.out.open_.2.out hbel hnu hkeep) (by have := hU.size; omega)), (hU.trans (hV.mono hU.size)).trans (hbel hzu)⟩
end
section
open Go.RowKit
set_option maxRecDepth 100000
set_option linter.unusedSimpArgs false
set_option linter.unusedVariables false
set_option maxHeartbeats 16000000 in
theorem rarith_any (op : Int) (hop : op = 21 ∨ op = 22 ∨ op = 23 ∨ op = 24 ∨ op = 25) (Aa : Option Addr) (la : List Int) (ca : Nat) (sa : Bool) (Ab : Option Addr) (lb : List Int) (cb : Nat) (sb : Bool) (w : World) (ha : la.length ≤ 4096) (hb : lb.length ≤ 4096) (hca : Hid (la.length ≤ ca ∧ ca ≤ maxLen)) (hcb : Hid (lb.length ≤ cb ∧ cb ≤ maxLen)) (hra : RQ w Aa la) (hrb : RQ w Ab lb) (ya : By la) (yb : By lb) (hln : lb.length = la.length) (h1 : Gd la) (h2 : Gd lb) :
    Calls Tryz.prog 88 #[.int .u8 op, .agg #[.slice Aa la.length ca, .bool sa], .agg #[.slice Ab lb.length cb, .bool sb]] w (RetC (· = arV op la lb sa) w) := by
  have Oa := hide hra
  have La := hide ha
  have Ca := hca
  have Ya := hide ya
  have Ob := hide hrb
  have Lb := hide hb
  have Cb := hcb
  have Yb := hide yb
  clear ha hca hra ya hb hcb hrb yb
  have hl1 := h1.le
  have hp1 := h1.pos
  have hU : Below w.heap.size w w := Below.refl _ _
  refine calls_sl (l := [.int .u8 op, .agg #[.slice Aa la.length ca, .bool sa], .agg #[.slice Ab lb.length cb, .bool sb]]) 89 Tryz.func88 rfl kr (by simp) (wp_seq (reg_lit (wpl_boxvec (A := Aa) (m := la.length) (c := ca) (s := sa) rfl kr rfl kr ?_)))
  intro w1 Na Ba hNa hb
  replace Ba := hide Ba
  replace Oa := kQ Oa hb
  replace Ob := kQ Ob hb
  have hza : w.heap.size ≤ Na := Nat.le_trans hU.size hNa
  clear hNa
  replace hU := kU hU hb
  clear hb
  refine wpl_boxvec (A := Ab) (m := lb.length) (c := cb) (s := sb) rfl kr rfl kr ?_
  intro w2 Nb Bb hNb hb
  replace Bb := hide Bb
  have neab : Na ≠ Nb := by have := Ba.out.lt; omega
  replace Oa := kQ Oa hb
  replace Ob := kQ Ob hb
  replace Ba := kB Ba hb
  have hzb : w.heap.size ≤ Nb := Nat.le_trans hU.size hNb
  clear hNb
  replace hU := kU hU hb
  clear hb
  refine wpl_al rfl kr rfl ?_
  intro w3 Nu Bu hNu hb
  replace Bu := hide Bu
  have neau : Na ≠ Nu := by have := Ba.out.lt; omega
  have nebu : Nb ≠ Nu := by have := Bb.out.lt; omega
  replace Oa := kQ Oa hb
  replace Ob := kQ Ob hb
  replace Ba := kB Ba hb
  replace Bb := kB Bb hb
  have hzu : w.heap.size ≤ Nu := Nat.le_trans hU.size hNu
  clear hNu
  replace hU := kU hU hb
  clear hb
  refine wpl_end (then_normal (wp_seq (wp_seq ?_)))
  cases hka : kn la
  refine reg_lit (wpl_ldvec Ba.out rfl kr rfl kr ?_)
  refine wpl_call rfl kr kr ((known_w false Aa la ca sa _ La.out Ca Oa.out Ya.out h1 hka).mono ?_)
  rintro e w4 ⟨rfl, hb⟩
  refine ⟨_, rfl, ?_⟩
  replace Oa := kQ Oa hb
  replace Ob := kQ Ob hb
  replace Ba := kB Ba hb
  replace Bb := kB Bb hb
  replace Bu := kB Bu hb
  replace hU := kU hU hb
  clear hb
  refine wpl_r6 [(19, .bool true), (18, undef), (17, undef), (16, undef), (15, .bool true), (14, .bool true)] kr (wpl_end (then_normal (wp_ift kr (wp_seq (reg_lit (wpl_r1 [(20, .pointer (some ⟨Na, 0, none⟩))] kr (wpl_ldsl Ba.out rfl kr rfl kr ?_)))))))
  refine wpl_r2 [(23, .pointer (some ⟨Na, 1, none⟩)), (22, .int .i64 ((la.length : Nat)))] kr (wpl_ldsg Ba.out rfl kr rfl kr ?_)
  refine wpl_call rfl kr kr ((rfill_any 2 la.length sa _ (by omega)).mono ?_)
  rintro e w5 ⟨lv, sv, Av, cv, Ev, rfl, Cv, Ov, hb⟩
  refine ⟨_, rfl, ?_⟩
  have k0 : w.heap.size ≤ w4.heap.size := hU.size
  replace Oa := kQ Oa hb
  replace Ob := kQ Ob hb
  replace Ba := kB Ba hb
  replace Bb := kB Bb hb
  replace Bu := kB Bu hb
  replace hU := kU hU hb
  clear hb
  have Gv : Gd lv := by have h := congrArg Vc.b Ev.out; dsimp only at h; rw [h]; exact (gd_xs (n := la.length) (s := sa) (by omega) (by omega))
  have Lv := hide (show lv.length ≤ 4096 from Nat.le_trans Gv.le (by decide))
  have Yv := hide Gv.by_
  clear Gv
  replace Ov := hide (OwQ.base Ov.out k0)
  clear k0
  refine wpl_stk Bu.out rfl kr rfl kr (A2 := Av) (m2 := lv.length) (c2 := cv) (s2 := sv) kr ?_
  intro w6 hst hkeep
  replace Oa := kS hst Oa
  replace Ob := kS hst Ob
  replace Ov := hide (OwQ.box Ov.out Bu.out hkeep)
  replace Ba := hide (hst.ne Ba.out nq)
  replace Bb := hide (hst.ne Bb.out nq)
  replace Bu := hide hst.box
  replace hU := hU.trans (hst.bel hzu)
  clear hst hkeep
  refine wpl_end (then_normal (wp_ret (ret_box Bu.out rfl kr ?_)))
  exact ⟨lv, sv, Av, cv, hide (by rw [arV_a hka]; exact Ev.out), rfl, Cv, Ov, hU⟩
  cases hkb : kn lb
  refine reg_lit (wpl_ldvec Ba.out rfl kr rfl kr ?_)
  refine wpl_call rfl kr kr ((known_w true Aa la ca sa _ La.out Ca Oa.out Ya.out h1 hka).mono ?_)
  rintro e w7 ⟨rfl, hb⟩
  refine ⟨_, rfl, ?_⟩
  replace Oa := kQ Oa hb
  replace Ob := kQ Ob hb
  replace Ba := kB Ba hb
  replace Bb := kB Bb hb
  replace Bu := kB Bu hb
  replace hU := kU hU hb
  clear hb
  refine wpl_r2 [(15, .bool false), (14, .bool false)] kr (wpl_ldvec Bb.out rfl kr rfl kr ?_)
  refine wpl_call rfl kr kr ((known_w false Ab lb cb sb _ Lb.out Cb Ob.out Yb.out h2 hkb).mono ?_)
  rintro e w8 ⟨rfl, hb⟩
  refine ⟨_, rfl, ?_⟩
  replace Oa := kQ Oa hb
  replace Ob := kQ Ob hb
  replace Ba := kB Ba hb
  replace Bb := kB Bb hb
  replace Bu := kB Bu hb
  replace hU := kU hU hb
  clear hb
  refine wpl_r2 [(19, .bool true), (18, .bool true)] kr (wpl_end (then_normal (wp_ift kr (wp_seq (reg_lit (wpl_r1 [(20, .pointer (some ⟨Na, 0, none⟩))] kr (wpl_ldsl Ba.out rfl kr rfl kr ?_)))))))
  refine wpl_r2 [(23, .pointer (some ⟨Na, 1, none⟩)), (22, .int .i64 ((la.length : Nat)))] kr (wpl_ldsg Ba.out rfl kr rfl kr ?_)
  refine wpl_call rfl kr kr ((rfill_any 2 la.length sa _ (by omega)).mono ?_)
  rintro e w9 ⟨lv, sv, Av, cv, Ev, rfl, Cv, Ov, hb⟩
  refine ⟨_, rfl, ?_⟩
  have k0 : w.heap.size ≤ w8.heap.size := hU.size
  replace Oa := kQ Oa hb
  replace Ob := kQ Ob hb
  replace Ba := kB Ba hb
  replace Bb := kB Bb hb
  replace Bu := kB Bu hb
  replace hU := kU hU hb
  clear hb
  have Gv : Gd lv := by have h := congrArg Vc.b Ev.out; dsimp only at h; rw [h]; exact (gd_xs (n := la.length) (s := sa) (by omega) (by omega))
  have Lv := hide (show lv.length ≤ 4096 from Nat.le_trans Gv.le (by decide))
  have Yv := hide Gv.by_
  clear Gv
  replace Ov := hide (OwQ.base Ov.out k0)
  clear k0
  refine wpl_stk Bu.out rfl kr rfl kr (A2 := Av) (m2 := lv.length) (c2 := cv) (s2 := sv) kr ?_
  intro w10 hst hkeep
  replace Oa := kS hst Oa
  replace Ob := kS hst Ob
  replace Ov := hide (OwQ.box Ov.out Bu.out hkeep)
  replace Ba := hide (hst.ne Ba.out nq)
  replace Bb := hide (hst.ne Bb.out nq)
  replace Bu := hide hst.box
  replace hU := hU.trans (hst.bel hzu)
  clear hst hkeep
  refine wpl_end (then_normal (wp_ret (ret_box Bu.out rfl kr ?_)))
  exact ⟨lv, sv, Av, cv, hide (by rw [arV_b hka hkb]; exact Ev.out), rfl, Cv, Ov, hU⟩
  refine reg_lit (wpl_ldvec Ba.out rfl kr rfl kr ?_)
  refine wpl_call rfl kr kr ((known_w true Aa la ca sa _ La.out Ca Oa.out Ya.out h1 hka).mono ?_)
  rintro e w11 ⟨rfl, hb⟩
  refine ⟨_, rfl, ?_⟩
  replace Oa := kQ Oa hb
  replace Ob := kQ Ob hb
  replace Ba := kB Ba hb
  replace Bb := kB Bb hb
  replace Bu := kB Bu hb
  replace hU := kU hU hb
  clear hb
  refine wpl_r2 [(15, .bool false), (14, .bool false)] kr (wpl_ldvec Bb.out rfl kr rfl kr ?_)
  refine wpl_call rfl kr kr ((known_w true Ab lb cb sb _ Lb.out Cb Ob.out Yb.out h2 hkb).mono ?_)
  rintro e w12 ⟨rfl, hb⟩
  refine ⟨_, rfl, ?_⟩
  replace Oa := kQ Oa hb
  replace Ob := kQ Ob hb
  replace Ba := kB Ba hb
  replace Bb := kB Bb hb
  replace Bu := kB Bu hb
  replace hU := kU hU hb
  clear hb
  refine wpl_r2 [(19, .bool false), (18, .bool false)] kr (wpl_end (then_normal (wp_iff kr (wp_skip (then_normal (wp_seq (region_R (n := 5) (N := 6) kr kr kr kr kr kr (fun _ _ _ _ _ h => h) ?_)))))))
  intro F hQ
  have Ba0 := Ba
  have Bb0 := Bb
  have Bu0 := Bu
  refine anyR_ldvec (i := 0) (m' := 1) Ba0.out F hQ rfl rfl kr kr kr kr kr rfl kr (anyR_ldvec (i := 2) (m' := 5) Bb0.out F hQ rfl rfl kr kr kr kr kr rfl kr ?_)
  refine anyR_call (i := 1) (m' := 7) rfl rfl kr kr kr kr kr ((rbools_any Aa la ca sa _ La.out (by exact Oa.out)).mono ?_)
  rintro e w13 ⟨ka, Ka, ea, Ta, rfl, Ua, Ra, hb⟩
  refine ⟨_, rfl, hb, ?_⟩
  replace hb : Below w12.heap.size w12 w13 := Below.trans ((Below.refl _ _).drew) hb
  replace Oa := kQ Oa hb
  replace Ob := kQ Ob hb
  replace Ba := kB Ba hb
  replace Bb := kB Bb hb
  replace Bu := kB Bu hb
  replace hU := kU hU hb
  clear hb
  replace Ra := hide Ra.out.rd
  refine anyR_call (i := 3) (m' := 15) rfl rfl kr kr kr kr kr ((rbools_any Ab lb cb sb _ Lb.out Ob.out).mono ?_)
  rintro e w14 ⟨kb, Kb, eb, Tb, rfl, Ub, Rb, hb⟩
  refine ⟨_, rfl, hb, ?_⟩
  replace Oa := kQ Oa hb
  replace Ob := kQ Ob hb
  replace Ba := kB Ba hb
  replace Bb := kB Bb hb
  replace Bu := kB Bu hb
  replace Ra := hide (Rd.kept Ra.out hb)
  replace hU := kU hU hb
  clear hb
  replace Rb := hide Rb.out.rd
  refine anyR_val (i := 4) (m' := 31) (v := .slice Ka ka.length ea) F hQ rfl rfl kr kr kr kr kr (fun _ _ => kr) (anyR_e (anyR_last (i := 5) (m' := 63) (v := .slice Kb kb.length eb) rfl rfl kr kr kr kr kr (anyE_done kr ?_)))
  clear F hQ Ba0 Bb0 Bu0
  refine then_normal (wp_seq (wp_seq ?_))
  have hla : ka.length = la.length := by rw [Ta.out, nb_length]
  have hlb : kb.length = la.length := by rw [Tb.out, nb_length, hln]
  rcases hop with rfl | rfl | rfl | hgrp
  refine reg_lit (wpl_r1 [(30, .int .u8 21)] kr (wpl_end (then_normal (wp_block (sw_t [(31, .bool true), (32, .bool true)] rfl kr kr (wp_seq (region_R (n := 6) (N := 7) kr kr kr kr kr kr (fun _ _ _ _ _ h => h) ?_)))))))
  intro F hQ
  have Ba0 := Ba
  have Bb0 := Bb
  have Bu0 := Bu
  refine anyR_val (i := 0) (m' := 1) (v := .slice Ka ka.length ea) F hQ rfl rfl kr kr kr kr kr (fun _ _ => kr) (anyR_val (i := 1) (m' := 3) (v := .slice Kb kb.length eb) F hQ rfl rfl kr kr kr kr kr (fun _ _ => kr) (anyR_val (i := 3) (m' := 11) (v := .pointer (some ⟨Na, 1, none⟩)) F hQ rfl rfl kr kr kr kr kr (fun _ _ => kr) (anyR_ldsg (i := 4) (m' := 27) Ba0.out F hQ rfl rfl kr kr kr kr kr rfl kr ?_)))
  refine anyR_call (i := 2) (m' := 31) rfl rfl kr kr kr kr kr ((radd_any Ka Kb ka kb ea eb _ (by omega) (by omega) (by exact Ra.out) (by exact Rb.out)).mono ?_)
  rintro e w15 ⟨kp_, Kp_, ep_, Tp_, rfl, Up_, Rp_, hb⟩
  refine ⟨_, rfl, hb, ?_⟩
  replace hb : Below w14.heap.size w14 w15 := Below.trans ((Below.refl _ _).drew) hb
  replace Oa := kQ Oa hb
  replace Ob := kQ Ob hb
  replace Ba := kB Ba hb
  replace Bb := kB Bb hb
  replace Bu := kB Bu hb
  replace Ra := hide (Rd.kept Ra.out hb)
  replace Rb := hide (Rd.kept Rb.out hb)
  replace hU := kU hU hb
  clear hb
  replace Rp_ := hide Rp_.out.rd
  have hlp_ : kp_.length = la.length := by rw [Tp_.out, vz_length, hla]
  refine anyR_call (i := 5) (m' := 63) rfl rfl kr kr kr kr kr ((rfromb_any Kp_ kp_ ep_ sa _ (by omega) Rp_.out).mono ?_)
  rintro e w16 ⟨lv, sv, Av, cv, Ev, rfl, Cv, Ov, hb⟩
  refine ⟨_, rfl, hb, ?_⟩
  have k0 : w.heap.size ≤ w15.heap.size := hU.size
  replace Oa := kQ Oa hb
  replace Ob := kQ Ob hb
  replace Ba := kB Ba hb
  replace Bb := kB Bb hb
  replace Bu := kB Bu hb
  replace Ra := hide (Rd.kept Ra.out hb)
  replace Rb := hide (Rd.kept Rb.out hb)
  replace Rp_ := hide (Rd.kept Rp_.out hb)
  replace hU := kU hU hb
  clear hb
  have Gv : Gd lv := by have h := congrArg Vc.b Ev.out; dsimp only at h; rw [h]; exact (gd_fb (n := kp_) (by omega) (by omega))
  have Lv := hide (show lv.length ≤ 4096 from Nat.le_trans Gv.le (by decide))
  have Yv := hide Gv.by_
  clear Gv
  replace Ov := hide (OwQ.base Ov.out k0)
  clear k0
  refine anyR_e (anyE_stq (i := 6) (m' := 127) Bu.out rfl rfl kr kr kr kr rfl kr (A2 := Av) (m2 := lv.length) (c2 := cv) (s2 := sv) kr ?_)
  intro w17 hst hkeep
  replace Oa := kS hst Oa
  replace Ob := kS hst Ob
  replace Ov := hide (OwQ.box Ov.out Bu.out hkeep)
  replace Ba := hide (hst.ne Ba.out nq)
  replace Bb := hide (hst.ne Bb.out nq)
  replace Bu := hide hst.box
  replace hU := hU.trans (hst.bel hzu)
  clear hst hkeep
  refine anyE_done kr ?_
  clear F hQ Ba0 Bb0 Bu0
  refine then_normal (wp_ret (ret_box Bu.out rfl kr ?_))
  exact ⟨lv, sv, Av, cv, hide (by rw [Ev.out, Tp_.out, Ta.out, Tb.out]; exact (show _ = arL fAdd la lb sa from (arL_some hka hkb rfl).symm)), rfl, Cv, Ov, hU⟩
  refine reg_lit (wpl_r1 [(30, .int .u8 22)] kr (wpl_end (then_normal (wp_block (sw_f [(31, .bool false), (32, .bool false)] rfl kr kr (sw_t [(39, .bool true), (40, .bool true)] rfl kr kr (wp_seq ?_)))))))
  refine region_R (n := 6) (N := 7) kr kr kr kr kr kr (fun _ _ _ _ _ h => h) ?_
  intro F hQ
  have Ba0 := Ba
  have Bb0 := Bb
  have Bu0 := Bu
  refine anyR_val (i := 0) (m' := 1) (v := .slice Ka ka.length ea) F hQ rfl rfl kr kr kr kr kr (fun _ _ => kr) (anyR_val (i := 1) (m' := 3) (v := .slice Kb kb.length eb) F hQ rfl rfl kr kr kr kr kr (fun _ _ => kr) (anyR_val (i := 3) (m' := 11) (v := .pointer (some ⟨Na, 1, none⟩)) F hQ rfl rfl kr kr kr kr kr (fun _ _ => kr) (anyR_ldsg (i := 4) (m' := 27) Ba0.out F hQ rfl rfl kr kr kr kr kr rfl kr ?_)))
  refine anyR_call (i := 2) (m' := 31) rfl rfl kr kr kr kr kr ((rsub_any Ka Kb ka kb ea eb _ (by omega) (by omega) (by exact Ra.out) (by exact Rb.out)).mono ?_)
  rintro e w18 ⟨kp_, Kp_, ep_, Tp_, rfl, Up_, Rp_, hb⟩
  refine ⟨_, rfl, hb, ?_⟩
  replace hb : Below w14.heap.size w14 w18 := Below.trans ((Below.refl _ _).drew) hb
  replace Oa := kQ Oa hb
  replace Ob := kQ Ob hb
  replace Ba := kB Ba hb
  replace Bb := kB Bb hb
  replace Bu := kB Bu hb
  replace Ra := hide (Rd.kept Ra.out hb)
  replace Rb := hide (Rd.kept Rb.out hb)
  replace hU := kU hU hb
  clear hb
  replace Rp_ := hide Rp_.out.rd
  have hlp_ : kp_.length = la.length := by rw [Tp_.out, vz_length, hla]
  refine anyR_call (i := 5) (m' := 63) rfl rfl kr kr kr kr kr ((rfromb_any Kp_ kp_ ep_ sa _ (by omega) Rp_.out).mono ?_)
  rintro e w19 ⟨lv, sv, Av, cv, Ev, rfl, Cv, Ov, hb⟩
  refine ⟨_, rfl, hb, ?_⟩
  have k0 : w.heap.size ≤ w18.heap.size := hU.size
  replace Oa := kQ Oa hb
  replace Ob := kQ Ob hb
  replace Ba := kB Ba hb
  replace Bb := kB Bb hb
  replace Bu := kB Bu hb
  replace Ra := hide (Rd.kept Ra.out hb)
  replace Rb := hide (Rd.kept Rb.out hb)
  replace Rp_ := hide (Rd.kept Rp_.out hb)
  replace hU := kU hU hb
  clear hb
  have Gv : Gd lv := by have h := congrArg Vc.b Ev.out; dsimp only at h; rw [h]; exact (gd_fb (n := kp_) (by omega) (by omega))
  have Lv := hide (show lv.length ≤ 4096 from Nat.le_trans Gv.le (by decide))
  have Yv := hide Gv.by_
  clear Gv
  replace Ov := hide (OwQ.base Ov.out k0)
  clear k0
  refine anyR_e (anyE_stq (i := 6) (m' := 127) Bu.out rfl rfl kr kr kr kr rfl kr (A2 := Av) (m2 := lv.length) (c2 := cv) (s2 := sv) kr ?_)
  intro w20 hst hkeep
  replace Oa := kS hst Oa
  replace Ob := kS hst Ob
  replace Ov := hide (OwQ.box Ov.out Bu.out hkeep)
  replace Ba := hide (hst.ne Ba.out nq)
  replace Bb := hide (hst.ne Bb.out nq)
  replace Bu := hide hst.box
  replace hU := hU.trans (hst.bel hzu)
  clear hst hkeep
  refine anyE_done kr ?_
  clear F hQ Ba0 Bb0 Bu0
  refine then_normal (wp_ret (ret_box Bu.out rfl kr ?_))
  exact ⟨lv, sv, Av, cv, hide (by rw [Ev.out, Tp_.out, Ta.out, Tb.out]; exact (show _ = arL fSub la lb sa from (arL_some hka hkb rfl).symm)), rfl, Cv, Ov, hU⟩
  refine reg_lit (wpl_r1 [(30, .int .u8 23)] kr (wpl_end (then_normal (wp_block (sw_f [(31, .bool false), (32, .bool false)] rfl kr kr (sw_f [(39, .bool false), (40, .bool false)] rfl kr kr (sw_t [(47, .bool true), (48, .bool true)] rfl kr kr ?_)))))))
  refine wp_seq (region_R (n := 6) (N := 7) kr kr kr kr kr kr (fun _ _ _ _ _ h => h) ?_)
  intro F hQ
  have Ba0 := Ba
  have Bb0 := Bb
  have Bu0 := Bu
  refine anyR_val (i := 0) (m' := 1) (v := .slice Ka ka.length ea) F hQ rfl rfl kr kr kr kr kr (fun _ _ => kr) (anyR_val (i := 1) (m' := 3) (v := .slice Kb kb.length eb) F hQ rfl rfl kr kr kr kr kr (fun _ _ => kr) (anyR_val (i := 3) (m' := 11) (v := .pointer (some ⟨Na, 1, none⟩)) F hQ rfl rfl kr kr kr kr kr (fun _ _ => kr) (anyR_ldsg (i := 4) (m' := 27) Ba0.out F hQ rfl rfl kr kr kr kr kr rfl kr ?_)))
  refine anyR_call (i := 2) (m' := 31) rfl rfl kr kr kr kr kr ((rmul_any Ka Kb ka kb ea eb _ (by omega) (by omega) (by exact Ra.out) (by exact Rb.out)).mono ?_)
  rintro e w21 ⟨kp_, Kp_, ep_, Tp_, rfl, Up_, Rp_, hb⟩
  refine ⟨_, rfl, hb, ?_⟩
  replace hb : Below w14.heap.size w14 w21 := Below.trans ((Below.refl _ _).drew) hb
  replace Oa := kQ Oa hb
  replace Ob := kQ Ob hb
  replace Ba := kB Ba hb
  replace Bb := kB Bb hb
  replace Bu := kB Bu hb
  replace Ra := hide (Rd.kept Ra.out hb)
  replace Rb := hide (Rd.kept Rb.out hb)
  replace hU := kU hU hb
  clear hb
  replace Rp_ := hide Rp_.out.rd
  have hlp_ : kp_.length = la.length := by rw [Tp_.out, vz_length, hla]
  refine anyR_call (i := 5) (m' := 63) rfl rfl kr kr kr kr kr ((rfromb_any Kp_ kp_ ep_ sa _ (by omega) Rp_.out).mono ?_)
  rintro e w22 ⟨lv, sv, Av, cv, Ev, rfl, Cv, Ov, hb⟩
  refine ⟨_, rfl, hb, ?_⟩
  have k0 : w.heap.size ≤ w21.heap.size := hU.size
  replace Oa := kQ Oa hb
  replace Ob := kQ Ob hb
  replace Ba := kB Ba hb
  replace Bb := kB Bb hb
  replace Bu := kB Bu hb
  replace Ra := hide (Rd.kept Ra.out hb)
  replace Rb := hide (Rd.kept Rb.out hb)
  replace Rp_ := hide (Rd.kept Rp_.out hb)
  replace hU := kU hU hb
  clear hb
  have Gv : Gd lv := by have h := congrArg Vc.b Ev.out; dsimp only at h; rw [h]; exact (gd_fb (n := kp_) (by omega) (by omega))
  have Lv := hide (show lv.length ≤ 4096 from Nat.le_trans Gv.le (by decide))
  have Yv := hide Gv.by_
  clear Gv
  replace Ov := hide (OwQ.base Ov.out k0)
  clear k0
  refine anyR_e (anyE_stq (i := 6) (m' := 127) Bu.out rfl rfl kr kr kr kr rfl kr (A2 := Av) (m2 := lv.length) (c2 := cv) (s2 := sv) kr ?_)
  intro w23 hst hkeep
  replace Oa := kS hst Oa
  replace Ob := kS hst Ob
  replace Ov := hide (OwQ.box Ov.out Bu.out hkeep)
  replace Ba := hide (hst.ne Ba.out nq)
  replace Bb := hide (hst.ne Bb.out nq)
  replace Bu := hide hst.box
  replace hU := hU.trans (hst.bel hzu)
  clear hst hkeep
  refine anyE_done kr ?_
  clear F hQ Ba0 Bb0 Bu0
  refine then_normal (wp_ret (ret_box Bu.out rfl kr ?_))
  exact ⟨lv, sv, Av, cv, hide (by rw [Ev.out, Tp_.out, Ta.out, Tb.out]; exact (show _ = arL fMul la lb sa from (arL_some hka hkb rfl).symm)), rfl, Cv, Ov, hU⟩
  have hgo : op = 24 ∨ op = 25 := hgrp
  rcases Nat.eq_zero_or_pos (nv kb) with hz | hz
  rcases Bool.eq_false_or_eq_true sa with hs | hs
  refine reg_lit (wpl_r1 [(30, .int .u8 op)] kr (wpl_end (then_normal (wp_block (wp_seq (reg_lit (wpl_val rfl kr (run_eql8 (a := op) (b := 21) rfl kr kr (beq_eq_false_iff_ne.2 (by omega))) ?_)))))))
  refine wpl_r1 [(31, .bool false)] kr (wpl_end (then_normal (wp_iff kr (wp_seq (reg_lit (wpl_val rfl kr (run_eql8 (a := op) (b := 22) rfl kr kr (beq_eq_false_iff_ne.2 (by omega))) (wpl_r1 [(39, .bool false)] kr ?_)))))))
  refine wpl_end (then_normal (wp_iff kr (wp_seq (reg_lit (wpl_val rfl kr (run_eql8 (a := op) (b := 23) rfl kr kr (beq_eq_false_iff_ne.2 (by omega))) (wpl_r1 [(47, .bool false)] kr (wpl_end ?_)))))))
  refine then_normal (wp_iff kr (wp_skip (block_normal (then_normal (wp_seq (reg_lit (wpl_r2 [(57, .slice Kb kb.length eb), (56, .slice Ka ka.length ea)] kr ?_)))))))
  refine wpl_call rfl kr kr ((rdiv_zero Ka Kb ka kb ea eb _ (by omega) Ub Rb.out hz).mono ?_)
  rintro e w24 ⟨rfl, hb⟩
  refine ⟨_, rfl, ?_⟩
  replace Oa := kQ Oa hb
  replace Ob := kQ Ob hb
  replace Ba := kB Ba hb
  replace Bb := kB Bb hb
  replace Bu := kB Bu hb
  replace Ra := hide (Rd.kept Ra.out hb)
  replace Rb := hide (Rd.kept Rb.out hb)
  replace hU := kU hU hb
  clear hb
  refine wpl_r7 [(11, .int .i64 7), (10, .slice none 0 0), (9, .slice none 0 0), (61, .int .i64 7), (60, .slice none 0 0), (59, .slice none 0 0), (55, .tuple #[.slice none 0 0, .slice none 0 0, .int .i64 7])] kr (wpl_end (then_normal (wp_seq (wp_seq (reg_lit (wpl_r1 [(62, .pointer (some ⟨Na, 1, none⟩))] kr (wpl_ldsg (s := true) (by rw [← hs]; exact Ba.out) rfl kr rfl kr ?_)))))))
  refine wpl_end (then_normal (wp_ift kr (reg_lit (wpl_r2 [(66, .slice Kb kb.length eb), (65, .slice Ka ka.length ea)] kr ?_))))
  refine wpl_call rfl kr kr ((rsdiv_zero Ka Kb ka kb ea eb _ (by omega) Ub Rb.out hz).mono ?_)
  rintro e w25 ⟨rfl, hb⟩
  refine ⟨_, rfl, ?_⟩
  replace Oa := kQ Oa hb
  replace Ob := kQ Ob hb
  replace Ba := kB Ba hb
  replace Bb := kB Bb hb
  replace Bu := kB Bu hb
  replace Ra := hide (Rd.kept Ra.out hb)
  replace Rb := hide (Rd.kept Rb.out hb)
  replace hU := kU hU hb
  clear hb
  refine wpl_r7 [(11, .int .i64 7), (10, .slice none 0 0), (9, .slice none 0 0), (70, .int .i64 7), (69, .slice none 0 0), (68, .slice none 0 0), (64, .tuple #[.slice none 0 0, .slice none 0 0, .int .i64 7])] kr (wpl_end (then_normal (wp_seq (sw_t [(72, .bool true), (71, .int .i64 7)] rfl kr kr (wp_seq (reg_lit (wpl_r1 [(73, .pointer (some ⟨Na, 0, none⟩))] kr ?_)))))))
  refine wpl_ldsl Ba.out rfl kr rfl kr (wpl_r2 [(76, .pointer (some ⟨Na, 1, none⟩)), (75, .int .i64 ((la.length : Nat)))] kr (wpl_ldsg Ba.out rfl kr rfl kr ?_))
  refine wpl_call rfl kr kr ((rfill_any 2 la.length sa _ (by omega)).mono ?_)
  rintro e w26 ⟨lv, sv, Av, cv, Ev, rfl, Cv, Ov, hb⟩
  refine ⟨_, rfl, ?_⟩
  have k0 : w.heap.size ≤ w25.heap.size := hU.size
  replace Oa := kQ Oa hb
  replace Ob := kQ Ob hb
  replace Ba := kB Ba hb
  replace Bb := kB Bb hb
  replace Bu := kB Bu hb
  replace Ra := hide (Rd.kept Ra.out hb)
  replace Rb := hide (Rd.kept Rb.out hb)
  replace hU := kU hU hb
  clear hb
  have Gv : Gd lv := by have h := congrArg Vc.b Ev.out; dsimp only at h; rw [h]; exact (gd_xs (n := la.length) (s := sa) (by omega) (by omega))
  have Lv := hide (show lv.length ≤ 4096 from Nat.le_trans Gv.le (by decide))
  have Yv := hide Gv.by_
  clear Gv
  replace Ov := hide (OwQ.base Ov.out k0)
  clear k0
  refine wpl_stk Bu.out rfl kr rfl kr (A2 := Av) (m2 := lv.length) (c2 := cv) (s2 := sv) kr ?_
  intro w27 hst hkeep
  replace Oa := kS hst Oa
  replace Ob := kS hst Ob
  replace Ov := hide (OwQ.box Ov.out Bu.out hkeep)
  replace Ba := hide (hst.ne Ba.out nq)
  replace Bb := hide (hst.ne Bb.out nq)
  replace Bu := hide hst.box
  replace hU := hU.trans (hst.bel hzu)
  clear hst hkeep
  refine wpl_end (then_normal (wp_ret (ret_box Bu.out rfl kr ?_)))
  exact ⟨lv, sv, Av, cv, hide (by show _ = arV op la lb sa; rw [arV_z hgo hka hkb (by rw [← Tb.out]; exact hz)]; exact Ev.out), rfl, Cv, Ov, hU⟩
  refine reg_lit (wpl_r1 [(30, .int .u8 op)] kr (wpl_end (then_normal (wp_block (wp_seq (reg_lit (wpl_val rfl kr (run_eql8 (a := op) (b := 21) rfl kr kr (beq_eq_false_iff_ne.2 (by omega))) ?_)))))))
  refine wpl_r1 [(31, .bool false)] kr (wpl_end (then_normal (wp_iff kr (wp_seq (reg_lit (wpl_val rfl kr (run_eql8 (a := op) (b := 22) rfl kr kr (beq_eq_false_iff_ne.2 (by omega))) (wpl_r1 [(39, .bool false)] kr ?_)))))))
  refine wpl_end (then_normal (wp_iff kr (wp_seq (reg_lit (wpl_val rfl kr (run_eql8 (a := op) (b := 23) rfl kr kr (beq_eq_false_iff_ne.2 (by omega))) (wpl_r1 [(47, .bool false)] kr (wpl_end ?_)))))))
  refine then_normal (wp_iff kr (wp_skip (block_normal (then_normal (wp_seq (reg_lit (wpl_r2 [(57, .slice Kb kb.length eb), (56, .slice Ka ka.length ea)] kr ?_)))))))
  refine wpl_call rfl kr kr ((rdiv_zero Ka Kb ka kb ea eb _ (by omega) Ub Rb.out hz).mono ?_)
  rintro e w28 ⟨rfl, hb⟩
  refine ⟨_, rfl, ?_⟩
  replace Oa := kQ Oa hb
  replace Ob := kQ Ob hb
  replace Ba := kB Ba hb
  replace Bb := kB Bb hb
  replace Bu := kB Bu hb
  replace Ra := hide (Rd.kept Ra.out hb)
  replace Rb := hide (Rd.kept Rb.out hb)
  replace hU := kU hU hb
  clear hb
  refine wpl_r7 [(11, .int .i64 7), (10, .slice none 0 0), (9, .slice none 0 0), (61, .int .i64 7), (60, .slice none 0 0), (59, .slice none 0 0), (55, .tuple #[.slice none 0 0, .slice none 0 0, .int .i64 7])] kr (wpl_end (then_normal (wp_seq (wp_seq (reg_lit (wpl_r1 [(62, .pointer (some ⟨Na, 1, none⟩))] kr (wpl_ldsg (s := false) (by rw [← hs]; exact Ba.out) rfl kr rfl kr ?_)))))))
  refine wpl_end (then_normal (wp_iff kr (wp_skip (then_normal (wp_seq (sw_t [(72, .bool true), (71, .int .i64 7)] rfl kr kr (wp_seq ?_)))))))
  refine reg_lit (wpl_r1 [(73, .pointer (some ⟨Na, 0, none⟩))] kr (wpl_ldsl Ba.out rfl kr rfl kr (wpl_r2 [(76, .pointer (some ⟨Na, 1, none⟩)), (75, .int .i64 ((la.length : Nat)))] kr (wpl_ldsg Ba.out rfl kr rfl kr ?_))))
  refine wpl_call rfl kr kr ((rfill_any 2 la.length sa _ (by omega)).mono ?_)
  rintro e w29 ⟨lv, sv, Av, cv, Ev, rfl, Cv, Ov, hb⟩
  refine ⟨_, rfl, ?_⟩
  have k0 : w.heap.size ≤ w28.heap.size := hU.size
  replace Oa := kQ Oa hb
  replace Ob := kQ Ob hb
  replace Ba := kB Ba hb
  replace Bb := kB Bb hb
  replace Bu := kB Bu hb
  replace Ra := hide (Rd.kept Ra.out hb)
  replace Rb := hide (Rd.kept Rb.out hb)
  replace hU := kU hU hb
  clear hb
  have Gv : Gd lv := by have h := congrArg Vc.b Ev.out; dsimp only at h; rw [h]; exact (gd_xs (n := la.length) (s := sa) (by omega) (by omega))
  have Lv := hide (show lv.length ≤ 4096 from Nat.le_trans Gv.le (by decide))
  have Yv := hide Gv.by_
  clear Gv
  replace Ov := hide (OwQ.base Ov.out k0)
  clear k0
  refine wpl_stk Bu.out rfl kr rfl kr (A2 := Av) (m2 := lv.length) (c2 := cv) (s2 := sv) kr ?_
  intro w30 hst hkeep
  replace Oa := kS hst Oa
  replace Ob := kS hst Ob
  replace Ov := hide (OwQ.box Ov.out Bu.out hkeep)
  replace Ba := hide (hst.ne Ba.out nq)
  replace Bb := hide (hst.ne Bb.out nq)
  replace Bu := hide hst.box
  replace hU := hU.trans (hst.bel hzu)
  clear hst hkeep
  refine wpl_end (then_normal (wp_ret (ret_box Bu.out rfl kr ?_)))
  exact ⟨lv, sv, Av, cv, hide (by show _ = arV op la lb sa; rw [arV_z hgo hka hkb (by rw [← Tb.out]; exact hz)]; exact Ev.out), rfl, Cv, Ov, hU⟩
  rcases Bool.eq_false_or_eq_true sa with hs | hs
  refine reg_lit (wpl_r1 [(30, .int .u8 op)] kr (wpl_end (then_normal (wp_block (wp_seq (reg_lit (wpl_val rfl kr (run_eql8 (a := op) (b := 21) rfl kr kr (beq_eq_false_iff_ne.2 (by omega))) ?_)))))))
  refine wpl_r1 [(31, .bool false)] kr (wpl_end (then_normal (wp_iff kr (wp_seq (reg_lit (wpl_val rfl kr (run_eql8 (a := op) (b := 22) rfl kr kr (beq_eq_false_iff_ne.2 (by omega))) (wpl_r1 [(39, .bool false)] kr ?_)))))))
  refine wpl_end (then_normal (wp_iff kr (wp_seq (reg_lit (wpl_val rfl kr (run_eql8 (a := op) (b := 23) rfl kr kr (beq_eq_false_iff_ne.2 (by omega))) (wpl_r1 [(47, .bool false)] kr (wpl_end ?_)))))))
  refine then_normal (wp_iff kr (wp_skip (block_normal (then_normal (wp_seq (reg_lit (wpl_r2 [(57, .slice Kb kb.length eb), (56, .slice Ka ka.length ea)] kr ?_)))))))
  refine wpl_call rfl kr kr ((rdiv_any Ka Kb ka kb ea eb _ (by omega) (by omega) Ub Ra.out Rb.out hz).mono ?_)
  rintro e w31 ⟨kg, Kg, eg, kgr, Kgr, egr, Tg, Tgr, rfl, Rg, Rgr, hb⟩
  refine ⟨_, rfl, ?_⟩
  replace Oa := kQ Oa hb
  replace Ob := kQ Ob hb
  replace Ba := kB Ba hb
  replace Bb := kB Bb hb
  replace Bu := kB Bu hb
  replace Ra := hide (Rd.kept Ra.out hb)
  replace Rb := hide (Rd.kept Rb.out hb)
  replace hU := kU hU hb
  clear hb
  replace Rg := hide Rg.out.rd
  have hlg : kg.length = la.length := by rw [Tg.out, vz_length, hla]
  replace Rgr := hide Rgr.out.rd
  have hlgr : kgr.length = la.length := by rw [Tgr.out, vz_length, hla]
  refine wpl_r7 [(11, .int .i64 0), (10, .slice Kgr kgr.length egr), (9, .slice Kg kg.length eg), (61, .int .i64 0), (60, .slice Kgr kgr.length egr), (59, .slice Kg kg.length eg), (55, .tuple #[.slice Kg kg.length eg, .slice Kgr kgr.length egr, .int .i64 0])] kr (wpl_end (then_normal (wp_seq (wp_seq (reg_lit (wpl_r1 [(62, .pointer (some ⟨Na, 1, none⟩))] kr (wpl_ldsg (s := true) (by rw [← hs]; exact Ba.out) rfl kr rfl kr ?_)))))))
  refine wpl_end (then_normal (wp_ift kr (reg_lit (wpl_r2 [(66, .slice Kb kb.length eb), (65, .slice Ka ka.length ea)] kr ?_))))
  refine wpl_call rfl kr kr ((rsdiv_any Ka Kb ka kb ea eb _ (by omega) (by omega) Ua Ub Ra.out Rb.out hz).mono ?_)
  rintro e w32 ⟨kh, Kh, eh, khr, Khr, ehr, Th, Thr, rfl, Rh, Rhr, hb⟩
  refine ⟨_, rfl, ?_⟩
  replace Oa := kQ Oa hb
  replace Ob := kQ Ob hb
  replace Ba := kB Ba hb
  replace Bb := kB Bb hb
  replace Bu := kB Bu hb
  replace Ra := hide (Rd.kept Ra.out hb)
  replace Rb := hide (Rd.kept Rb.out hb)
  replace Rg := hide (Rd.kept Rg.out hb)
  replace Rgr := hide (Rd.kept Rgr.out hb)
  replace hU := kU hU hb
  clear hb
  replace Rh := hide Rh.out.rd
  have hlh : kh.length = la.length := by rw [Th.out, vz_length, hla]
  replace Rhr := hide Rhr.out.rd
  have hlhr : khr.length = la.length := by rw [Thr.out, vz_length, hla]
  refine wpl_r7 [(11, .int .i64 0), (10, .slice Khr khr.length ehr), (9, .slice Kh kh.length eh), (70, .int .i64 0), (69, .slice Khr khr.length ehr), (68, .slice Kh kh.length eh), (64, .tuple #[.slice Kh kh.length eh, .slice Khr khr.length ehr, .int .i64 0])] kr (wpl_end (then_normal (wp_seq (sw_f [(72, .bool false), (71, .int .i64 0)] rfl kr kr (wp_skip (then_normal (wp_seq ?_)))))))
  refine wp_seq ?_
  rcases hgo with rfl | rfl
  refine reg_lit (wpl_r2 [(80, .bool true), (79, .int .u8 24)] kr (wpl_end (then_normal (wp_ift kr (wp_seq (reg_lit (wpl_r2 [(82, .pointer (some ⟨Na, 1, none⟩)), (81, .slice Kh kh.length eh)] kr ?_)))))))
  refine wpl_ldsg Ba.out rfl kr rfl kr ?_
  refine wpl_call rfl kr kr ((rfromb_any Kh kh eh sa _ (by omega) Rh.out).mono ?_)
  rintro e w33 ⟨lv, sv, Av, cv, Ev, rfl, Cv, Ov, hb⟩
  refine ⟨_, rfl, ?_⟩
  have k0 : w.heap.size ≤ w32.heap.size := hU.size
  replace Oa := kQ Oa hb
  replace Ob := kQ Ob hb
  replace Ba := kB Ba hb
  replace Bb := kB Bb hb
  replace Bu := kB Bu hb
  replace Ra := hide (Rd.kept Ra.out hb)
  replace Rb := hide (Rd.kept Rb.out hb)
  replace Rg := hide (Rd.kept Rg.out hb)
  replace Rgr := hide (Rd.kept Rgr.out hb)
  replace Rh := hide (Rd.kept Rh.out hb)
  replace Rhr := hide (Rd.kept Rhr.out hb)
  replace hU := kU hU hb
  clear hb
  have Gv : Gd lv := by have h := congrArg Vc.b Ev.out; dsimp only at h; rw [h]; exact (gd_fb (n := kh) (by omega) (by omega))
  have Lv := hide (show lv.length ≤ 4096 from Nat.le_trans Gv.le (by decide))
  have Yv := hide Gv.by_
  clear Gv
  replace Ov := hide (OwQ.base Ov.out k0)
  clear k0
  refine wpl_stk Bu.out rfl kr rfl kr (A2 := Av) (m2 := lv.length) (c2 := cv) (s2 := sv) kr ?_
  intro w34 hst hkeep
  replace Oa := kS hst Oa
  replace Ob := kS hst Ob
  replace Ov := hide (OwQ.box Ov.out Bu.out hkeep)
  replace Ba := hide (hst.ne Ba.out nq)
  replace Bb := hide (hst.ne Bb.out nq)
  replace Bu := hide hst.box
  replace hU := hU.trans (hst.bel hzu)
  clear hst hkeep
  refine wpl_end (then_normal (wp_ret (ret_box Bu.out rfl kr ?_)))
  exact ⟨lv, sv, Av, cv, hide (by rw [Ev.out, Th.out, Ta.out, Tb.out]; exact (show _ = arL fDiv la lb sa from (arL_some hka hkb (by rw [hs]; exact fDiv_s (by rw [← Tb.out]; exact hz))).symm)), rfl, Cv, Ov, hU⟩
  refine reg_lit (wpl_r2 [(80, .bool false), (79, .int .u8 25)] kr (wpl_end (then_normal (wp_iff kr (wp_skip (then_normal (wp_seq ?_)))))))
  refine reg_lit (wpl_r2 [(86, .pointer (some ⟨Na, 1, none⟩)), (85, .slice Khr khr.length ehr)] kr (wpl_ldsg Ba.out rfl kr rfl kr ?_))
  refine wpl_call rfl kr kr ((rfromb_any Khr khr ehr sa _ (by omega) Rhr.out).mono ?_)
  rintro e w35 ⟨lv, sv, Av, cv, Ev, rfl, Cv, Ov, hb⟩
  refine ⟨_, rfl, ?_⟩
  have k0 : w.heap.size ≤ w32.heap.size := hU.size
  replace Oa := kQ Oa hb
  replace Ob := kQ Ob hb
  replace Ba := kB Ba hb
  replace Bb := kB Bb hb
  replace Bu := kB Bu hb
  replace Ra := hide (Rd.kept Ra.out hb)
  replace Rb := hide (Rd.kept Rb.out hb)
  replace Rg := hide (Rd.kept Rg.out hb)
  replace Rgr := hide (Rd.kept Rgr.out hb)
  replace Rh := hide (Rd.kept Rh.out hb)
  replace Rhr := hide (Rd.kept Rhr.out hb)
  replace hU := kU hU hb
  clear hb
  have Gv : Gd lv := by have h := congrArg Vc.b Ev.out; dsimp only at h; rw [h]; exact (gd_fb (n := khr) (by omega) (by omega))
  have Lv := hide (show lv.length ≤ 4096 from Nat.le_trans Gv.le (by decide))
  have Yv := hide Gv.by_
  clear Gv
  replace Ov := hide (OwQ.base Ov.out k0)
  clear k0
  refine wpl_stk Bu.out rfl kr rfl kr (A2 := Av) (m2 := lv.length) (c2 := cv) (s2 := sv) kr ?_
  intro w36 hst hkeep
  replace Oa := kS hst Oa
  replace Ob := kS hst Ob
  replace Ov := hide (OwQ.box Ov.out Bu.out hkeep)
  replace Ba := hide (hst.ne Ba.out nq)
  replace Bb := hide (hst.ne Bb.out nq)
  replace Bu := hide hst.box
  replace hU := hU.trans (hst.bel hzu)
  clear hst hkeep
  refine wpl_end (then_normal (wp_ret (ret_box Bu.out rfl kr ?_)))
  exact ⟨lv, sv, Av, cv, hide (by rw [Ev.out, Thr.out, Ta.out, Tb.out]; exact (show _ = arL fMod la lb sa from (arL_some hka hkb (by rw [hs]; exact fMod_s (by rw [← Tb.out]; exact hz))).symm)), rfl, Cv, Ov, hU⟩
  refine reg_lit (wpl_r1 [(30, .int .u8 op)] kr (wpl_end (then_normal (wp_block (wp_seq (reg_lit (wpl_val rfl kr (run_eql8 (a := op) (b := 21) rfl kr kr (beq_eq_false_iff_ne.2 (by omega))) ?_)))))))
  refine wpl_r1 [(31, .bool false)] kr (wpl_end (then_normal (wp_iff kr (wp_seq (reg_lit (wpl_val rfl kr (run_eql8 (a := op) (b := 22) rfl kr kr (beq_eq_false_iff_ne.2 (by omega))) (wpl_r1 [(39, .bool false)] kr ?_)))))))
  refine wpl_end (then_normal (wp_iff kr (wp_seq (reg_lit (wpl_val rfl kr (run_eql8 (a := op) (b := 23) rfl kr kr (beq_eq_false_iff_ne.2 (by omega))) (wpl_r1 [(47, .bool false)] kr (wpl_end ?_)))))))
  refine then_normal (wp_iff kr (wp_skip (block_normal (then_normal (wp_seq (reg_lit (wpl_r2 [(57, .slice Kb kb.length eb), (56, .slice Ka ka.length ea)] kr ?_)))))))
  refine wpl_call rfl kr kr ((rdiv_any Ka Kb ka kb ea eb _ (by omega) (by omega) Ub Ra.out Rb.out hz).mono ?_)
  rintro e w37 ⟨kg, Kg, eg, kgr, Kgr, egr, Tg, Tgr, rfl, Rg, Rgr, hb⟩
  refine ⟨_, rfl, ?_⟩
  replace Oa := kQ Oa hb
  replace Ob := kQ Ob hb
  replace Ba := kB Ba hb
  replace Bb := kB Bb hb
  replace Bu := kB Bu hb
  replace Ra := hide (Rd.kept Ra.out hb)
  replace Rb := hide (Rd.kept Rb.out hb)
  replace hU := kU hU hb
  clear hb
  replace Rg := hide Rg.out.rd
  have hlg : kg.length = la.length := by rw [Tg.out, vz_length, hla]
  replace Rgr := hide Rgr.out.rd
  have hlgr : kgr.length = la.length := by rw [Tgr.out, vz_length, hla]
  refine wpl_r7 [(11, .int .i64 0), (10, .slice Kgr kgr.length egr), (9, .slice Kg kg.length eg), (61, .int .i64 0), (60, .slice Kgr kgr.length egr), (59, .slice Kg kg.length eg), (55, .tuple #[.slice Kg kg.length eg, .slice Kgr kgr.length egr, .int .i64 0])] kr (wpl_end (then_normal (wp_seq (wp_seq (reg_lit (wpl_r1 [(62, .pointer (some ⟨Na, 1, none⟩))] kr (wpl_ldsg (s := false) (by rw [← hs]; exact Ba.out) rfl kr rfl kr ?_)))))))
  refine wpl_end (then_normal (wp_iff kr (wp_skip (then_normal (wp_seq (sw_f [(72, .bool false), (71, .int .i64 0)] rfl kr kr (wp_skip ?_)))))))
  refine then_normal (wp_seq (wp_seq ?_))
  rcases hgo with rfl | rfl
  refine reg_lit (wpl_r2 [(80, .bool true), (79, .int .u8 24)] kr (wpl_end (then_normal (wp_ift kr (wp_seq (reg_lit (wpl_r2 [(82, .pointer (some ⟨Na, 1, none⟩)), (81, .slice Kg kg.length eg)] kr ?_)))))))
  refine wpl_ldsg Ba.out rfl kr rfl kr ?_
  refine wpl_call rfl kr kr ((rfromb_any Kg kg eg sa _ (by omega) Rg.out).mono ?_)
  rintro e w38 ⟨lv, sv, Av, cv, Ev, rfl, Cv, Ov, hb⟩
  refine ⟨_, rfl, ?_⟩
  have k0 : w.heap.size ≤ w37.heap.size := hU.size
  replace Oa := kQ Oa hb
  replace Ob := kQ Ob hb
  replace Ba := kB Ba hb
  replace Bb := kB Bb hb
  replace Bu := kB Bu hb
  replace Ra := hide (Rd.kept Ra.out hb)
  replace Rb := hide (Rd.kept Rb.out hb)
  replace Rg := hide (Rd.kept Rg.out hb)
  replace Rgr := hide (Rd.kept Rgr.out hb)
  replace hU := kU hU hb
  clear hb
  have Gv : Gd lv := by have h := congrArg Vc.b Ev.out; dsimp only at h; rw [h]; exact (gd_fb (n := kg) (by omega) (by omega))
  have Lv := hide (show lv.length ≤ 4096 from Nat.le_trans Gv.le (by decide))
  have Yv := hide Gv.by_
  clear Gv
  replace Ov := hide (OwQ.base Ov.out k0)
  clear k0
  refine wpl_stk Bu.out rfl kr rfl kr (A2 := Av) (m2 := lv.length) (c2 := cv) (s2 := sv) kr ?_
  intro w39 hst hkeep
  replace Oa := kS hst Oa
  replace Ob := kS hst Ob
  replace Ov := hide (OwQ.box Ov.out Bu.out hkeep)
  replace Ba := hide (hst.ne Ba.out nq)
  replace Bb := hide (hst.ne Bb.out nq)
  replace Bu := hide hst.box
  replace hU := hU.trans (hst.bel hzu)
  clear hst hkeep
  refine wpl_end (then_normal (wp_ret (ret_box Bu.out rfl kr ?_)))
  exact ⟨lv, sv, Av, cv, hide (by rw [Ev.out, Tg.out, Ta.out, Tb.out]; exact (show _ = arL fDiv la lb sa from (arL_some hka hkb (by rw [hs]; exact fDiv_u (by rw [← Tb.out]; exact hz))).symm)), rfl, Cv, Ov, hU⟩
  refine reg_lit (wpl_r2 [(80, .bool false), (79, .int .u8 25)] kr (wpl_end (then_normal (wp_iff kr (wp_skip (then_normal (wp_seq ?_)))))))
  refine reg_lit (wpl_r2 [(86, .pointer (some ⟨Na, 1, none⟩)), (85, .slice Kgr kgr.length egr)] kr (wpl_ldsg Ba.out rfl kr rfl kr ?_))
  refine wpl_call rfl kr kr ((rfromb_any Kgr kgr egr sa _ (by omega) Rgr.out).mono ?_)
  rintro e w40 ⟨lv, sv, Av, cv, Ev, rfl, Cv, Ov, hb⟩
  refine ⟨_, rfl, ?_⟩
  have k0 : w.heap.size ≤ w37.heap.size := hU.size
  replace Oa := kQ Oa hb
  replace Ob := kQ Ob hb
  replace Ba := kB Ba hb
  replace Bb := kB Bb hb
  replace Bu := kB Bu hb
  replace Ra := hide (Rd.kept Ra.out hb)
  replace Rb := hide (Rd.kept Rb.out hb)
  replace Rg := hide (Rd.kept Rg.out hb)
  replace Rgr := hide (Rd.kept Rgr.out hb)
  replace hU := kU hU hb
  clear hb
  have Gv : Gd lv := by have h := congrArg Vc.b Ev.out; dsimp only at h; rw [h]; exact (gd_fb (n := kgr) (by omega) (by omega))
  have Lv := hide (show lv.length ≤ 4096 from Nat.le_trans Gv.le (by decide))
  have Yv := hide Gv.by_
  clear Gv
  replace Ov := hide (OwQ.base Ov.out k0)
  clear k0
  refine wpl_stk Bu.out rfl kr rfl kr (A2 := Av) (m2 := lv.length) (c2 := cv) (s2 := sv) kr ?_
  intro w41 hst hkeep
  replace Oa := kS hst Oa
  replace Ob := kS hst Ob
  replace Ov := hide (OwQ.box Ov.out Bu.out hkeep)
  replace Ba := hide (hst.ne Ba.out nq)
  replace Bb := hide (hst.ne Bb.out nq)
  replace Bu := hide hst.box
  replace hU := hU.trans (hst.bel hzu)
  clear hst hkeep
  refine wpl_end (then_normal (wp_ret (ret_box Bu.out rfl kr ?_)))
  exact ⟨lv, sv, Av, cv, hide (by rw [Ev.out, Tgr.out, Ta.out, Tb.out]; exact (show _ = arL fMod la lb sa from (arL_some hka hkb (by rw [hs]; exact fMod_u (by rw [← Tb.out]; exact hz))).symm)), rfl, Cv, Ov, hU⟩
end
end Go.Proofs.YtbcpeagannjgpaaGreatDoor

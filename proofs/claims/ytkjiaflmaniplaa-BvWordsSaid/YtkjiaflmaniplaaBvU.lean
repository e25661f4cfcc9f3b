/-
  The contracts of the reference's arithmetic of layer 3: Trim, sum, minus, power.
-/
import Derived.Test.YtkjiaflmaniplaaBvT
namespace Go.Proofs.Ytkjiaflmaniplaa
open Go.RowKit
set_option linter.unusedSimpArgs false
set_option linter.unusedVariables false

theorem nv_snoc (l : List Bool) (b : Bool) : nv (l ++ [b]) = nv l + 2 ^ l.length * b.toNat := by
  unfold nv
  rw [List.length_append, List.length_singleton, nf_succ]
  have h1 : nf (bt (l ++ [b])) l.length = nf (bt l) l.length := nf_congr fun i hi => by
    unfold bt; rw [List.getD_eq_getElem?_getD, List.getD_eq_getElem?_getD, List.getElem?_append_left hi]
  have h2 : bt (l ++ [b]) l.length = b := by unfold bt; simp
  rw [h1, h2]
theorem take_bt (a : List Bool) (k : Nat) (hk : k ≤ a.length) : a.take k = bl k (bt a) :=
  eq_bl (by simp; omega) fun i hi => by
    unfold bt; rw [List.getD_eq_getElem?_getD, List.getElem?_take, if_pos hi, ← List.getD_eq_getElem?_getD]
theorem take_rd {w : World} {A : Option Addr} {a : List Bool} (h : Rd w A a) (k : Nat) (hk : k ≤ a.length) : Rd w A (a.take k) := fun hn => by
  have hl : (a.take k).length = k := by simp; omega
  obtain ⟨ad, e, hb, hc⟩ := h (by omega)
  refine ⟨ad, e, hb, fun i hi => ?_⟩
  rw [hl] at hi
  rw [hc i (by omega), take_bt a k hk, bt_bl_lt hi]
/-- What Trim leaves: the same value, no zero at the end. -/
def Trimmed (a l : List Bool) : Prop := nv l = nv a ∧ l.length ≤ a.length ∧ (0 < l.length → bt l (l.length - 1) = true)

set_option maxHeartbeats 1000000 in
theorem trim_any (A : Option Addr) (a : List Bool) (c : Nat) (w : World) (ha : a.length ≤ 4096) (hcap : Hid (a.length ≤ c ∧ c ≤ maxLen)) (hA : Rd w A a) :
    Calls Try.prog 62 #[.slice A a.length c] w (RetP (Trimmed a) w) := by
  have HA := hide hA
  clear hA
  go_enter Try.func62, Try.ntmps62
  go_wp2
  go_loop [3] (fun i => ∃ k : Nat, k ≤ a.length ∧ i = .int .i64 k ∧ Hid (∀ j, k ≤ j → bt a j = false)) (fun i => (intOf i).toNat)
  case atStart => exact ⟨a.length, Nat.le_refl _, rfl, hide fun j hj => bt_ge hj⟩
  case round =>
    obtain ⟨k, hk, rfl, hno⟩ := hrel
    have hkc : k ≤ c := Nat.le_trans hk hcap.out.1
    have hcm := hcap.out.2
    unfold maxLen at hcm
    have fin : ∀ v' w', w'.ownsRow w.heap.size 4 1 v' (0 + k) (([] ++ a.take k).map Value.bool) → Below w.heap.size (w.alloc (.cells #[] 4)) w' → Hid (0 < k → bt a (k - 1) = true) → RetP (Trimmed a) w (.returned v') w' := by
      intro v' w' h hb ht
      have hl : (a.take k).length = k := by simp; omega
      have h2 : OwnL w v' ([] ++ a.take k) w' := OwnL.add (k := k) ((Below.refl _ _).alloc (Nat.le_refl _) _) h hb
      refine h2.done ?_
      rw [List.nil_append]
      refine ⟨?_, by omega, fun h0 => ?_⟩
      · rw [take_bt a k hk, nv_bl]
        exact (nf_flat hk fun j h1 _ => hno.out j h1).symm
      · rw [hl] at h0 ⊢
        rw [take_bt a k hk, bt_bl_lt (by omega)]
        exact ht.out h0
    have FIN := hide fin
    clear fin
    have hrd := hide (take_rd HA.out k hk)
    have htl : (a.take k).length = k := by simp; omega
    have HTL := hide htl
    clear htl
    rcases Nat.eq_zero_or_pos k with h0 | h0
    · subst h0
      go_wp2_with (at_builtin; refine wpList_append_bv _ rfl _ _ rfl w.heap.size _ 0 [] rfl (own_empty _ _ (Nat.le_refl _)) A 0 c (a.take 0) rfl rfl (hrd.out.below ((Below.refl _ _).alloc (Nat.le_refl _) _)) (by simp) (by simp) ?_; intro v' w' hown hb)
      go_ret
      exact FIN.out _ _ hown hb (hide fun h => absurd h (by omega))
    · obtain ⟨m, rfl⟩ : ∃ m, k = m + 1 := ⟨k - 1, by omega⟩
      have hma : m < a.length := by omega
      obtain ⟨ad, rfl, hlt1, hc⟩ := HA.out.at_ hma
      cases hx : bt a m
      · rw [hx] at hc
        have hx' := hide hx
        clear hx
        go_wp2
        go_round
        case rel => exact ⟨m, by omega, by go_num, hide fun j hj => by
          by_cases e : j = m
          · subst e; exact hx'.out
          · exact hno.out j (by omega)⟩
        case measure => simp [intOf]
      · rw [hx] at hc
        have hx' := hide hx
        clear hx
        go_wp2_with (at_builtin; refine wpList_append_bv _ rfl _ _ rfl w.heap.size _ 0 [] rfl (own_empty _ _ (Nat.le_refl _)) (some ad) (m + 1) c (a.take (m + 1)) rfl HTL.out.symm (hrd.out.below ((Below.refl _ _).alloc (Nat.le_refl _) _)) (by rw [HTL.out]; simp; omega) (by simp) ?_; intro v' w' hown hb)
        go_ret
        exact FIN.out _ _ hown hb (hide fun h => hx'.out)

theorem one_add {w wr w1 : World} {v' : Value} {l : List Bool} {b : Bool} {n : Nat} (hb : Below w.heap.size w wr) (h : w1.ownsRow w.heap.size 4 1 v' (n + 1) ((l ++ [b]).map Value.bool)) (hb1 : Below w.heap.size (wr.alloc (.cells #[.bool b] 4)) w1) : OwnL w v' (l ++ [b]) w1 :=
  OwnL.add (k := 1) (hb.alloc hb.size _) h hb1

/-- A round of sum: the bits so far and the carry. -/
theorem sum_bit (x y z : Bool) : ((x.toNat + y.toNat + z.toNat) % 2 == 1) = (x != (y != z)) ∧ (x.toNat + y.toNat + z.toNat) / 2 = ((x && y) || ((x != y) && z)).toNat := by
  cases x <;> cases y <;> cases z <;> decide

set_option maxHeartbeats 2000000 in
theorem sum_any (A B : Option Addr) (a b : List Bool) (c d : Nat) (w : World) (ha : a.length ≤ 4096) (hb : b.length ≤ 4096) (hA : Rd w A a) (hB : Rd w B b) :
    Calls Try.prog 57 #[.slice A a.length c, .slice B b.length d] w (RetP (fun l => nv l = nv a + nv b ∧ l.length ≤ max a.length b.length + 1) w) := by
  have HA := hide hA
  have HB := hide hB
  clear hA hB
  go_enter Try.func57, Try.ntmps57
  go_wp2
  go_loopw [5, 6, 7] (fun v cr i wr => ∃ k : Nat, k ≤ max a.length b.length + 1 ∧ i = .int .i64 k ∧ cr = .int .i64 (cy false (bt a) (bt b) k).toNat ∧ (max a.length b.length < k → cy false (bt a) (bt b) k = false) ∧ OwnL w v (bl k (sb false (bt a) (bt b))) wr) (fun _ _ i _ => max a.length b.length + 1 - (intOf i).toNat)
  case atStart => exact ⟨0, Nat.zero_le _, rfl, rfl, fun h => absurd h (by omega), OwnL.nil w⟩
  case round =>
    obtain ⟨k, hk, rfl, rfl, hcl, hR⟩ := hrel
    have hRH := hide hR
    have HCL := hide hcl
    clear hR hcl
    have hata := hide (at_any A a c k wr ha (by omega) (HA.out.below hRH.out.bel))
    have hatb := hide (at_any B b d k wr hb (by omega) (HB.out.below hRH.out.bel))
    have hcy : Hid (cy false (bt a) (bt b) (k + 1) = ((bt a k && bt b k) || ((bt a k != bt b k) && cy false (bt a) (bt b) k))) := hide rfl
    have hsb : Hid (sb false (bt a) (bt b) k = (bt a k != (bt b k != cy false (bt a) (bt b) k))) := hide rfl
    have hxe : max a.length b.length ≤ k → bt a k = false ∧ bt b k = false := fun h => ⟨bt_ge (by omega), bt_ge (by omega)⟩
    obtain ⟨x, hx⟩ : ∃ x, x = bt a k := ⟨_, rfl⟩
    obtain ⟨y, hy⟩ : ∃ y, y = bt b k := ⟨_, rfl⟩
    obtain ⟨z, hz⟩ : ∃ z, z = cy false (bt a) (bt b) k := ⟨_, rfl⟩
    rw [← hx, ← hy, ← hz] at hcy hsb
    rw [← hx, ← hy] at hxe
    rw [← hx] at hata
    rw [← hy] at hatb
    rw [← hz] at HCL ⊢
    have HXE := hide hxe
    have HZ := hide hz
    have fin : Hid (max a.length b.length ≤ k → z = false → nv (bl k (sb false (bt a) (bt b))) = nv a + nv b) := hide (fun h1 h2 => by
      have q := nf_sb false (bt a) (bt b) k
      rw [← hz, h2, nf_bt (Nat.le_trans (Nat.le_max_left _ _) h1), nf_bt (Nat.le_trans (Nat.le_max_right _ _) h1)] at q
      rw [nv_bl]; simpa using q)
    clear hx hy hz hxe
    by_cases hgo : k < max a.length b.length
    · have hin : k < a.length ∨ k < b.length := by omega
      have HIN := hide hin
      clear hin
      cases x <;> cases y <;> cases z
      all_goals
        by_cases hka : k < a.length
        all_goals
          (try have hkb : k < b.length := by have := HIN.out; omega)
          go_wp2_with (first
            | (go_at_call 71; (with_reducible refine (hata.out).mono ?_); rintro e w' ⟨rfl, rfl⟩)
            | (go_at_call 71; (with_reducible refine (hatb.out).mono ?_); rintro e w' ⟨rfl, rfl⟩)
            | (at_builtin; refine wpList_append_bv _ rfl _ _ rfl w.heap.size _ _ (bl k (sb false (bt a) (bt b))) rfl (hRH.out.own.alloc _) (some ⟨wr.heap.size, 0, none⟩) 1 1 [_] rfl rfl (one_rd _ _) (by rw [bl_length]; simp; omega) (by have := hRH.out.bel.size; simp; omega) ?_; intro v' w1 hown' hb'))
          go_roundw
          case rel => exact ⟨k + 1, by omega, by go_num, by rw [hcy.out]; rfl, fun h => absurd h (by omega), by rw [bl_snoc, hsb.out]; exact one_add hRH.out.bel hown' hb'⟩
          case measure => simp [intOf]; omega
    · obtain ⟨e1, e2⟩ := HXE.out (by omega)
      have hka : ¬ k < a.length := by omega
      have hkb : ¬ k < b.length := by omega
      cases z
      · have hF := hide (fin.out (by omega) rfl)
        clear fin
        go_wp2
        go_ret
        exact hRH.out.done ⟨hF.out, by rw [bl_length]; exact hk⟩
      · have hkm : k = max a.length b.length := by
          rcases Nat.lt_or_ge (max a.length b.length) k with h | h
          · exact absurd (HCL.out h) (by simp)
          · omega
        have HKM := hide hkm
        subst e1; subst e2
        clear hkm
        go_wp2_with (first
          | (go_at_call 71; (with_reducible refine (hata.out).mono ?_); rintro e w' ⟨rfl, rfl⟩)
          | (go_at_call 71; (with_reducible refine (hatb.out).mono ?_); rintro e w' ⟨rfl, rfl⟩)
          | (at_builtin; refine wpList_append_bv _ rfl _ _ rfl w.heap.size _ _ (bl k (sb false (bt a) (bt b))) rfl (hRH.out.own.alloc _) (some ⟨wr.heap.size, 0, none⟩) 1 1 [_] rfl rfl (one_rd _ _) (by rw [bl_length]; simp; omega) (by have := hRH.out.bel.size; simp; omega) ?_; intro v' w1 hown' hb'))
        go_roundw
        case rel => exact ⟨k + 1, by have := HKM.out; omega, by go_num, by rw [hcy.out]; rfl, fun h => by rw [hcy.out]; rfl, by rw [bl_snoc, hsb.out]; exact one_add hRH.out.bel hown' hb'⟩
        case measure => have := HKM.out; simp [intOf]; omega

/-- A round of minus: the bits so far and the borrow. -/
def bw (f g : Nat → Bool) : Nat → Bool
  | 0 => false
  | i + 1 => (!f i && (g i || bw f g i)) || (g i && bw f g i)
def db (f g : Nat → Bool) (i : Nat) : Bool := f i != (g i != bw f g i)
theorem nf_db (f g : Nat → Bool) (n : Nat) : nf (db f g) n + nf g n = nf f n + 2 ^ n * (bw f g n).toNat := by
  induction n with
  | zero => simp [nf, bw]
  | succ n ih =>
    have e : (db f g n).toNat + (g n).toNat + (bw f g n).toNat = (f n).toNat + 2 * (bw f g (n + 1)).toNat := by
      unfold db
      show _ = _ + 2 * ((!f n && (g n || bw f g n)) || (g n && bw f g n)).toNat
      cases f n <;> cases g n <;> cases bw f g n <;> rfl
    rw [nf_succ, nf_succ, nf_succ, Nat.pow_succ]
    have k := congrArg (2 ^ n * ·) e
    simp only [Nat.mul_add] at k
    rw [Nat.mul_assoc (2 ^ n) 2]
    omega

set_option maxHeartbeats 2000000 in
theorem minus_any (A B : Option Addr) (a b : List Bool) (c d : Nat) (w : World) (ha : a.length ≤ 4096) (hb : b.length ≤ 4096) (hA : Rd w A a) (hB : Rd w B b) (hle : nv b ≤ nv a) :
    Calls Try.prog 58 #[.slice A a.length c, .slice B b.length d] w (RetP (fun l => nv l = nv a - nv b ∧ l.length = a.length) w) := by
  have HA := hide hA
  have HB := hide hB
  have HLE := hide hle
  clear hA hB hle
  go_enter Try.func58, Try.ntmps58
  go_wp2
  go_loopw [5, 6, 7] (fun v cr i wr => ∃ k : Nat, k ≤ a.length ∧ i = .int .i64 k ∧ cr = .int .i64 (bw (bt a) (bt b) k).toNat ∧ OwnL w v (bl k (db (bt a) (bt b))) wr) (fun _ _ i _ => a.length - (intOf i).toNat)
  case atStart => exact ⟨0, Nat.zero_le _, rfl, rfl, OwnL.nil w⟩
  case round =>
    obtain ⟨k, hk, rfl, rfl, hR⟩ := hrel
    have hRH := hide hR
    clear hR
    by_cases hlt : k < a.length
    · have hatb := hide (at_any B b d k wr hb (by omega) (HB.out.below hRH.out.bel))
      have hRdA := HA.out.below hRH.out.bel
      obtain ⟨ad, rfl, hlt1, hc⟩ := hRdA.at_ hlt
      clear hRdA
      have hbw : Hid (bw (bt a) (bt b) (k + 1) = ((!bt a k && (bt b k || bw (bt a) (bt b) k)) || (bt b k && bw (bt a) (bt b) k))) := hide rfl
      have hdb : Hid (db (bt a) (bt b) k = (bt a k != (bt b k != bw (bt a) (bt b) k))) := hide rfl
      obtain ⟨x, hx⟩ : ∃ x, x = bt a k := ⟨_, rfl⟩
      obtain ⟨y, hy⟩ : ∃ y, y = bt b k := ⟨_, rfl⟩
      obtain ⟨z, hz⟩ : ∃ z, z = bw (bt a) (bt b) k := ⟨_, rfl⟩
      rw [← hx, ← hy, ← hz] at hbw hdb
      rw [← hx] at hc
      rw [← hy] at hatb
      rw [← hz]
      clear hx hy hz
      cases x <;> cases y <;> cases z
      all_goals
        go_wp2_with (first
          | (go_at_call 71; (with_reducible refine (hatb.out).mono ?_); rintro e w' ⟨rfl, rfl⟩)
          | (at_builtin; refine wpList_append_bv _ rfl _ _ rfl w.heap.size _ _ (bl k (db (bt a) (bt b))) rfl (hRH.out.own.alloc _) (some ⟨wr.heap.size, 0, none⟩) 1 1 [_] rfl rfl (one_rd _ _) (by rw [bl_length]; simp; omega) (by have := hRH.out.bel.size; simp; omega) ?_; intro v' w1 hown' hb'))
        go_roundw
        case rel => exact ⟨k + 1, by omega, by go_num, by rw [hbw.out]; rfl, by rw [bl_snoc, hdb.out]; exact one_add hRH.out.bel hown' hb'⟩
        case measure => simp [intOf]; omega
    · have e : k = a.length := by omega
      subst e
      go_wp2
      go_ret
      refine hRH.out.done ⟨?_, bl_length _ _⟩
      rw [nv_bl]
      have q := nf_db (bt a) (bt b) a.length
      have l := nf_lt (db (bt a) (bt b)) a.length
      have q1 : nf (bt a) a.length = nv a := rfl
      have q2 := nf_bt_mod b a.length
      have q3 := nv_lt a
      have hle := HLE.out
      rw [q1, q2, Nat.mod_eq_of_lt (by omega)] at q
      cases hz : bw (bt a) (bt b) a.length
      · rw [hz] at q; simp at q; omega
      · rw [hz] at q; simp at q; omega

theorem nv_append (l m : List Bool) : nv (l ++ m) = nv l + 2 ^ l.length * nv m := by
  unfold nv
  rw [List.length_append, nf_Mid_val]
  have h1 : nf (bt (l ++ m)) l.length = nf (bt l) l.length := nf_congr fun i hi => by
    unfold bt; rw [List.getD_eq_getElem?_getD, List.getD_eq_getElem?_getD, List.getElem?_append_left hi]
  have h2 : nf (fun i => bt (l ++ m) (l.length + i)) m.length = nf (bt m) m.length := nf_congr fun i hi => by
    unfold bt; rw [List.getD_eq_getElem?_getD, List.getD_eq_getElem?_getD, List.getElem?_append_right (by omega), show l.length + i - l.length = i by omega]
  rw [h1, h2]
theorem nv_zeros (n : Nat) : nv (List.replicate n false) = 0 := nf_none fun i hi => by unfold bt; rw [List.length_replicate] at hi; simp [hi]
theorem wpList_make_ow (w : World) {ops : Array Oper} {rest : List Oper} {o : Oper} {a : Act} {Q : Exit → Act → World → Prop} (hg : o.guard = none) (x y : Operand) (hop : o.op = Op.makeSlice 22 x y)
    (L C : Int) (n : Nat) (hl : a.eval x = .int .i64 L) (hc : a.eval y = .int .i64 C) (hL : L = n) (hC : C = n) (hn : n ≤ 4096)
    (hK : ∀ w', w'.ownsRow w.heap.size 4 1 (.slice (some ⟨w.heap.size, 0, none⟩) n n) n ((List.replicate n false).map Value.bool) → Below w.heap.size w w' → w.heap.size < w'.heap.size → wpList Try.prog ops Q rest (a.put o.dst (.slice (some ⟨w.heap.size, 0, none⟩) n n)) w') :
    wpList Try.prog ops Q (o :: rest) a w := by
  obtain ⟨i0, hi, hz0, hz1, hz2⟩ := info_parts bool_info
  refine wpList_make_full w hg x y 22 hop w.heap.size 4 i0 (.bool false) 1 Try.underlying22 hi hz0 hz1 .i64 .i64 L C n hl hc hL hC (by rw [hz2]; omega) (by simp only [maxLen]; omega) (Nat.le_refl _) ?_
  intro w' hown hgrow
  have hlen : (madeCells (Value.bool false).cells (n * 1)).toList = (List.replicate n false).map Value.bool := by
    rw [Nat.mul_one, show (Value.bool false).cells = #[.bool false] from rfl, toList_madeCells_one, List.map_replicate]
  rw [hlen] at hown
  exact hK w' hown ((Below.refl _ _).grown hgrow (Nat.le_refl _) (fun k hk => by cases hk)) (hown.lt _ rfl).2
theorem own_ret {w wr : World} {v : Value} {n : Nat} {l : List Bool} {P : List Bool → Prop} (h : wr.ownsRow w.heap.size 4 1 v n (l.map Value.bool)) (hb : Below w.heap.size w wr) (hp : P l) : RetP P w (.returned v) wr := by
  obtain ⟨A, c, rfl, h1, h2, h3⟩ := own_open h
  exact ⟨l, A, c, hide hp, rfl, hide ⟨h1, h2⟩, hide h3, hb⟩

theorem power_any (n : Nat) (w : World) (hn : n ≤ 4096) : Calls Try.prog 59 #[.int .i64 n] w (RetP (fun l => nv l = 2 ^ n ∧ l.length = n + 1) w) := by
  go_enter Try.func59, Try.ntmps59
  go_wp2_with (first
    | (at_make; refine wpList_make_ow _ rfl _ _ rfl _ _ n rfl rfl rfl rfl hn ?_; intro w1 hr1 hb1 hz1; have HR := hide hr1; clear hr1)
    | (at_builtin; refine wpList_append_bv _ rfl _ _ rfl w.heap.size _ n (List.replicate n false) rfl (HR.out.alloc _) (some ⟨w1.heap.size, 0, none⟩) 1 1 [true] rfl rfl (one_rd _ _) (by simp; omega) (by simp; omega) ?_; intro v' w2 hown hb2))
  go_ret
  exact own_ret hown ((hb1.alloc (by omega) _).trans hb2) ⟨by rw [nv_append, nv_zeros]; simp [nv, nf, bt], by simp⟩
end Go.Proofs.Ytkjiaflmaniplaa

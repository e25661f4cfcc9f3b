/-
  Plain mathematics of package strength: levels, intervals, their combination. Nothing of the program.
-/
namespace Go.Proofs.YtgaihbenlfeeeaaDoor

/-- The nearest level. -/
def clp (a : Int) : Int := max (-7) (min a 7)
def nLo (a b : Int) : Int := min (clp a) (clp b)
def nHi (a b : Int) : Int := max (clp a) (clp b)
/-- The absolute value. -/
def mag (a : Int) : Int := max a (-a)
/-- The bounds of what two levels give. -/
def cLo (a b : Int) : Int := if mag b < mag a then a else if mag a < mag b then b else min a b
def cHi (a b : Int) : Int := if mag b < mag a then a else if mag a < mag b then b else max a b

theorem clp_bd (a : Int) : -7 ≤ clp a ∧ clp a ≤ 7 := by unfold clp; omega
theorem clp_id {a : Int} (h0 : -7 ≤ a) (h1 : a ≤ 7) : clp a = a := by unfold clp; omega
theorem nLo_bd (a b : Int) : -7 ≤ nLo a b ∧ nLo a b ≤ 7 := by unfold nLo clp; omega
theorem nHi_bd (a b : Int) : -7 ≤ nHi a b ∧ nHi a b ≤ 7 := by unfold nHi clp; omega
theorem nLo_le (a b : Int) : nLo a b ≤ nHi a b := by unfold nLo nHi; omega
theorem nLo_id {a b : Int} (h0 : -7 ≤ a) (h : a ≤ b) (h1 : b ≤ 7) : nLo a b = a := by unfold nLo clp; omega
theorem nHi_id {a b : Int} (h0 : -7 ≤ a) (h : a ≤ b) (h1 : b ≤ 7) : nHi a b = b := by unfold nHi clp; omega
theorem cLo_bd {a b : Int} (h0 : -7 ≤ a) (h1 : a ≤ 7) (h2 : -7 ≤ b) (h3 : b ≤ 7) : -7 ≤ cLo a b ∧ cLo a b ≤ 7 := by unfold cLo; (repeat' split) <;> omega
theorem cHi_bd {a b : Int} (h0 : -7 ≤ a) (h1 : a ≤ 7) (h2 : -7 ≤ b) (h3 : b ≤ 7) : -7 ≤ cHi a b ∧ cHi a b ≤ 7 := by unfold cHi; (repeat' split) <;> omega
theorem cLo_le (a b : Int) : cLo a b ≤ cHi a b := by unfold cLo cHi; (repeat' split) <;> omega
theorem cLo_mono {a b c d : Int} (h : a ≤ b) (k : c ≤ d) : cLo a c ≤ cLo b d := by
  unfold cLo mag; (repeat' split) <;> omega
theorem cHi_mono {a b c d : Int} (h : a ≤ b) (k : c ≤ d) : cHi a c ≤ cHi b d := by
  unfold cHi mag; (repeat' split) <;> omega
theorem cLo_comm (a b : Int) : cLo a b = cLo b a := by unfold cLo; (repeat' split) <;> omega
theorem cHi_comm (a b : Int) : cHi a b = cHi b a := by unfold cHi; (repeat' split) <;> omega
theorem cLo_assoc (a b c : Int) : cLo (cLo a b) c = cLo a (cLo b c) := by
  unfold cLo mag; (repeat' split) <;> omega
theorem cHi_assoc (a b c : Int) : cHi (cHi a b) c = cHi a (cHi b c) := by
  unfold cHi mag; (repeat' split) <;> omega
theorem cLo_zero (a : Int) : cLo 0 a = a := by unfold cLo mag; (repeat' split) <;> omega
theorem cHi_zero (a : Int) : cHi 0 a = a := by unfold cHi mag; (repeat' split) <;> omega

/-- The combination of intervals, from c on. -/
def cmbL : List (Int × Int) → Int → Int
  | [], c => c
  | a :: l, c => cmbL l (cLo c (nLo a.1 a.2))
def cmbH : List (Int × Int) → Int → Int
  | [], c => c
  | a :: l, c => cmbH l (cHi c (nHi a.1 a.2))
theorem cmb_bd : ∀ (l : List (Int × Int)) (c d : Int), -7 ≤ c → c ≤ d → d ≤ 7 → -7 ≤ cmbL l c ∧ cmbL l c ≤ cmbH l d ∧ cmbH l d ≤ 7
  | [], c, d, h0, h, h1 => ⟨h0, h, h1⟩
  | a :: l, c, d, h0, h, h1 => by
    have ha := nLo_bd a.1 a.2
    have hb := nHi_bd a.1 a.2
    have hc := nLo_le a.1 a.2
    have h2 := cLo_bd (a := c) (b := nLo a.1 a.2) h0 (by omega) ha.1 ha.2
    have h3 := cHi_bd (a := d) (b := nHi a.1 a.2) (by omega) h1 hb.1 hb.2
    have h4 : cLo c (nLo a.1 a.2) ≤ cLo d (nHi a.1 a.2) := cLo_mono h hc
    have h5 := cLo_le d (nHi a.1 a.2)
    exact cmb_bd l _ _ h2.1 (by omega) h3.2
theorem cmbL_snoc : ∀ (l : List (Int × Int)) (a : Int × Int) (c : Int), cmbL (l ++ [a]) c = cLo (cmbL l c) (nLo a.1 a.2)
  | [], _, _ => rfl
  | _ :: l, a, _ => cmbL_snoc l a _
theorem cmbH_snoc : ∀ (l : List (Int × Int)) (a : Int × Int) (c : Int), cmbH (l ++ [a]) c = cHi (cmbH l c) (nHi a.1 a.2)
  | [], _, _ => rfl
  | _ :: l, a, _ => cmbH_snoc l a _

/-- How an interval is read. -/
def mRead (a b : Int) : Int := if nLo a b = 0 ∧ nHi a b = 0 then 3 else if nHi a b < 0 then 0 else if 0 < nLo a b then 1 else 2
def mHas (a b n : Int) : Bool := decide (nLo a b ≤ n ∧ n ≤ nHi a b)
def mVal (a b : Int) : Bool := decide (a = nLo a b ∧ b = nHi a b)
/-- The level of a strength. -/
def hgh (s : Int) : Int := min s 7
theorem hgh_bd {s : Int} (h : 0 ≤ s) : 0 ≤ hgh s ∧ hgh s ≤ 7 := by unfold hgh; omega
def dLo (b s t : Int) : Int := if b = 0 then - hgh s else if b = 1 then hgh t else if b = 3 then 0 else - hgh s
def dHi (b s t : Int) : Int := if b = 0 then - hgh s else if b = 1 then hgh t else if b = 3 then 0 else hgh t

end Go.Proofs.YtgaihbenlfeeeaaDoor

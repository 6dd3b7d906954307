import PyProof.Rows.All
import Wide.All
import OpenK.AllK
import Wide.FinOn
import HandS.ForMost
import HandS.IsInst
import HandS.Gcd
import HandS.Wide
import HandS.WideBits
import HandS.StrMore
import HandS.TupAny
import HandS.FStr
import HandS.Conv
import HandS.Deep
import HandS.Codes
import HandS.Style
import PyProof.Rows.StrOr
import PySem.Challenge.RW_keeproom_k01_numbers_read_and_written
set_option Elab.async false
set_option linter.all false
set_option maxRecDepth 100000
set_option maxHeartbeats 4000000

namespace My
/-! ### mathematics of fractions -/
abbrev Q2 := Int × Int
def lt2 (x y : Q2) : Prop := x.1 * y.2 < y.1 * x.2
instance (x y : Q2) : Decidable (lt2 x y) := inferInstanceAs (Decidable (_ < _))
def ok2 (x : Q2) : Prop := 0 < x.2 ∧ Nat.gcd x.1.natAbs x.2.natAbs = 1
def bd2 (n : Nat) (x : Q2) : Prop := x.1.natAbs < 2 ^ n ∧ x.2.natAbs < 2 ^ n
theorem lt2_irr (x : Q2) : ¬ lt2 x x := Int.lt_irrefl _
theorem lt2_asymm {x y : Q2} (h : lt2 x y) : ¬ lt2 y x := fun q => by
  unfold lt2 at h q
  omega
theorem lt2_trans {x y z : Q2} (hx : 0 < x.2) (hy : 0 < y.2) (hz : 0 < z.2) (h : lt2 x y) (h' : lt2 y z) : lt2 x z := by
  unfold lt2 at *
  have a : x.1 * y.2 * z.2 < y.1 * x.2 * z.2 := Int.mul_lt_mul_of_pos_right h hz
  have b : y.1 * z.2 * x.2 < z.1 * y.2 * x.2 := Int.mul_lt_mul_of_pos_right h' hx
  have c : x.1 * z.2 * y.2 < z.1 * x.2 * y.2 := by
    have e1 : x.1 * z.2 * y.2 = x.1 * y.2 * z.2 := by grind
    have e2 : y.1 * z.2 * x.2 = y.1 * x.2 * z.2 := by grind
    have e3 : z.1 * y.2 * x.2 = z.1 * x.2 * y.2 := by grind
    omega
  exact Int.lt_of_mul_lt_mul_right c (Int.le_of_lt hy)
theorem eq2 {x y : Q2} (hx : ok2 x) (hy : ok2 y) (h : ¬ lt2 x y) (h' : ¬ lt2 y x) : x = y := by
  unfold lt2 at *
  have e : x.1 * y.2 = y.1 * x.2 := by omega
  obtain ⟨x1, x2⟩ := x
  obtain ⟨y1, y2⟩ := y
  obtain ⟨p, g⟩ := hx
  obtain ⟨p', g'⟩ := hy
  simp only at *
  have en : x1.natAbs * y2.natAbs = y1.natAbs * x2.natAbs := by rw [← Int.natAbs_mul, ← Int.natAbs_mul, e]
  have d1 : x2.natAbs ∣ y2.natAbs := Nat.Coprime.dvd_of_dvd_mul_left (k := x2.natAbs) (m := x1.natAbs) (n := y2.natAbs) (by rw [Nat.Coprime, Nat.gcd_comm]; exact g) ⟨y1.natAbs, by rw [en, Nat.mul_comm]⟩
  have d2 : y2.natAbs ∣ x2.natAbs := Nat.Coprime.dvd_of_dvd_mul_left (k := y2.natAbs) (m := y1.natAbs) (n := x2.natAbs) (by rw [Nat.Coprime, Nat.gcd_comm]; exact g') ⟨x1.natAbs, by rw [← en, Nat.mul_comm]⟩
  have e2 : x2.natAbs = y2.natAbs := Nat.dvd_antisymm d1 d2
  have e3 : x2 = y2 := by omega
  subst e3
  have e4 : x1 = y1 := Int.eq_of_mul_eq_mul_right (by omega) e
  rw [e4]
def red (t b : Int) : Q2 := (t / (Nat.gcd t.natAbs b.natAbs : Nat), b / (Nat.gcd t.natAbs b.natAbs : Nat))
theorem gcd_pos {t b : Int} (hb : 0 < b) : 0 < Nat.gcd t.natAbs b.natAbs := Nat.gcd_pos_of_pos_right _ (by omega)
theorem dvd_i {g : Nat} {t : Int} (h : g ∣ t.natAbs) : (g : Int) ∣ t := Int.ofNat_dvd_left.mpr h
theorem red_mul {t b : Int} : (red t b).1 * (Nat.gcd t.natAbs b.natAbs : Nat) = t ∧ (red t b).2 * (Nat.gcd t.natAbs b.natAbs : Nat) = b :=
  ⟨Int.ediv_mul_cancel (dvd_i (Nat.gcd_dvd_left _ _)), Int.ediv_mul_cancel (dvd_i (Nat.gcd_dvd_right _ _))⟩
theorem red_pos {t b : Int} (hb : 0 < b) : 0 < (red t b).2 := by
  have h := (red_mul (t := t) (b := b)).2
  have g : (0 : Int) < (Nat.gcd t.natAbs b.natAbs : Nat) := by exact_mod_cast gcd_pos hb
  refine Int.lt_of_not_ge fun q => ?_
  have h2 : (red t b).2 * (Nat.gcd t.natAbs b.natAbs : Nat) ≤ 0 := Int.mul_nonpos_of_nonpos_of_nonneg q (Int.le_of_lt g)
  omega
theorem red_ok {t b : Int} (hb : 0 < b) : ok2 (red t b) := by
  refine ⟨red_pos hb, ?_⟩
  have g := gcd_pos (t := t) hb
  have e1 : (red t b).1.natAbs = t.natAbs / Nat.gcd t.natAbs b.natAbs := by
    refine (Nat.div_eq_of_eq_mul_left g ?_).symm
    have h := (red_mul (t := t) (b := b)).1
    have h2 := congrArg Int.natAbs h
    rw [Int.natAbs_mul, Int.natAbs_natCast] at h2
    exact h2.symm
  have e2 : (red t b).2.natAbs = b.natAbs / Nat.gcd t.natAbs b.natAbs := by
    refine (Nat.div_eq_of_eq_mul_left g ?_).symm
    have h := (red_mul (t := t) (b := b)).2
    have h2 := congrArg Int.natAbs h
    rw [Int.natAbs_mul, Int.natAbs_natCast] at h2
    exact h2.symm
  rw [e1, e2]
  exact Nat.coprime_div_gcd_div_gcd g
theorem red_id {t b : Int} (h : Nat.gcd t.natAbs b.natAbs = 1) : red t b = (t, b) := by
  unfold red
  rw [h]
  simp
theorem red_bd {n : Nat} {t b : Int} (hb : 0 < b) (h1 : t.natAbs < 2 ^ n) (h2 : b.natAbs < 2 ^ n) : bd2 n (red t b) := by
  have g := gcd_pos (t := t) hb
  have a1 := congrArg Int.natAbs (red_mul (t := t) (b := b)).1
  have a2 := congrArg Int.natAbs (red_mul (t := t) (b := b)).2
  rw [Int.natAbs_mul, Int.natAbs_natCast] at a1 a2
  exact ⟨Nat.lt_of_le_of_lt (Nat.le_trans (Nat.le_mul_of_pos_right _ g) (Nat.le_of_eq a1)) h1, Nat.lt_of_le_of_lt (Nat.le_trans (Nat.le_mul_of_pos_right _ g) (Nat.le_of_eq a2)) h2⟩
theorem lt2_red_l {t b : Int} {y : Q2} (hb : 0 < b) : lt2 (red t b) y ↔ t * y.2 < y.1 * b := by
  obtain ⟨a1, a2⟩ := red_mul (t := t) (b := b)
  have g : (0 : Int) < (Nat.gcd t.natAbs b.natAbs : Nat) := by exact_mod_cast gcd_pos hb
  generalize hk : ((Nat.gcd t.natAbs b.natAbs : Nat) : Int) = k at *
  generalize red t b = r at *
  unfold lt2
  have e1 : t * y.2 = r.1 * y.2 * k := by rw [← a1]; grind
  have e2 : y.1 * b = y.1 * r.2 * k := by rw [← a2]; grind
  rw [e1, e2]
  exact (Int.mul_lt_mul_right g).symm
theorem lt2_red_r {t b : Int} {y : Q2} (hb : 0 < b) : lt2 y (red t b) ↔ y.1 * b < t * y.2 := by
  obtain ⟨a1, a2⟩ := red_mul (t := t) (b := b)
  have g : (0 : Int) < (Nat.gcd t.natAbs b.natAbs : Nat) := by exact_mod_cast gcd_pos hb
  generalize hk : ((Nat.gcd t.natAbs b.natAbs : Nat) : Int) = k at *
  generalize red t b = r at *
  unfold lt2
  have e1 : t * y.2 = r.1 * y.2 * k := by rw [← a1]; grind
  have e2 : y.1 * b = y.1 * r.2 * k := by rw [← a2]; grind
  rw [e1, e2]
  exact (Int.mul_lt_mul_right g).symm
/-! ### the position among sorted numbers -/
def Srt (xs : List Q2) : Prop := xs.Pairwise lt2 ∧ ∀ x ∈ xs, ok2 x
def rk (x : Q2) (xs : List Q2) : Nat := (xs.filter fun y => decide (lt2 y x)).length
def pos2 (x : Q2) (xs : List Q2) : Nat := if rk x xs < xs.length ∧ ¬ lt2 x (xs.getD (rk x xs) (0, 1)) then 2 * rk x xs + 1 else 2 * rk x xs
theorem rk_le (x : Q2) (xs : List Q2) : rk x xs ≤ xs.length := List.length_filter_le _ _
theorem rk_cut {x : Q2} : ∀ {xs : List Q2} {i : Nat}, i ≤ xs.length → (∀ j (h : j < xs.length), j < i → lt2 xs[j] x) → (∀ j (h : j < xs.length), i ≤ j → ¬ lt2 xs[j] x) → rk x xs = i
  | [], i, h, _, _ => by
    have e : i = 0 := Nat.le_zero.mp h
    subst e
    rfl
  | y :: r, 0, _, _, h2 => by
    have e : ¬ lt2 y x := h2 0 (Nat.zero_lt_succ _) (Nat.le_refl _)
    have ih := rk_cut (x := x) (xs := r) (i := 0) (Nat.zero_le _) (fun j _ q => absurd q (Nat.not_lt_zero _)) fun j hj _ => h2 (j + 1) (Nat.succ_lt_succ hj) (Nat.zero_le _)
    unfold rk at *
    rw [List.filter_cons_of_neg (by simpa using e)]
    exact ih
  | y :: r, i + 1, h, h1, h2 => by
    have e : lt2 y x := h1 0 (Nat.zero_lt_succ _) (Nat.zero_lt_succ _)
    have ih := rk_cut (x := x) (xs := r) (i := i) (Nat.le_of_succ_le_succ h) (fun j hj q => h1 (j + 1) (Nat.succ_lt_succ hj) (Nat.succ_lt_succ q)) fun j hj q => h2 (j + 1) (Nat.succ_lt_succ hj) (Nat.succ_le_succ q)
    unfold rk at *
    rw [List.filter_cons_of_pos (by simpa using e), List.length_cons, ih]
theorem Srt.lt {xs : List Q2} (s : Srt xs) {i j : Nat} (hi : i < xs.length) (hj : j < xs.length) (h : i < j) : lt2 xs[i] xs[j] := List.pairwise_iff_getElem.mp s.1 i j hi hj h
theorem Srt.ok {xs : List Q2} (s : Srt xs) {i : Nat} (hi : i < xs.length) : ok2 xs[i] := s.2 _ (List.getElem_mem hi)
/-- a sorted list falls in two parts -/
theorem Srt.cut {xs : List Q2} (s : Srt xs) {x : Q2} (hx : 0 < x.2) : ∃ i, i ≤ xs.length ∧ (∀ j (h : j < xs.length), j < i → lt2 xs[j] x) ∧ (∀ j (h : j < xs.length), i ≤ j → ¬ lt2 xs[j] x) := by
  induction xs with
  | nil => exact ⟨0, Nat.le_refl _, fun j h => absurd h (Nat.not_lt_zero _), fun j h => absurd h (Nat.not_lt_zero _)⟩
  | cons y r ih =>
    obtain ⟨i, h0, h1, h2⟩ := ih ⟨(List.pairwise_cons.mp s.1).2, fun z hz => s.2 z (List.mem_cons_of_mem _ hz)⟩
    by_cases e : lt2 y x
    · refine ⟨i + 1, Nat.succ_le_succ h0, fun j h q => ?_, fun j h q => ?_⟩
      · cases j with
        | zero => exact e
        | succ j => exact h1 j (Nat.lt_of_succ_lt_succ h) (Nat.lt_of_succ_lt_succ q)
      · cases j with
        | zero => exact absurd q (Nat.not_succ_le_zero _)
        | succ j => exact h2 j (Nat.lt_of_succ_lt_succ h) (Nat.le_of_succ_le_succ q)
    · refine ⟨0, Nat.zero_le _, fun j h q => absurd q (Nat.not_lt_zero _), fun j h _ => ?_⟩
      cases j with
      | zero => exact e
      | succ j =>
        intro q
        have hj : j < r.length := Nat.lt_of_succ_lt_succ h
        have a : lt2 y r[j] := (List.pairwise_cons.mp s.1).1 _ (List.getElem_mem hj)
        exact e (lt2_trans (s.2 y List.mem_cons_self).1 (s.2 _ (List.mem_cons_of_mem _ (List.getElem_mem hj))).1 hx a q)
theorem getD_at {xs : List Q2} {i : Nat} (h : i < xs.length) (d : Q2) : xs.getD i d = xs[i] := by
  rw [List.getD_eq_getElem?_getD, List.getElem?_eq_getElem h]
  rfl
/-- a number of the list stands at an odd position, another one at an even one -/
theorem pos2_in {xs : List Q2} (s : Srt xs) {x : Q2} (hx : ok2 x) : pos2 x xs = 2 * rk x xs + (if x ∈ xs then 1 else 0) := by
  obtain ⟨i, h0, h1, h2⟩ := s.cut hx.1
  have e := rk_cut h0 h1 h2
  unfold pos2
  rw [e]
  by_cases hm : x ∈ xs
  · obtain ⟨j, hj, ej⟩ := List.getElem_of_mem hm
    have a : ¬ j < i := fun q => lt2_irr x (by have := h1 j hj q; rw [ej] at this; exact this)
    have b : ¬ i < j := fun q => h2 i (by omega) (Nat.le_refl _) (by have := s.lt (i := i) (j := j) (by omega) hj q; rw [ej] at this; exact this)
    have e2 : i = j := by omega
    subst e2
    rw [if_pos ⟨hj, by rw [getD_at hj, ej]; exact lt2_irr x⟩, if_pos hm]
  · rw [if_neg hm]
    by_cases hi : i < xs.length
    · have c : lt2 x xs[i] := by
        refine Decidable.byContradiction fun q => hm ?_
        have e3 := eq2 hx (s.ok hi) q (h2 i hi (Nat.le_refl _))
        rw [e3]
        exact List.getElem_mem hi
      rw [if_neg (by rw [getD_at hi]; exact fun q => q.2 c)]
      rfl
    · rw [if_neg (fun q => hi q.1)]
      rfl
theorem pos2_odd {xs : List Q2} (s : Srt xs) {i : Nat} (hi : i < xs.length) : pos2 xs[i] xs = 2 * i + 1 := by
  have e : rk xs[i] xs = i := rk_cut (Nat.le_of_lt hi) (fun j h q => s.lt h hi q) fun j h q => by
    by_cases e : i = j
    · subst e
      exact lt2_irr _
    · exact lt2_asymm (s.lt hi h (by omega))
  unfold pos2
  rw [e, if_pos ⟨hi, by rw [getD_at hi]; exact lt2_irr _⟩]
theorem pos2_even {xs : List Q2} (s : Srt xs) {x : Q2} (hx : 0 < x.2) {i : Nat} (hi : i ≤ xs.length) (h1 : ∀ (h : i - 1 < xs.length), 0 < i → lt2 xs[i - 1] x) (h2 : ∀ (h : i < xs.length), lt2 x xs[i]) : pos2 x xs = 2 * i := by
  have e : rk x xs = i := rk_cut hi (fun j h q => by
    have hl : i - 1 < xs.length := by omega
    have a := h1 hl (by omega)
    by_cases e : j = i - 1
    · subst e
      exact a
    · exact lt2_trans (s.ok h).1 (s.ok hl).1 hx (s.lt h hl (by omega)) a) fun j h q => by
    have hl : i < xs.length := by omega
    have a := h2 hl
    by_cases e : i = j
    · subst e
      exact lt2_asymm a
    · exact lt2_asymm (lt2_trans hx (s.ok hl).1 (s.ok h).1 a (s.lt hl h (by omega)))
  unfold pos2
  rw [e]
  by_cases hl : i < xs.length
  · rw [if_neg (by rw [getD_at hl]; exact fun q => q.2 (h2 hl))]
  · rw [if_neg (fun q => hl q.1)]
/-! ### the number for a position -/
def mid2 (a b : Q2) : Q2 := red (a.1 * b.2 + b.1 * a.2) (2 * a.2 * b.2)
def num2 (k : Nat) (xs : List Q2) : Q2 :=
  if k % 2 = 1 then xs.getD (k / 2) (0, 1) else if xs.length = 0 then (0, 1) else if k / 2 = 0 then ((xs.getD 0 (0, 1)).1 - (xs.getD 0 (0, 1)).2, (xs.getD 0 (0, 1)).2)
  else if k / 2 = xs.length then ((xs.getD (xs.length - 1) (0, 1)).1 + (xs.getD (xs.length - 1) (0, 1)).2, (xs.getD (xs.length - 1) (0, 1)).2) else mid2 (xs.getD (k / 2 - 1) (0, 1)) (xs.getD (k / 2) (0, 1))
theorem mid2_pos {a b : Q2} (ha : 0 < a.2) (hb : 0 < b.2) : 0 < 2 * a.2 * b.2 := Int.mul_pos (by omega) hb
theorem mid2_lt {a b : Q2} (ha : 0 < a.2) (hb : 0 < b.2) (h : lt2 a b) : lt2 a (mid2 a b) ∧ lt2 (mid2 a b) b := by
  have p := mid2_pos ha hb
  unfold lt2 at h
  refine ⟨(lt2_red_r p).mpr ?_, (lt2_red_l p).mpr ?_⟩
  · have m : a.1 * b.2 * a.2 < b.1 * a.2 * a.2 := Int.mul_lt_mul_of_pos_right h ha
    have e1 : a.1 * (2 * a.2 * b.2) = a.1 * b.2 * a.2 + a.1 * b.2 * a.2 := by grind
    have e2 : (a.1 * b.2 + b.1 * a.2) * a.2 = a.1 * b.2 * a.2 + b.1 * a.2 * a.2 := by grind
    omega
  · have m : a.1 * b.2 * b.2 < b.1 * a.2 * b.2 := Int.mul_lt_mul_of_pos_right h hb
    have e1 : b.1 * (2 * a.2 * b.2) = b.1 * a.2 * b.2 + b.1 * a.2 * b.2 := by grind
    have e2 : (a.1 * b.2 + b.1 * a.2) * b.2 = a.1 * b.2 * b.2 + b.1 * a.2 * b.2 := by grind
    omega
theorem sub_lt {a : Q2} (ha : 0 < a.2) : lt2 (a.1 - a.2, a.2) a := by
  unfold lt2
  have m : 0 < a.2 * a.2 := Int.mul_pos ha ha
  show (a.1 - a.2) * a.2 < a.1 * a.2
  rw [Int.sub_mul]
  omega
theorem add_lt {a : Q2} (ha : 0 < a.2) : lt2 a (a.1 + a.2, a.2) := by
  unfold lt2
  have m : 0 < a.2 * a.2 := Int.mul_pos ha ha
  show a.1 * a.2 < (a.1 + a.2) * a.2
  rw [Int.add_mul]
  omega
theorem sub_ok {a : Q2} (h : ok2 a) : ok2 (a.1 - a.2, a.2) := ⟨h.1, by
  have e : Int.gcd (a.1 - a.2) a.2 = Int.gcd a.1 a.2 := Int.gcd_sub_self_left _ _
  exact e.trans h.2⟩
theorem add_ok {a : Q2} (h : ok2 a) : ok2 (a.1 + a.2, a.2) := ⟨h.1, by
  have e : Int.gcd (a.1 + a.2) a.2 = Int.gcd a.1 a.2 := Int.gcd_add_self_left _ _
  exact e.trans h.2⟩
theorem num2_pos {xs : List Q2} (s : Srt xs) {k : Nat} (hk : k ≤ 2 * xs.length) : pos2 (num2 k xs) xs = k := by
  unfold num2
  by_cases h1 : k % 2 = 1
  · have hi : k / 2 < xs.length := by omega
    rw [if_pos h1, getD_at hi, pos2_odd s hi]
    omega
  rw [if_neg h1]
  have ek : 2 * (k / 2) = k := by omega
  by_cases h2 : xs.length = 0
  · rw [if_pos h2]
    have e := pos2_even s (x := (0, 1)) (by decide) (i := 0) (Nat.zero_le _) (fun _ q => absurd q (Nat.lt_irrefl _)) fun h => by omega
    omega
  rw [if_neg h2]
  by_cases h3 : k / 2 = 0
  · rw [if_pos h3]
    have h0 : 0 < xs.length := by omega
    rw [getD_at h0]
    have e := pos2_even s (x := (xs[0].1 - xs[0].2, xs[0].2)) (s.ok h0).1 (i := 0) (Nat.zero_le _) (fun _ q => absurd q (Nat.lt_irrefl _)) fun h => sub_lt (s.ok h0).1
    omega
  rw [if_neg h3]
  by_cases h4 : k / 2 = xs.length
  · rw [if_pos h4]
    have h0 : xs.length - 1 < xs.length := by omega
    rw [getD_at h0]
    have e := pos2_even s (x := (xs[xs.length - 1].1 + xs[xs.length - 1].2, xs[xs.length - 1].2)) (s.ok h0).1 (i := xs.length) (Nat.le_refl _) (fun _ _ => add_lt (s.ok h0).1) fun h => by omega
    omega
  rw [if_neg h4]
  have ha : k / 2 - 1 < xs.length := by omega
  have hb : k / 2 < xs.length := by omega
  rw [getD_at ha, getD_at hb]
  have m := mid2_lt (s.ok ha).1 (s.ok hb).1 (s.lt ha hb (by omega))
  have e := pos2_even s (x := mid2 xs[k / 2 - 1] xs[k / 2]) (red_pos (mid2_pos (s.ok ha).1 (s.ok hb).1)) (i := k / 2) (Nat.le_of_lt hb) (fun _ _ => m.1) fun h => m.2
  omega
/-! ### a number put in -/
def with2 (xs : List Q2) (x : Q2) : List Q2 := (xs.filter fun y => decide (lt2 y x)) ++ [x] ++ (xs.filter fun y => decide (lt2 x y))
theorem with2_srt {xs : List Q2} (s : Srt xs) {x : Q2} (hx : ok2 x) : Srt (with2 xs x) := by
  refine ⟨?_, fun y hy => ?_⟩
  · unfold with2
    rw [List.append_assoc]
    refine List.pairwise_append.mpr ⟨s.1.filter _, ?_, fun a ha b hb => ?_⟩
    · refine List.pairwise_append.mpr ⟨List.pairwise_singleton _ _, s.1.filter _, fun a ha b hb => ?_⟩
      rw [List.mem_singleton.mp ha]
      exact of_decide_eq_true (List.mem_filter.mp hb).2
    · have la : lt2 a x := of_decide_eq_true (List.mem_filter.mp ha).2
      rcases List.mem_append.mp hb with hb | hb
      · rw [List.mem_singleton.mp hb]
        exact la
      · exact lt2_trans (s.2 _ (List.mem_filter.mp ha).1).1 hx.1 (s.2 _ (List.mem_filter.mp hb).1).1 la (of_decide_eq_true (List.mem_filter.mp hb).2)
  · unfold with2 at hy
    rcases List.mem_append.mp hy with hy | hy
    · rcases List.mem_append.mp hy with hy | hy
      · exact s.2 _ (List.mem_filter.mp hy).1
      · rw [List.mem_singleton.mp hy]
        exact hx
    · exact s.2 _ (List.mem_filter.mp hy).1
theorem with2_mem {xs : List Q2} {x y : Q2} (hy : y ∈ with2 xs x) : y = x ∨ y ∈ xs := by
  unfold with2 at hy
  rcases List.mem_append.mp hy with hy | hy
  · rcases List.mem_append.mp hy with hy | hy
    · exact .inr (List.mem_filter.mp hy).1
    · exact .inl (List.mem_singleton.mp hy)
  · exact .inr (List.mem_filter.mp hy).1
theorem filter2_le {α : Type} (p q : α → Bool) (h : ∀ a, p a = true → q a = true → False) : ∀ xs : List α, (xs.filter p).length + (xs.filter q).length ≤ xs.length
  | [] => Nat.le_refl _
  | a :: r => by
    have ih := filter2_le p q h r
    rw [List.filter_cons, List.filter_cons]
    have z := h a
    cases hp : p a <;> cases hq : q a <;> simp_all <;> omega
theorem with2_len (xs : List Q2) (x : Q2) : (with2 xs x).length ≤ xs.length + 1 := by
  have h := filter2_le (fun y => decide (lt2 y x)) (fun y => decide (lt2 x y)) (fun a h1 h2 => lt2_asymm (of_decide_eq_true h1) (of_decide_eq_true h2)) xs
  unfold with2
  rw [List.length_append, List.length_append]
  simp only [List.length_singleton]
  omega
/-! ### Euclid -/
/-- left turns suffice -/
def Euc (a b r : Nat) : Prop := ∃ m, (b < 2 ^ m ∧ 2 * m + 1 ≤ r) ∨ (b < a ∧ a < 2 ^ m ∧ 2 * m ≤ r)
theorem Euc.pos {a b r : Nat} (h : Euc a b r) : 0 < r ∨ False := by
  obtain ⟨m, h | h⟩ := h
  · exact .inl (by omega)
  · cases m with
    | zero => omega
    | succ m => exact .inl (by omega)
theorem Euc.next {a b r : Nat} (h : Euc a b (r + 1)) (hb : b ≠ 0) : Euc b (a % b) r := by
  have hm := Nat.mod_lt a (Nat.pos_of_ne_zero hb)
  obtain ⟨m, h | h⟩ := h
  · exact ⟨m, .inr ⟨hm, h.1, by omega⟩⟩
  · cases m with
    | zero => omega
    | succ m =>
      refine ⟨m, .inl ⟨?_, by omega⟩⟩
      have e := Nat.div_add_mod a b
      have q : 1 ≤ a / b := Nat.div_pos (by omega) (Nat.pos_of_ne_zero hb)
      have q2 : b ≤ b * (a / b) := Nat.le_mul_of_pos_right _ q
      have p : 2 ^ (m + 1) = 2 * 2 ^ m := by rw [Nat.pow_succ, Nat.mul_comm]
      omega
theorem Euc.start {a b k r : Nat} (h : b < 2 ^ k) (hr : 2 * k + 1 ≤ r) : Euc a b r := ⟨k, .inl ⟨h, hr⟩⟩
end My

namespace My
open PySem PySem.Spec PyProof.Rows L2 NumText TL
/-! ### texts as lists of codes -/
theorem tl_len (x : Str) : (tl x).length = x.length := (len_tl x).symm
theorem starts_pre {x y : Str} (hy : tl y ≠ []) : Txt.startswith x y = pre (tl y) (tl x) := by
  have h := at_iff (x := x) hy 0
  rw [List.drop_zero] at h
  have e : Txt.startswith x y = true ↔ PySem.StrLaws.At x y x.length 0 := by
    unfold Txt.startswith PySem.StrLaws.At
    simp
  cases hp : pre (tl y) (tl x) with
  | true => exact e.mpr (h.mpr hp)
  | false =>
    cases hs : Txt.startswith x y with
    | false => rfl
    | true => rw [h.mp (e.mp hs)] at hp; cases hp
theorem pre_one (c : Nat) (l : List Nat) : pre [c] l = decide (l.head? = some c) := by
  cases l with
  | nil => rfl
  | cons d r =>
    unfold pre
    by_cases h : d = c
    · subst h; simp
    · simp [h]
def dig (c : Nat) : Bool := decide (48 ≤ c) && decide (c ≤ 57)
theorem dec_ascii : ∀ c : Nat, c < 128 → PySem.Unicode.isDecimal c = dig c := by decide +kernel
theorem asc_dec (x : Str) : (Txt.isascii x && Txt.isdecimal x) = (!(tl x).isEmpty && (tl x).all dig) := by
  have ea : Txt.isascii x = (tl x).all fun c => decide (c < 128) := by
    unfold Txt.isascii tl
    rw [Array.all_toList]
  have ed : Txt.isdecimal x = (!(tl x).isEmpty && (tl x).all PySem.Unicode.isDecimal) := by
    unfold Txt.isdecimal
    have e1 : decide (x.length > 0) = !(tl x).isEmpty := by
      rw [← tl_len]
      cases tl x <;> rfl
    rw [e1]
    unfold tl
    rw [Array.all_toList]
  rw [ea, ed]
  generalize tl x = l
  have key : ((l.all fun c => decide (c < 128)) && l.all PySem.Unicode.isDecimal) = l.all dig := by
    induction l with
    | nil => rfl
    | cons c r ih =>
      rw [List.all_cons, List.all_cons, List.all_cons, ← ih]
      by_cases h : c < 128
      · rw [decide_eq_true h, dec_ascii c h]
        cases dig c <;> simp
      · have hd : dig c = false := by unfold dig; rw [decide_eq_false (show ¬ c ≤ 57 by omega), Bool.and_false]
        rw [decide_eq_false h, hd]
        simp
  rw [← key]
  cases (l.all fun c => decide (c < 128)) <;> cases l.isEmpty <;> simp
theorem all_dig {l : List Nat} : l.all dig = true ↔ AllDigits l := by
  unfold AllDigits dig
  rw [List.all_eq_true]
  simp
def canon (l : List Nat) : Bool := !l.isEmpty && l.all dig && !(decide (l.head? = some 48) && !decide (l = [48]))
def natOf (l : List Nat) : Option Nat := if canon l = true then some (digitsVal l) else none
def intOf (l : List Nat) : Option Int := match l with
  | 45 :: r => (match natOf r with | some 0 => none | some n => some (-(n : Int)) | none => none)
  | _ => (natOf l).map Int.ofNat
/-- a text's pair -/
def ratOf (l : List Nat) : Option Q2 :=
  match intOf (l.takeWhile (· ≠ 47)) with
  | none => none
  | some t => match l.dropWhile (· ≠ 47) with
    | [] => some (t, 1)
    | _ :: b => match natOf b with
      | none => none
      | some d => if d < 2 ∨ Nat.gcd t.natAbs d ≠ 1 then none else some (t, (d : Int))
theorem natOf_some {l : List Nat} {n : Nat} (h : natOf l = some n) : AllDigits l ∧ l ≠ [] ∧ n = digitsVal l := by
  unfold natOf at h
  split at h
  · rename_i c
    unfold canon at c
    rw [Bool.and_eq_true, Bool.and_eq_true] at c
    refine ⟨all_dig.mp c.1.2, ?_, (Option.some.inj h).symm⟩
    intro e
    rw [e] at c
    simp at c
  · cases h
/-! ### values of digits -/
theorem dv_from : ∀ (l : List Nat) (a : Nat), l.foldl (fun acc c => acc * 10 + (c - 48)) a = a * 10 ^ l.length + digitsVal l
  | [], a => by simp [digitsVal]
  | c :: r, a => by
    have h1 := dv_from r (a * 10 + (c - 48))
    have h2 := dv_from r (0 * 10 + (c - 48))
    unfold digitsVal
    rw [List.foldl_cons, List.foldl_cons, h1, h2, List.length_cons, Nat.pow_succ]
    grind
theorem dv_app (a b : List Nat) : digitsVal (a ++ b) = digitsVal a * 10 ^ b.length + digitsVal b := by
  have h : digitsVal (a ++ b) = b.foldl (fun acc c => acc * 10 + (c - 48)) (digitsVal a) := by
    unfold digitsVal
    rw [List.foldl_append]
  rw [h, dv_from]
theorem dv_zero (l : List Nat) : digitsVal (48 :: l) = digitsVal l := by
  unfold digitsVal
  rw [List.foldl_cons]
theorem dv_lt : ∀ {l : List Nat}, AllDigits l → digitsVal l < 10 ^ l.length := by
  intro l
  induction l with
  | nil => intro _; decide
  | cons c r ih =>
    intro h
    have hc := h.head
    have := ih h.tail
    have e := dv_app [c] r
    have e1 : digitsVal [c] = c - 48 := by simp [digitsVal]
    rw [e1] at e
    have e2 : digitsVal (c :: r) = (c - 48) * 10 ^ r.length + digitsVal r := e
    rw [e2, List.length_cons, Nat.pow_succ]
    have m : (c - 48) * 10 ^ r.length ≤ 9 * 10 ^ r.length := Nat.mul_le_mul_right _ (by omega)
    omega
/-! ### digits of numbers -/
theorem numL_head {n : Nat} (h : 1 ≤ n) : (numL n).head? ≠ some 48 := by
  induction n using Nat.strongRecOn with
  | _ n ih =>
    by_cases h10 : n < 10
    · rw [numL_lt h10]
      simp
      omega
    · rw [numL_step (by omega), List.head?_append]
      have i := ih (n / 10) (by omega) (by omega)
      cases e : (numL (n / 10)).head? with
      | none => exact absurd (List.head?_eq_none_iff.mp e) (numL_ne _)
      | some c =>
        rw [e] at i
        exact i
theorem numL_zero : numL 0 = [48] := numL_lt (by decide)
theorem canon_num (n : Nat) : canon (numL n) = true := by
  unfold canon
  have h1 : (numL n).isEmpty = false := by
    cases e : numL n with
    | nil => exact absurd e (numL_ne n)
    | cons _ _ => rfl
  rw [h1, all_dig.mpr (numL_digits n)]
  by_cases h : n = 0
  · subst h
    rw [numL_zero]
    rfl
  · rw [decide_eq_false (numL_head (by omega))]
    rfl
theorem natOf_num (n : Nat) : natOf (numL n) = some n := by
  unfold natOf
  rw [if_pos (canon_num n), numL_val]
def intL (t : Int) : List Nat := if t < 0 then 45 :: numL t.natAbs else numL t.natAbs
theorem numL_no {n c : Nat} (h : c < 48 ∨ 57 < c) : c ∉ numL n := numL_free h
theorem intOf_num (t : Int) : intOf (intL t) = some t := by
  unfold intL
  split
  · rename_i h
    show (match natOf (numL t.natAbs) with | some 0 => none | some n => some (-(n : Int)) | none => none) = _
    rw [natOf_num]
    have h0 : t.natAbs ≠ 0 := by omega
    cases e : t.natAbs with
    | zero => exact absurd e h0
    | succ k =>
      show some (-((k + 1 : Nat) : Int)) = some t
      congr 1
      omega
  · rename_i h
    have e : intOf (numL t.natAbs) = (natOf (numL t.natAbs)).map Int.ofNat := by
      cases e : numL t.natAbs with
      | nil => rfl
      | cons c r =>
        unfold intOf
        split
        · rename_i r' e'
          injection e' with e1 e2
          have hm : c ∈ numL t.natAbs := by rw [e]; exact List.mem_cons_self
          exact absurd hm (numL_no (by omega))
        · rfl
    rw [e, natOf_num]
    show some ((t.natAbs : Nat) : Int) = some t
    congr 1
    omega
def ratL (x : Q2) : List Nat := intL x.1 ++ (if x.2 = 1 then [] else 47 :: numL x.2.natAbs)
theorem intL_no47 (t : Int) : ∀ c ∈ intL t, c ≠ 47 := by
  intro c hc e
  subst e
  unfold intL at hc
  split at hc
  · rcases List.mem_cons.mp hc with e | hc
    · cases e
    · exact absurd hc (numL_no (by omega))
  · exact absurd hc (numL_no (by omega))
theorem tw_app {l r : List Nat} (h : ∀ c ∈ l, c ≠ 47) : (l ++ 47 :: r).takeWhile (· ≠ 47) = l ∧ (l ++ 47 :: r).dropWhile (· ≠ 47) = 47 :: r := by
  induction l with
  | nil => simp
  | cons c l ih =>
    have hc := h c List.mem_cons_self
    obtain ⟨h1, h2⟩ := ih fun d hd => h d (List.mem_cons_of_mem _ hd)
    rw [List.cons_append, List.takeWhile_cons_of_pos (by simpa using hc), List.dropWhile_cons_of_pos (by simpa using hc), h1, h2]
    exact ⟨rfl, rfl⟩
theorem tw_all {l : List Nat} (h : ∀ c ∈ l, c ≠ 47) : l.takeWhile (· ≠ 47) = l ∧ l.dropWhile (· ≠ 47) = [] := by
  induction l with
  | nil => simp
  | cons c l ih =>
    have hc := h c List.mem_cons_self
    obtain ⟨h1, h2⟩ := ih fun d hd => h d (List.mem_cons_of_mem _ hd)
    rw [List.takeWhile_cons_of_pos (by simpa using hc), List.dropWhile_cons_of_pos (by simpa using hc), h1, h2]
    exact ⟨rfl, rfl⟩
theorem ratOf_text {x : Q2} (h : ok2 x) : ratOf (ratL x) = some x := by
  obtain ⟨t, b⟩ := x
  obtain ⟨h1, h2⟩ := h
  simp only at h1 h2
  unfold ratL ratOf
  simp only
  by_cases hb : b = 1
  · subst hb
    obtain ⟨e1, e2⟩ := tw_all (intL_no47 t)
    rw [if_pos rfl, List.append_nil, e1, e2, intOf_num]
  · obtain ⟨e1, e2⟩ := tw_app (r := numL b.natAbs) (intL_no47 t)
    rw [if_neg hb, e1, e2, intOf_num]
    simp only
    rw [natOf_num]
    simp only
    rw [if_neg (by rw [h2]; omega)]
    congr 2
    omega
/-! ### the law's own reading -/
/-- pieces between slashes -/
def cut47 : List Nat → List (List Nat) := spl [47] 0 []
theorem cut47_none {l : List Nat} (h : ∀ c ∈ l, c ≠ 47) : cut47 l = [l] := spl_last1 (S := []) fun hm => h 47 hm rfl
theorem cut47_one {a r : List Nat} (h : ∀ c ∈ a, c ≠ 47) : cut47 (a ++ 47 :: r) = a :: cut47 r := spl_part1 (S := []) (p := a) (rest := r) (acc := []) fun hm => h 47 hm rfl
theorem split47 (l : List Nat) : (∀ c ∈ l, c ≠ 47) ∨ ∃ a r, l = a ++ 47 :: r ∧ ∀ c ∈ a, c ≠ 47 := by
  induction l with
  | nil => exact .inl fun _ h => by cases h
  | cons c l ih =>
    by_cases hc : c = 47
    · subst hc
      exact .inr ⟨[], l, rfl, fun _ h => by cases h⟩
    · rcases ih with h | ⟨a, r, rfl, h⟩
      · exact .inl fun d hd => by
          rcases List.mem_cons.mp hd with e | hd
          · rw [e]; exact hc
          · exact h d hd
      · exact .inr ⟨c :: a, r, rfl, fun d hd => by
          rcases List.mem_cons.mp hd with e | hd
          · rw [e]; exact hc
          · exact h d hd⟩
/-- what the law makes of the body, sg telling a minus ahead -/
def lawOf (sg : Bool) (l : List Nat) : Option Q2 :=
  match natOf ((cut47 l).headD []) with
  | none => none
  | some t =>
    if 2 < (cut47 l).length ∨ (sg = true ∧ t = 0) then none
    else if (cut47 l).length = 1 then some (if sg = true then -(t : Int) else t, 1)
    else match natOf ((cut47 l).getD 1 []) with
      | none => none
      | some d => if d < 2 ∨ Nat.gcd t d ≠ 1 then none else some (if sg = true then -(t : Int) else t, (d : Int))
theorem natOf_no47 {l : List Nat} (h : 47 ∈ l) : natOf l = none := by
  cases e : natOf l with
  | none => rfl
  | some n =>
    have := (natOf_some e).1 47 h
    omega
theorem cut47_len (l : List Nat) : 1 ≤ (cut47 l).length := by
  rcases split47 l with h | ⟨a, r, rfl, h⟩
  · rw [cut47_none h]; exact Nat.le_refl _
  · rw [cut47_one h]; exact Nat.succ_le_succ (Nat.zero_le _)
theorem natOf_noMinus (l : List Nat) : natOf (45 :: l) = none := by
  cases e : natOf (45 :: l) with
  | none => rfl
  | some n =>
    have := (natOf_some e).1 45 List.mem_cons_self
    omega
theorem intOf_plain {l : List Nat} (h : l.head? ≠ some 45) : intOf l = (natOf l).map Int.ofNat := by
  cases l with
  | nil => rfl
  | cons c r =>
    unfold intOf
    split
    · rename_i e
      injection e with e1 e2
      subst e1
      exact absurd rfl h
    · rfl
theorem law_same (l : List Nat) : ratOf l = (if l.head? = some 45 then lawOf true l.tail else lawOf false l) := by
  by_cases hm : l.head? = some 45
  · rw [if_pos hm]
    cases l with
    | nil => cases hm
    | cons c l =>
      have ec : c = 45 := Option.some.inj hm
      subst ec
      show ratOf (45 :: l) = lawOf true l
      have e0 : (45 :: l).takeWhile (· ≠ 47) = 45 :: l.takeWhile (· ≠ 47) := by simp
      have e1 : (45 :: l).dropWhile (· ≠ 47) = l.dropWhile (· ≠ 47) := by simp
      unfold ratOf lawOf
      rw [e0, e1]
      have ei : intOf (45 :: l.takeWhile (· ≠ 47)) = (match natOf (l.takeWhile (· ≠ 47)) with | some 0 => none | some n => some (-(n : Int)) | none => none) := rfl
      rw [ei]
      rcases split47 l with h | ⟨a, r, rfl, h⟩
      · obtain ⟨t1, t2⟩ := tw_all h
        rw [t1, t2, cut47_none h]
        simp only [List.headD_cons, List.length_singleton]
        cases natOf l with
        | none => rfl
        | some n =>
          cases n with
          | zero => rfl
          | succ n => simp
      · obtain ⟨t1, t2⟩ := tw_app (r := r) h
        rw [t1, t2, cut47_one h]
        have hr := cut47_len r
        simp only [List.headD_cons, List.length_cons, List.getD_cons_succ, List.getD_cons_zero]
        cases natOf a with
        | none => rfl
        | some n =>
          cases n with
          | zero => simp
          | succ n =>
            simp only
            rcases split47 r with h' | ⟨a', r', rfl, h'⟩
            · rw [cut47_none h']
              simp only [List.length_singleton, List.getD_cons_zero]
              cases natOf r with
              | none => simp
              | some d =>
                have en : (-((n + 1 : Nat) : Int)).natAbs = n + 1 := by omega
                simp only [en]
                simp
            · rw [natOf_no47 (l := a' ++ 47 :: r') (by simp), cut47_one h']
              have := cut47_len r'
              simp only [List.length_cons]
              rw [if_pos (by left; omega)]
  · rw [if_neg hm]
    have hh : (l.takeWhile (· ≠ 47)).head? ≠ some 45 := by
      cases l with
      | nil => simp
      | cons c l =>
        simp only [List.takeWhile_cons]
        split
        · exact hm
        · simp
    unfold ratOf lawOf
    rw [intOf_plain hh]
    rcases split47 l with h | ⟨a, r, rfl, h⟩
    · obtain ⟨t1, t2⟩ := tw_all h
      rw [t1, t2, cut47_none h]
      simp only [List.headD_cons, List.length_singleton]
      cases natOf l with
      | none => rfl
      | some n => simp
    · obtain ⟨t1, t2⟩ := tw_app (r := r) h
      rw [t1, t2, cut47_one h]
      have hr := cut47_len r
      simp only [List.headD_cons, List.length_cons, List.getD_cons_succ, List.getD_cons_zero]
      cases natOf a with
      | none => rfl
      | some n =>
        simp only [Option.map_some, Int.ofNat_eq_natCast]
        rcases split47 r with h' | ⟨a', r', rfl, h'⟩
        · rw [cut47_none h']
          simp only [List.length_singleton, List.getD_cons_zero]
          cases natOf r with
          | none => simp
          | some d => simp
        · rw [natOf_no47 (l := a' ++ 47 :: r') (by simp), cut47_one h']
          have := cut47_len r'
          simp only [List.length_cons]
          rw [if_pos (by left; omega)]
/-! ### digits in groups -/
/-- k digits of r -/
def dg : Nat → Nat → List Nat
  | 0, _ => []
  | k + 1, r => dg k (r / 10) ++ [48 + r % 10]
theorem numL_grp : ∀ (k q r : Nat), 1 ≤ q → r < 10 ^ k → numL (q * 10 ^ k + r) = numL q ++ dg k r
  | 0, q, r, hq, hr => by
    have e : r = 0 := by simpa using hr
    subst e
    simp [dg]
  | k + 1, q, r, hq, hr => by
    have p : 10 ^ (k + 1) = 10 * 10 ^ k := by rw [Nat.pow_succ, Nat.mul_comm]
    have e1 : (q * 10 ^ (k + 1) + r) / 10 = q * 10 ^ k + r / 10 := by
      rw [p, show q * (10 * 10 ^ k) + r = 10 * (q * 10 ^ k) + r by grind]
      omega
    have e2 : (q * 10 ^ (k + 1) + r) % 10 = r % 10 := by
      rw [p, show q * (10 * 10 ^ k) + r = 10 * (q * 10 ^ k) + r by grind]
      omega
    have m : 1 ≤ 10 ^ k := Nat.pos_of_ne_zero (by simp)
    have m2 : 1 * 1 ≤ q * 10 ^ k := Nat.mul_le_mul hq m
    have h10 : 10 ≤ q * 10 ^ (k + 1) + r := by
      rw [p, show q * (10 * 10 ^ k) = 10 * (q * 10 ^ k) by grind]
      omega
    rw [numL_step h10, e1, e2, numL_grp k q (r / 10) hq (by omega), List.append_assoc]
    rfl
theorem dg_zero : ∀ k, dg k 0 = List.replicate k 48
  | 0 => rfl
  | k + 1 => by
    show dg k 0 ++ [48] = _
    rw [dg_zero k, ← List.replicate_succ']
theorem dg_pad : ∀ (k r : Nat), 1 ≤ k → r < 10 ^ k → dg k r = List.replicate (k - (numL r).length) 48 ++ numL r
  | 0, _, h, _ => by omega
  | k + 1, r, _, hr => by
    show dg k (r / 10) ++ [48 + r % 10] = _
    have p : 10 ^ (k + 1) = 10 * 10 ^ k := by rw [Nat.pow_succ, Nat.mul_comm]
    by_cases h : r < 10
    · have e1 : r / 10 = 0 := by omega
      have e2 : r % 10 = r := by omega
      rw [e1, e2, dg_zero, numL_lt h]
      rfl
    · have hk : 1 ≤ k := by
        cases k with
        | zero => simp at hr; omega
        | succ k => omega
      rw [dg_pad k (r / 10) hk (by omega), numL_step (n := r) (by omega), List.append_assoc, List.length_append]
      congr 2
      simp only [List.length_singleton]
      omega
theorem numL_le {n k : Nat} (hk : 0 < k) (h : n < 10 ^ k) : (numL n).length ≤ k := numL_len hk h
end My

namespace My
open PySem PySem.Spec PyProof.Rows L2
/-! ### the text -/
def topS (i : Nat) : Stmt := PySem.Challenge.pw_keeproom_k01_numbers_read_and_written.main.body.getD i (.Pass ⟨0, 0, 0, 0⟩)
abbrev s_law_common : Stmt := topS 12
theorem sc_law_common : FnScope ["one", "other", "k", "rest"] ["one", "other"] (defScope s_law_common) := ⟨rfl, rfl, rfl, by decide +kernel, rfl, by decide +kernel, by decide +kernel⟩
abbrev s_law_pair : Stmt := topS 13
theorem sc_law_pair : FnScope ["top", "bottom", "common"] ["top", "bottom"] (defScope s_law_pair) := ⟨rfl, rfl, rfl, by decide +kernel, rfl, by decide +kernel, by decide +kernel⟩
abbrev s_law_text : Stmt := topS 18
theorem sc_law_text : FnScope ["pair"] ["pair"] (defScope s_law_text) := ⟨rfl, rfl, rfl, by decide +kernel, rfl, by decide +kernel, by decide +kernel⟩
abbrev s_write_natural : Stmt := topS 6
theorem sc_write_natural : FnScope ["value", "pieces", "piece"] ["value"] (defScope s_write_natural) := ⟨rfl, rfl, rfl, by decide +kernel, rfl, by decide +kernel, by decide +kernel⟩
abbrev s_write_number : Stmt := topS 3
theorem sc_write_number : FnScope ["pair", "top", "bottom", "text"] ["pair"] (defScope s_write_number) := ⟨rfl, rfl, rfl, by decide +kernel, rfl, by decide +kernel, by decide +kernel⟩
abbrev s_law_tape : Stmt := topS 8
theorem sc_law_tape : FnScope ["script", "tape", "cell", "number", "k", "first"] ["script"] (defScope s_law_tape) := ⟨rfl, rfl, rfl, by decide +kernel, rfl, by decide +kernel, by decide +kernel⟩
abbrev s_law_draw : Stmt := topS 9
theorem sc_law_draw : FnScope ["tape", "at", "many", "number"] ["tape", "at", "many"] (defScope s_law_draw) := ⟨rfl, rfl, rfl, by decide +kernel, rfl, by decide +kernel, by decide +kernel⟩
abbrev s_law_take : Stmt := topS 11
theorem sc_law_take : FnScope ["state", "many"] ["state", "many"] (defScope s_law_take) := ⟨rfl, rfl, rfl, by decide +kernel, rfl, by decide +kernel, by decide +kernel⟩
abbrev s_law_long : Stmt := topS 14
theorem sc_law_long : FnScope ["state", "groups", "number", "k"] ["state", "groups"] (defScope s_law_long) := ⟨rfl, rfl, rfl, by decide +kernel, rfl, by decide +kernel, by decide +kernel⟩
abbrev s_law_changed : Stmt := topS 17
theorem sc_law_changed : FnScope ["state", "text", "pair", "way", "times", "at", "char"] ["state", "text", "pair"] (defScope s_law_changed) := ⟨rfl, rfl, rfl, by decide +kernel, rfl, by decide +kernel, by decide +kernel⟩
abbrev s_law_equal : Stmt := topS 10
theorem sc_law_equal : FnScope ["actual", "due", "k"] ["actual", "due"] (defScope s_law_equal) := ⟨rfl, rfl, rfl, by decide +kernel, rfl, by decide +kernel, by decide +kernel⟩
abbrev s_read_natural : Stmt := topS 5
theorem sc_read_natural : FnScope ["text", "head", "value", "at"] ["text"] (defScope s_read_natural) := ⟨rfl, rfl, rfl, by decide +kernel, rfl, by decide +kernel, by decide +kernel⟩
abbrev s_read_integer : Stmt := topS 4
theorem sc_read_integer : FnScope ["text", "value"] ["text"] (defScope s_read_integer) := ⟨rfl, rfl, rfl, by decide +kernel, rfl, by decide +kernel, by decide +kernel⟩
abbrev s_read_number : Stmt := topS 2
theorem sc_read_number : FnScope ["text", "top_text", "slash", "bottom_text", "top", "bottom"] ["text"] (defScope s_read_number) := ⟨rfl, rfl, rfl, by decide +kernel, rfl, by decide +kernel, by decide +kernel⟩
abbrev s_law_digits : Stmt := topS 15
theorem sc_law_digits : FnScope ["text", "char"] ["text"] (defScope s_law_digits) := ⟨rfl, rfl, rfl, by decide +kernel, rfl, by decide +kernel, by decide +kernel⟩
abbrev s_law_read : Stmt := topS 16
theorem sc_law_read : FnScope ["text", "sign", "body", "pieces", "top", "bottom"] ["text"] (defScope s_law_read) := ⟨rfl, rfl, rfl, by decide +kernel, rfl, by decide +kernel, by decide +kernel⟩
abbrev s_law : Stmt := topS 19
theorem sc_law : FnScope ["script", "state", "groups", "pair", "text", "k", "other", "high", "made"] ["script"] (defScope s_law) := ⟨rfl, rfl, rfl, by decide +kernel, rfl, by decide +kernel, by decide +kernel⟩
structure Top (K : PySem.W.Frag) (mg : Str → Option Value) : Type where
  a_law_common : Addr
  d_law_common : FuncData
  F_law_common : Fun K "_law_common" "_law_common" s_law_common a_law_common d_law_common
  b_law_common : Binds K d_law_common ["one", "other"] []
  m_law_common : mg "_law_common" = some (.ref a_law_common)
  a_law_pair : Addr
  d_law_pair : FuncData
  F_law_pair : Fun K "_law_pair" "_law_pair" s_law_pair a_law_pair d_law_pair
  b_law_pair : Binds K d_law_pair ["top", "bottom"] []
  m_law_pair : mg "_law_pair" = some (.ref a_law_pair)
  a_law_text : Addr
  d_law_text : FuncData
  F_law_text : Fun K "_law_text" "_law_text" s_law_text a_law_text d_law_text
  b_law_text : Binds K d_law_text ["pair"] []
  m_law_text : mg "_law_text" = some (.ref a_law_text)
  a_write_natural : Addr
  d_write_natural : FuncData
  F_write_natural : Fun K "_write_natural" "_write_natural" s_write_natural a_write_natural d_write_natural
  b_write_natural : Binds K d_write_natural ["value"] []
  m_write_natural : mg "_write_natural" = some (.ref a_write_natural)
  a_write_number : Addr
  d_write_number : FuncData
  F_write_number : Fun K "write_number" "write_number" s_write_number a_write_number d_write_number
  b_write_number : Binds K d_write_number ["pair"] []
  m_write_number : mg "write_number" = some (.ref a_write_number)
  a_law_tape : Addr
  d_law_tape : FuncData
  F_law_tape : Fun K "_law_tape" "_law_tape" s_law_tape a_law_tape d_law_tape
  b_law_tape : Binds K d_law_tape ["script"] []
  m_law_tape : mg "_law_tape" = some (.ref a_law_tape)
  a_law_draw : Addr
  d_law_draw : FuncData
  F_law_draw : Fun K "_law_draw" "_law_draw" s_law_draw a_law_draw d_law_draw
  b_law_draw : Binds K d_law_draw ["tape", "at", "many"] []
  m_law_draw : mg "_law_draw" = some (.ref a_law_draw)
  a_law_take : Addr
  d_law_take : FuncData
  F_law_take : Fun K "_law_take" "_law_take" s_law_take a_law_take d_law_take
  b_law_take : Binds K d_law_take ["state", "many"] []
  m_law_take : mg "_law_take" = some (.ref a_law_take)
  a_law_long : Addr
  d_law_long : FuncData
  F_law_long : Fun K "_law_long" "_law_long" s_law_long a_law_long d_law_long
  b_law_long : Binds K d_law_long ["state", "groups"] []
  m_law_long : mg "_law_long" = some (.ref a_law_long)
  a_law_changed : Addr
  d_law_changed : FuncData
  F_law_changed : Fun K "_law_changed" "_law_changed" s_law_changed a_law_changed d_law_changed
  b_law_changed : Binds K d_law_changed ["state", "text", "pair"] []
  m_law_changed : mg "_law_changed" = some (.ref a_law_changed)
  a_law_equal : Addr
  d_law_equal : FuncData
  F_law_equal : Fun K "_law_equal" "_law_equal" s_law_equal a_law_equal d_law_equal
  b_law_equal : Binds K d_law_equal ["actual", "due"] []
  m_law_equal : mg "_law_equal" = some (.ref a_law_equal)
  a_read_natural : Addr
  d_read_natural : FuncData
  F_read_natural : Fun K "_read_natural" "_read_natural" s_read_natural a_read_natural d_read_natural
  b_read_natural : Binds K d_read_natural ["text"] []
  m_read_natural : mg "_read_natural" = some (.ref a_read_natural)
  a_read_integer : Addr
  d_read_integer : FuncData
  F_read_integer : Fun K "_read_integer" "_read_integer" s_read_integer a_read_integer d_read_integer
  b_read_integer : Binds K d_read_integer ["text"] []
  m_read_integer : mg "_read_integer" = some (.ref a_read_integer)
  a_read_number : Addr
  d_read_number : FuncData
  F_read_number : Fun K "read_number" "read_number" s_read_number a_read_number d_read_number
  b_read_number : Binds K d_read_number ["text"] []
  m_read_number : mg "read_number" = some (.ref a_read_number)
  a_law_digits : Addr
  d_law_digits : FuncData
  F_law_digits : Fun K "_law_digits" "_law_digits" s_law_digits a_law_digits d_law_digits
  b_law_digits : Binds K d_law_digits ["text"] []
  m_law_digits : mg "_law_digits" = some (.ref a_law_digits)
  a_law_read : Addr
  d_law_read : FuncData
  F_law_read : Fun K "_law_read" "_law_read" s_law_read a_law_read d_law_read
  b_law_read : Binds K d_law_read ["text"] []
  m_law_read : mg "_law_read" = some (.ref a_law_read)
  a_law : Addr
  d_law : FuncData
  F_law : Fun K "law" "law" s_law a_law d_law
  b_law : Binds K d_law ["script"] []
  m_law : mg "law" = some (.ref a_law)
  z_abs : mg "abs" = none
  z_bool : mg "bool" = none
  z_divmod : mg "divmod" = none
  z_gcd : mg "gcd" = some (.builtin "math.gcd")
  z_int : mg "int" = none
  z_isinstance : mg "isinstance" = none
  z_len : mg "len" = none
  z_list : mg "list" = none
  z_max : mg "max" = none
  z_range : mg "range" = none
  z_str : mg "str" = none
  z_tuple : mg "tuple" = none
  x_dig : PySem.W.nsIn K cStatics "sys.int_max_str_digits" = some none

/-! ### heaps -/
theorem same_upd {H : Hp} {p : Addr} {o : HO} (h : H p = none) : Same H (upd H p o) := fun b x e => by
  rw [upd_ne (ne_of_none e h)]
  exact e
theorem same_upd2 {H H' : Hp} {p : Addr} {o : HO} (h : H p = none) (s : Same H H') : Same H (upd H' p o) := fun b x e => by
  rw [upd_ne (ne_of_none e h)]
  exact s _ _ e
theorem small {n : Nat} (h : n ≤ 100000) : n ≤ sizeLine := Nat.le_trans h (by decide)
theorem smallL {n : Nat} (h : n < 100000) : n < sizeLine := Nat.lt_of_lt_of_le h (by decide)
theorem ite_dec {c : Prop} [Decidable c] {A B : Prop} (h1 : c → A) (h2 : ¬ c → B) : if decide c = true then A else B := by
  by_cases h : c
  · rw [if_pos (decide_eq_true h)]; exact h1 h
  · rw [if_neg (fun q => h (of_decide_eq_true q))]; exact h2 h
theorem ifT {c : Bool} {A B : Prop} (h : A) (e : c = true := by rfl) : if c = true then A else B := by
  rw [e]
  exact iteT h
theorem ifF {c : Bool} {A B : Prop} (h : B) (e : c = false := by rfl) : if c = true then A else B := by
  rw [e]
  exact iteF h
theorem ite_b {b : Bool} {A B : Prop} (h1 : b = true → A) (h2 : b = false → B) : if b = true then A else B := by
  cases b
  · exact iteF (h2 rfl)
  · exact iteT (h1 rfl)
theorem ite_nb {b : Bool} {A B : Prop} (h1 : b = false → A) (h2 : b = true → B) : if (!b) = true then A else B := by
  cases b
  · exact iteT (h1 rfl)
  · exact iteF (h2 rfl)

theorem bnd_app {ts : List Int} {lo hi : Int} {v : Int} (h : ∀ t ∈ ts, lo ≤ t ∧ t < hi) (hv : lo ≤ v ∧ v < hi) : ∀ t ∈ ts ++ [v], lo ≤ t ∧ t < hi := fun t ht => by
  rcases List.mem_append.mp ht with h1 | h1
  · exact h t h1
  · rw [List.mem_singleton.mp h1]; exact hv
/-! ### heaps that are alike but for the list at st -/
def SX (st : Addr) (H H' : Hp) : Prop := ∀ b o, H b = some o → (b = st → ∀ xs, o ≠ .lst xs) → H' b = some o
theorem SX.refl (st : Addr) (H : Hp) : SX st H H := fun _ _ h _ => h
theorem SX.trans {st : Addr} {H H1 H2 : Hp} (a : SX st H H1) (b : SX st H1 H2) : SX st H H2 := fun c o h k => b c o (a c o h k) k
theorem SX.same {st : Addr} {H H' : Hp} (a : Same H H') : SX st H H' := fun b o h _ => a b o h
theorem SX.new {st : Addr} {H : Hp} {p : Addr} {o : HO} (h : H p = none) : SX st H (upd H p o) := .same (same_upd h)
theorem SX.new2 {st : Addr} {H H' : Hp} {p : Addr} {o : HO} (h : H p = none) (a : SX st H H') : SX st H (upd H' p o) := fun b u e k => by
  rw [upd_ne (ne_of_none e h)]
  exact a b u e k
theorem SX.at {st : Addr} {H : Hp} {xs ys : List V} (h : H st = some (.lst xs)) : SX st H (upd H st (.lst ys)) := fun b u e k => by
  by_cases hb : b = st
  · subst hb
    rw [h] at e
    cases e
    exact absurd rfl (k rfl xs)
  · rw [upd_ne hb]
    exact e
theorem SX.seqT {K : PySem.W.Frag} {st : Addr} {H H' : Hp} {a : Addr} {xs : List V} (e : SX st H H') (h : SqT K H a xs) : SqT K H' a xs := by
  rcases h with (h | ⟨o, h⟩) | h
  · exact .inl (.inl (e _ _ h fun _ _ q => by cases q))
  · exact .inl (.inr ⟨o, e _ _ h fun _ _ q => by cases q⟩)
  · exact .inr h
theorem SX.lst {st : Addr} {H H' : Hp} {a : Addr} {xs : List V} (e : SX st H H') (ha : a ≠ st) (h : H a = some (.lst xs)) : H' a = some (.lst xs) := e _ _ h fun q => absurd q ha
/-- the law's tape and its place -/
def TapeOk (ts : List Int) : Prop := ts.length ≤ 2520 ∧ ∀ t ∈ ts, 0 ≤ t ∧ t < 2147483629
structure St (H : Hp) (st : Addr) (n : Nat) : Prop where
  ex : ∃ (tp : Addr) (ts : List Int), H st = some (.lst [.ref tp, .int (n : Int)]) ∧ tp ≠ st ∧ H tp = some (.lst (ts.map V.int)) ∧ TapeOk ts
theorem St.same {H H' : Hp} {st : Addr} {n : Nat} (h : St H st n) (e : Same H H') : St H' st n := by
  obtain ⟨tp, ts, h1, h2, h3, h4⟩ := h.ex
  exact ⟨tp, ts, e _ _ h1, h2, e _ _ h3, h4⟩
theorem St.new {H : Hp} {st : Addr} {n : Nat} {p : Addr} {o : HO} (h : St H st n) (hp : H p = none) : St (upd H p o) st n := h.same (same_upd hp)
theorem St.isL {H : Hp} {st : Addr} {n : Nat} (h : St H st n) : ∃ xs, H st = some (.lst xs) := by
  obtain ⟨tp, ts, h1, _⟩ := h.ex
  exact ⟨_, h1⟩
/-! ### data -/
/-- at most n deep, no dicts, bounded widths -/
def Sh : Nat → PyData → Prop
  | _, .none => True
  | _, .bool _ => True
  | _, .int _ => True
  | _, .str _ => True
  | 0, _ => False
  | n + 1, .list xs => xs.length ≤ 1000000 ∧ ∀ x ∈ xs, Sh n x
  | n + 1, .tuple xs => xs.length ≤ 1000000 ∧ ∀ x ∈ xs, Sh n x
  | _, .dict _ => False
def tyN : PyData → String
  | .none => "NoneType"
  | .bool _ => "bool"
  | .int _ => "int"
  | .str _ => "str"
  | .list _ => "list"
  | .tuple _ => "tuple"
  | .dict _ => "dict"
theorem Dp.ty {K : PySem.W.Frag} {H : Hp} {x : V} {d : PyData} (h : Dp K H x d) : TyX K H x (.type (tyN d)) := by
  cases h with
  | non => exact .base .non
  | bl b => exact .base (.bl b)
  | int b => exact .base (.int b)
  | str b => exact .base (.str b)
  | lst h _ =>
    rcases h with (h | ⟨o, h⟩) | ⟨o, its, n, h1, h2, _⟩
    · exact .base (.lst h)
    · exact .base (.frz h)
    · exact .kList h1 h2
  | tup h _ =>
    rcases h with (h | ⟨o, h⟩) | ⟨o, its, n, h1, h2, _⟩
    · exact .base (.tup h)
    · exact .fTuple h
    · exact .kTuple h1 h2
theorem DpAll.len {K : PySem.W.Frag} {H : Hp} : ∀ {xs : List V} {ds : List PyData}, DpAll K H xs ds → xs.length = ds.length
  | _, _, .nil => rfl
  | _, _, .cons _ t => congrArg (· + 1) (DpAll.len t)
theorem DpAll.at {K : PySem.W.Frag} {H : Hp} : ∀ {xs : List V} {ds : List PyData} {i : Nat} {d : PyData}, DpAll K H xs ds → ds[i]? = some d → ∃ x, xs[i]? = some x ∧ Dp K H x d
  | _, _, _, _, .nil, e => by simp at e
  | _, _, 0, _, .cons h _, e => by simp at e; subst e; exact ⟨_, rfl, h⟩
  | _, _, i + 1, d, .cons _ t, e => by
    obtain ⟨u, h1, h2⟩ := DpAll.at (i := i) (d := d) t (by simpa using e)
    exact ⟨u, by simpa using h1, h2⟩
mutual
theorem Dp.sx {K : PySem.W.Frag} {H H' : Hp} (e : ∀ a xs, SqT K H a xs → SqT K H' a xs) (el : ∀ a xs, SqL K H a xs → SqL K H' a xs) : ∀ {d : PyData} {x : V}, Dp K H x d → Dp K H' x d
  | _, _, .non => .non
  | _, _, .bl b => .bl b
  | _, _, .int b => .int b
  | _, _, .str b => .str b
  | _, _, .lst h t => .lst (el _ _ h) (DpAll.sx e el t)
  | _, _, .tup h t => .tup (e _ _ h) (DpAll.sx e el t)
theorem DpAll.sx {K : PySem.W.Frag} {H H' : Hp} (e : ∀ a xs, SqT K H a xs → SqT K H' a xs) (el : ∀ a xs, SqL K H a xs → SqL K H' a xs) : ∀ {ds : List PyData} {xs : List V}, DpAll K H xs ds → DpAll K H' xs ds
  | _, _, .nil => .nil
  | _, _, .cons h t => .cons (Dp.sx e el h) (DpAll.sx e el t)
end
theorem Same.sqT {K : PySem.W.Frag} {H H' : Hp} {a : Addr} {xs : List V} (e : Same H H') (h : SqT K H a xs) : SqT K H' a xs := by
  rcases h with (h | ⟨o, h⟩) | h
  · exact .inl (.inl (e _ _ h))
  · exact .inl (.inr ⟨o, e _ _ h⟩)
  · exact .inr h
theorem Dp.same {K : PySem.W.Frag} {H H' : Hp} {d : PyData} {x : V} (e : Same H H') (h : Dp K H x d) : Dp K H' x d := Dp.sx (fun _ _ h => Same.sqT e h) (fun _ _ h => e.seq h) h
theorem smallIn {K : PySem.W.Frag} {H : Hp} {a : Addr} {xs : List V} (n : Nat) (hl : xs.length ≤ n) (hn : n < 100000) : xs.length < sizeLine := smallL (by omega)

section
variable {P : Program} {w : World} {K : PySem.W.Frag} {mg : Str → Option Value} {base : Heap}
/-! ### _law_tape: a new list of ints -/
def sp_law_tape (K : PySem.W.Frag) : Sp := fun vs H Q _ => ∃ (a : Addr) (ns : List Int), vs = [.ref a] ∧ SqL K H a (ns.map V.int) ∧ ns.length ≤ 63 ∧
  ∀ H' p (ts : List Int), Same H H' → H p = none → H' p = some (.lst (ts.map V.int)) → (∀ t ∈ ts, 0 ≤ t ∧ t < 2147483629) → ts.length ≤ 2520 → Q (.ref p) H'
theorem ok_law_tape (T : Top K mg) : FnOk P w K mg base CX0 1 T.a_law_tape T.d_law_tape ["script"] (sp_law_tape K) := by
  refine T.F_law_tape.ok sc_law_tape (fun vs H Q E h => ?_) (fun cdv A outer s H vs Q E hr h => ?_)
  · obtain ⟨a, ns, rfl, _⟩ := h
    rfl
  obtain ⟨a, ns, rfl, hS, h63, q⟩ := h
  refine ⟨_, (pss_cons (ps_set (i := 1) sc_law_tape.nd rfl (Or.inl rfl) (pe_lst pa_nil))
      (pss_cons (ps_for PassesOwn.never rfl (pi_list (pv 0)) (pg_name (i := 2) sc_law_tape.nd rfl (Or.inl rfl))
        (pss_cons (ps_set (i := 3) sc_law_tape.nd rfl (Or.inl rfl) (pe_op op_mul pe_int (pe_callTy call_int1 (by rfl) T.z_int (by decide +kernel) (pa_cons (pv 2) pa_nil))))
      (pss_cons (ps_if (pt_cmpR op_lt (pv 3) pe_int (nomark _))
        (pss_one (ps_set (i := 3) sc_law_tape.nd rfl (Or.inl rfl) (pe_op op_sub (pe_un un_neg pe_int) (pv 3))))
        pss_nil)
      (pss_one (ps_if (pt_cmpR op_ge (pv 3) (pe_op op_pow pe_int pe_int) (nomark _))
        (pss_one (ps_for PassesOwn.never rfl (pi_range1 (by rfl) T.z_range (pa_cons pe_int pa_nil)) (pg_name (i := 4) sc_law_tape.nd rfl (Or.inl rfl))
        (pss_one (ps_if (pt_cmpR op_gt (pv 3) pe_int (nomark _))
        (pss_cons (ps_expr (pe_bm PySem.F.plainAttrs_list PySem.F.slot_list_append PySem.F.type_list_append mt_append (pv 1) (pa_cons (pe_op op_mod (pe_callTy call_int1 (by rfl) T.z_int (by decide +kernel) (pa_cons (pv 3) pa_nil)) pe_int) pa_nil)))
      (pss_one (ps_set (i := 3) sc_law_tape.nd rfl (Or.inl rfl) (pe_op op_fdiv (pv 3) pe_int))))
        pss_nil))))
        (pss_one (ps_for PassesOwn.never rfl (pi_range1 (by rfl) T.z_range (pa_cons pe_int pa_nil)) (pg_name (i := 4) sc_law_tape.nd rfl (Or.inl rfl))
        (pss_cons (ps_set (i := 5) sc_law_tape.nd rfl (Or.inl rfl) (pe_op op_mod (pe_callTy call_int1 (by rfl) T.z_int (by decide +kernel) (pa_cons (pe_op op_add (pe_op op_add (pe_op op_mul (pv 3) pe_int) (pe_op op_mul (pv 4) pe_int)) pe_int) pa_nil)) pe_int))
      (pss_one (ps_expr (pe_bm PySem.F.plainAttrs_list PySem.F.slot_list_append PySem.F.type_list_append mt_append (pv 1) (pa_cons (pe_op op_mod (pe_callTy call_int1 (by rfl) T.z_int (by decide +kernel) (pa_cons (pe_op op_add (pe_op op_mul (pv 5) pe_int) (pe_op op_fdiv (pv 5) pe_int)) pa_nil)) pe_int) pa_nil))))))))))))
      (pss_one (ps_ret (pv 1))))), ?_⟩
  refine ⟨Nat.zero_le _, fun p hp => ?_⟩
  have sm : ∀ o, Same H (upd H p o) := fun o => same_upd hp
  refine ⟨_, rfl, a, rfl, ⟨_, (sm _).seq hS⟩, for_list (xs := ns.map V.int) (fun i σ H' => ∃ (y2 y3 y4 y5 : Option V) (ts : List Int), σ = [some (.ref a), some (.ref p), y2, y3, y4, y5] ∧ H' = upd H p (.lst (ts.map V.int)) ∧ (∀ t ∈ ts, 0 ≤ t ∧ t < 2147483629) ∧ ts.length ≤ 40 * i) ?_ ?_ ?_ ?_⟩
  · exact ⟨none, none, none, none, [], rfl, rfl, (fun _ h => by cases h), by decide⟩
  · rintro i σ H' _ ⟨y2, y3, y4, y5, ts, rfl, rfl, _⟩
    exact (sm _).seq hS
  · rintro i x σ H' hx ⟨y2, y3, y4, y5, ts, rfl, rfl, hb, hl⟩
    have hi : i < 63 := by
      have h1 := (List.getElem?_eq_some_iff.mp hx).1
      rw [List.length_map] at h1
      omega
    obtain ⟨n, rfl⟩ : ∃ n, x = .int n := by
      rw [List.getElem?_map] at hx
      cases e : ns[i]? with
      | none => rw [e] at hx; cases hx
      | some n => rw [e] at hx; exact ⟨n, (Option.some.inj hx).symm⟩
    (repeat (first
      | refine ⟨_, rfl, ?_⟩
      | refine ⟨_, _, rfl, rfl, ?_⟩
      | refine Or.inl ⟨_, rfl, ?_⟩
      | refine Or.inr ⟨_, rfl, ?_⟩
      | refine ⟨Or.inl ⟨by decide, by decide⟩, ?_⟩
      | refine ⟨Or.inr ⟨by decide, by decide⟩, ?_⟩
      | refine ⟨⟨by decide, by decide⟩, ?_⟩
      | refine ⟨⟨by decide, by decide, by decide⟩, ?_⟩
      | refine ⟨by decide, ?_⟩
      | refine ⟨(by show (0 : Int) < _; decide), ?_⟩
      | refine ⟨rfl, ?_⟩
      | refine ⟨⟨_, rfl⟩, ?_⟩
      | refine ⟨_, rfl, rfl, trivial, ?_⟩
      | refine ⟨_, _, rfl, ?_⟩))
    refine ite_dec (fun c => ?_) (fun c => ?_)
    all_goals
      (repeat (first
      | refine ⟨_, rfl, ?_⟩
      | refine ⟨_, _, rfl, rfl, ?_⟩
      | refine Or.inl ⟨_, rfl, ?_⟩
      | refine Or.inr ⟨_, rfl, ?_⟩
      | refine ⟨Or.inl ⟨by decide, by decide⟩, ?_⟩
      | refine ⟨Or.inr ⟨by decide, by decide⟩, ?_⟩
      | refine ⟨⟨by decide, by decide⟩, ?_⟩
      | refine ⟨⟨by decide, by decide, by decide⟩, ?_⟩
      | refine ⟨by decide, ?_⟩
      | refine ⟨(by show (0 : Int) < _; decide), ?_⟩
      | refine ⟨rfl, ?_⟩
      | refine ⟨⟨_, rfl⟩, ?_⟩
      | refine ⟨_, rfl, rfl, trivial, ?_⟩
      | refine ⟨_, _, rfl, ?_⟩))
      refine ite_dec (fun c => ?_) (fun c => ?_)
      · (repeat (first
      | refine ⟨_, rfl, ?_⟩
      | refine ⟨_, _, rfl, rfl, ?_⟩
      | refine Or.inl ⟨_, rfl, ?_⟩
      | refine Or.inr ⟨_, rfl, ?_⟩
      | refine ⟨Or.inl ⟨by decide, by decide⟩, ?_⟩
      | refine ⟨Or.inr ⟨by decide, by decide⟩, ?_⟩
      | refine ⟨⟨by decide, by decide⟩, ?_⟩
      | refine ⟨⟨by decide, by decide, by decide⟩, ?_⟩
      | refine ⟨by decide, ?_⟩
      | refine ⟨(by show (0 : Int) < _; decide), ?_⟩
      | refine ⟨rfl, ?_⟩
      | refine ⟨⟨_, rfl⟩, ?_⟩
      | refine ⟨_, rfl, rfl, trivial, ?_⟩
      | refine ⟨_, _, rfl, ?_⟩))
        refine for_range (lo := 0) (n := 40) (fun j σ H' => ∃ (y2 y4 y5 : Option V) (m : Int) (ts : List Int), σ = [some (.ref a), some (.ref p), y2, some (.int m), y4, y5] ∧ H' = upd H p (.lst (ts.map V.int)) ∧ (∀ t ∈ ts, 0 ≤ t ∧ t < 2147483629) ∧ ts.length ≤ 40 * i + j) ?_ ?_ ?_
        · exact ⟨_, _, _, _, ts, rfl, rfl, hb, by omega⟩
        · rintro j σ H' hj ⟨y2, y4, y5, m, ts, rfl, rfl, hb, hl⟩
          (repeat (first
      | refine ⟨_, rfl, ?_⟩
      | refine ⟨_, _, rfl, rfl, ?_⟩
      | refine Or.inl ⟨_, rfl, ?_⟩
      | refine Or.inr ⟨_, rfl, ?_⟩
      | refine ⟨Or.inl ⟨by decide, by decide⟩, ?_⟩
      | refine ⟨Or.inr ⟨by decide, by decide⟩, ?_⟩
      | refine ⟨⟨by decide, by decide⟩, ?_⟩
      | refine ⟨⟨by decide, by decide, by decide⟩, ?_⟩
      | refine ⟨by decide, ?_⟩
      | refine ⟨(by show (0 : Int) < _; decide), ?_⟩
      | refine ⟨rfl, ?_⟩
      | refine ⟨⟨_, rfl⟩, ?_⟩
      | refine ⟨_, rfl, rfl, trivial, ?_⟩
      | refine ⟨_, _, rfl, ?_⟩))
          refine ite_dec (fun c => ?_) (fun c => ?_)
          · (repeat (first
      | refine ⟨_, rfl, ?_⟩
      | refine ⟨_, _, rfl, rfl, ?_⟩
      | refine Or.inl ⟨_, rfl, ?_⟩
      | refine Or.inr ⟨_, rfl, ?_⟩
      | refine ⟨Or.inl ⟨by decide, by decide⟩, ?_⟩
      | refine ⟨Or.inr ⟨by decide, by decide⟩, ?_⟩
      | refine ⟨⟨by decide, by decide⟩, ?_⟩
      | refine ⟨⟨by decide, by decide, by decide⟩, ?_⟩
      | refine ⟨by decide, ?_⟩
      | refine ⟨(by show (0 : Int) < _; decide), ?_⟩
      | refine ⟨rfl, ?_⟩
      | refine ⟨⟨_, rfl⟩, ?_⟩
      | refine ⟨_, rfl, rfl, trivial, ?_⟩
      | refine ⟨_, _, rfl, ?_⟩))
            refine ⟨.inl ⟨rfl, _, SqL.of upd_same⟩, ?_⟩
            (repeat (first
      | refine ⟨_, rfl, ?_⟩
      | refine ⟨_, _, rfl, rfl, ?_⟩
      | refine Or.inl ⟨_, rfl, ?_⟩
      | refine Or.inr ⟨_, rfl, ?_⟩
      | refine ⟨Or.inl ⟨by decide, by decide⟩, ?_⟩
      | refine ⟨Or.inr ⟨by decide, by decide⟩, ?_⟩
      | refine ⟨⟨by decide, by decide⟩, ?_⟩
      | refine ⟨⟨by decide, by decide, by decide⟩, ?_⟩
      | refine ⟨by decide, ?_⟩
      | refine ⟨(by show (0 : Int) < _; decide), ?_⟩
      | refine ⟨rfl, ?_⟩
      | refine ⟨⟨_, rfl⟩, ?_⟩
      | refine ⟨_, rfl, rfl, trivial, ?_⟩
      | refine ⟨_, _, rfl, ?_⟩))
            refine ⟨p, _, _, rfl, rfl, upd_same, smallL (by rw [List.length_map]; omega), ?_⟩
            (repeat (first
      | refine ⟨_, rfl, ?_⟩
      | refine ⟨_, _, rfl, rfl, ?_⟩
      | refine Or.inl ⟨_, rfl, ?_⟩
      | refine Or.inr ⟨_, rfl, ?_⟩
      | refine ⟨Or.inl ⟨by decide, by decide⟩, ?_⟩
      | refine ⟨Or.inr ⟨by decide, by decide⟩, ?_⟩
      | refine ⟨⟨by decide, by decide⟩, ?_⟩
      | refine ⟨⟨by decide, by decide, by decide⟩, ?_⟩
      | refine ⟨by decide, ?_⟩
      | refine ⟨(by show (0 : Int) < _; decide), ?_⟩
      | refine ⟨rfl, ?_⟩
      | refine ⟨⟨_, rfl⟩, ?_⟩
      | refine ⟨_, rfl, rfl, trivial, ?_⟩
      | refine ⟨_, _, rfl, ?_⟩))
            refine ⟨_, _, _, _, ts ++ [m % 1000], rfl, ?_, ?_, ?_⟩
            · rw [upd_upd, List.map_append]; rfl
            · exact bnd_app hb ⟨by omega, by omega⟩
            · rw [List.length_append]; show ts.length + 1 ≤ _; omega
          · exact ⟨_, _, _, _, ts, rfl, rfl, hb, by omega⟩
        · rintro σ H' ⟨y2, y4, y5, m, ts, rfl, rfl, hb, hl⟩
          exact ⟨_, _, _, _, ts, rfl, rfl, hb, by omega⟩
      · (repeat (first
      | refine ⟨_, rfl, ?_⟩
      | refine ⟨_, _, rfl, rfl, ?_⟩
      | refine Or.inl ⟨_, rfl, ?_⟩
      | refine Or.inr ⟨_, rfl, ?_⟩
      | refine ⟨Or.inl ⟨by decide, by decide⟩, ?_⟩
      | refine ⟨Or.inr ⟨by decide, by decide⟩, ?_⟩
      | refine ⟨⟨by decide, by decide⟩, ?_⟩
      | refine ⟨⟨by decide, by decide, by decide⟩, ?_⟩
      | refine ⟨by decide, ?_⟩
      | refine ⟨(by show (0 : Int) < _; decide), ?_⟩
      | refine ⟨rfl, ?_⟩
      | refine ⟨⟨_, rfl⟩, ?_⟩
      | refine ⟨_, rfl, rfl, trivial, ?_⟩
      | refine ⟨_, _, rfl, ?_⟩))
        refine for_range (lo := 0) (n := 3) (fun j σ H' => ∃ (y2 y4 y5 : Option V) (m : Int) (ts : List Int), σ = [some (.ref a), some (.ref p), y2, some (.int m), y4, y5] ∧ H' = upd H p (.lst (ts.map V.int)) ∧ (∀ t ∈ ts, 0 ≤ t ∧ t < 2147483629) ∧ ts.length ≤ 40 * i + j) ?_ ?_ ?_
        · exact ⟨_, _, _, _, ts, rfl, rfl, hb, by omega⟩
        · rintro j σ H' hj ⟨y2, y4, y5, m, ts, rfl, rfl, hb, hl⟩
          (repeat (first
      | refine ⟨_, rfl, ?_⟩
      | refine ⟨_, _, rfl, rfl, ?_⟩
      | refine Or.inl ⟨_, rfl, ?_⟩
      | refine Or.inr ⟨_, rfl, ?_⟩
      | refine ⟨Or.inl ⟨by decide, by decide⟩, ?_⟩
      | refine ⟨Or.inr ⟨by decide, by decide⟩, ?_⟩
      | refine ⟨⟨by decide, by decide⟩, ?_⟩
      | refine ⟨⟨by decide, by decide, by decide⟩, ?_⟩
      | refine ⟨by decide, ?_⟩
      | refine ⟨(by show (0 : Int) < _; decide), ?_⟩
      | refine ⟨rfl, ?_⟩
      | refine ⟨⟨_, rfl⟩, ?_⟩
      | refine ⟨_, rfl, rfl, trivial, ?_⟩
      | refine ⟨_, _, rfl, ?_⟩))
          refine ⟨.inl ⟨rfl, _, SqL.of upd_same⟩, ?_⟩
          (repeat (first
      | refine ⟨_, rfl, ?_⟩
      | refine ⟨_, _, rfl, rfl, ?_⟩
      | refine Or.inl ⟨_, rfl, ?_⟩
      | refine Or.inr ⟨_, rfl, ?_⟩
      | refine ⟨Or.inl ⟨by decide, by decide⟩, ?_⟩
      | refine ⟨Or.inr ⟨by decide, by decide⟩, ?_⟩
      | refine ⟨⟨by decide, by decide⟩, ?_⟩
      | refine ⟨⟨by decide, by decide, by decide⟩, ?_⟩
      | refine ⟨by decide, ?_⟩
      | refine ⟨(by show (0 : Int) < _; decide), ?_⟩
      | refine ⟨rfl, ?_⟩
      | refine ⟨⟨_, rfl⟩, ?_⟩
      | refine ⟨_, rfl, rfl, trivial, ?_⟩
      | refine ⟨_, _, rfl, ?_⟩))
          refine ⟨p, _, _, rfl, rfl, upd_same, smallL (by rw [List.length_map]; omega), ?_⟩
          refine ⟨_, _, _, _, ts ++ [_], rfl, (by rw [upd_upd, List.map_append]; rfl), ?_, ?_⟩
          · exact bnd_app hb ⟨by omega, by omega⟩
          · rw [List.length_append]; show ts.length + 1 ≤ _; omega
        · rintro σ H' ⟨y2, y4, y5, m, ts, rfl, rfl, hb, hl⟩
          exact ⟨_, _, _, _, ts, rfl, rfl, hb, by omega⟩
  · rintro σ H' ⟨y2, y3, y4, y5, ts, rfl, rfl, hb, hl⟩
    rw [List.length_map] at hl
    exact ⟨_, rfl, q _ p ts (sm _) hp upd_same hb (by omega)⟩

/-! ### _law_draw, _law_take: some number below many -/
def sp_law_draw : Sp := fun vs H Q _ => ∃ (tp : Addr) (ts : List Int) (n : Nat) (m : Int), vs = [.ref tp, .int (n : Int), .int m] ∧ H tp = some (.lst (ts.map V.int)) ∧ TapeOk ts ∧ n < 2 ^ 60 ∧ 0 < m ∧ ∀ v, 0 ≤ v → v < m → Q (.int v) H
theorem ok_law_draw (T : Top K mg) : FnOk P w K mg base CX0 1 T.a_law_draw T.d_law_draw ["tape", "at", "many"] sp_law_draw := by
  refine T.F_law_draw.ok sc_law_draw (fun vs H Q E h => ?_) (fun cdv A outer s H vs Q E hr h => ?_)
  · obtain ⟨tp, ts, n, m, rfl, _⟩ := h
    rfl
  obtain ⟨tp, ts, n, m, rfl, hT, hO, hn, hm, q⟩ := h
  have hS : SqL K H tp (ts.map V.int) := SqL.of hT
  have atn : ∀ j : Nat, j < ts.length → ∃ v, (ts.map V.int)[j]? = some (.int v) ∧ 0 ≤ v ∧ v < 2147483629 := fun j hj => by
    refine ⟨ts[j], by rw [List.getElem?_map, List.getElem?_eq_getElem hj]; rfl, hO.2 _ (List.getElem_mem hj)⟩
  refine ⟨_, (pss_cons (ps_if (pt_cmpR op_lt (pv 1) (pe_callB call_len_seq (by rfl) T.z_len (by decide +kernel) (pa_cons (pv 0) pa_nil)) (nomark _))
        (pss_one (ps_ret (pe_op op_mod (pe_callTy call_int1 (by rfl) T.z_int (by decide +kernel) (pa_cons (pe_ix ix_list (pv 0) (pv 1) (fun _ _ => rfl)) pa_nil)) (pv 2))))
        pss_nil)
      (pss_cons (ps_set (i := 3) sc_law_draw.nd rfl (Or.inl rfl) pe_int)
      (pss_cons (ps_if (pt_cmpR op_gt (pe_callB call_len_seq (by rfl) T.z_len (by decide +kernel) (pa_cons (pv 0) pa_nil)) pe_int (nomark _))
        (pss_one (ps_set (i := 3) sc_law_draw.nd rfl (Or.inl rfl) (pe_ix ix_list (pv 0) (pe_op op_mod (pe_callTy call_int1 (by rfl) T.z_int (by decide +kernel) (pa_cons (pv 1) pa_nil)) (pe_callB call_len_seq (by rfl) T.z_len (by decide +kernel) (pa_cons (pv 0) pa_nil))) (fun _ _ => rfl))))
        pss_nil)
      (pss_one (ps_ret (pe_op op_mod (pe_op op_mod (pe_callTy call_int1 (by rfl) T.z_int (by decide +kernel) (pa_cons (pe_op op_add (pe_op op_mul (pe_op op_mul (pe_op op_add (pv 3) (pv 1)) (pe_op op_add (pv 1) pe_int)) pe_int) (pe_op op_mul (pv 1) pe_int)) pa_nil)) pe_int) (pv 2))))))), ?_⟩
  (repeat (first
      | refine ⟨_, rfl, ?_⟩
      | refine ⟨_, _, rfl, rfl, ?_⟩
      | refine Or.inl ⟨_, rfl, ?_⟩
      | refine Or.inr ⟨_, rfl, ?_⟩
      | refine ⟨Or.inl ⟨by decide, by decide⟩, ?_⟩
      | refine ⟨Or.inr ⟨by decide, by decide⟩, ?_⟩
      | refine ⟨⟨by decide, by decide⟩, ?_⟩
      | refine ⟨⟨by decide, by decide, by decide⟩, ?_⟩
      | refine ⟨by decide, ?_⟩
      | refine ⟨(by show (0 : Int) < _; decide), ?_⟩
      | refine ⟨rfl, ?_⟩
      | refine ⟨⟨_, rfl⟩, ?_⟩
      | refine ⟨_, rfl, rfl, trivial, ?_⟩
      | refine ⟨_, _, rfl, ?_⟩))
  refine ⟨tp, _, rfl, .inl hS, ?_⟩
  (repeat (first
      | refine ⟨_, rfl, ?_⟩
      | refine ⟨_, _, rfl, rfl, ?_⟩
      | refine Or.inl ⟨_, rfl, ?_⟩
      | refine Or.inr ⟨_, rfl, ?_⟩
      | refine ⟨Or.inl ⟨by decide, by decide⟩, ?_⟩
      | refine ⟨Or.inr ⟨by decide, by decide⟩, ?_⟩
      | refine ⟨⟨by decide, by decide⟩, ?_⟩
      | refine ⟨⟨by decide, by decide, by decide⟩, ?_⟩
      | refine ⟨by decide, ?_⟩
      | refine ⟨(by show (0 : Int) < _; decide), ?_⟩
      | refine ⟨rfl, ?_⟩
      | refine ⟨⟨_, rfl⟩, ?_⟩
      | refine ⟨_, rfl, rfl, trivial, ?_⟩
      | refine ⟨_, _, rfl, ?_⟩))
  refine ite_dec (fun c => ?_) (fun c => ?_)
  · rw [List.length_map] at c
    obtain ⟨v, hv, h0, h1⟩ := atn n (by omega)
    (repeat (first
      | refine ⟨_, rfl, ?_⟩
      | refine ⟨_, _, rfl, rfl, ?_⟩
      | refine Or.inl ⟨_, rfl, ?_⟩
      | refine Or.inr ⟨_, rfl, ?_⟩
      | refine ⟨Or.inl ⟨by decide, by decide⟩, ?_⟩
      | refine ⟨Or.inr ⟨by decide, by decide⟩, ?_⟩
      | refine ⟨⟨by decide, by decide⟩, ?_⟩
      | refine ⟨⟨by decide, by decide, by decide⟩, ?_⟩
      | refine ⟨by decide, ?_⟩
      | refine ⟨(by show (0 : Int) < _; decide), ?_⟩
      | refine ⟨rfl, ?_⟩
      | refine ⟨⟨_, rfl⟩, ?_⟩
      | refine ⟨_, rfl, rfl, trivial, ?_⟩
      | refine ⟨_, _, rfl, ?_⟩))
    refine ⟨tp, _, _, _, rfl, rfl, hS, atI_nat hv, ?_⟩
    (repeat (first
      | refine ⟨_, rfl, ?_⟩
      | refine ⟨_, _, rfl, rfl, ?_⟩
      | refine Or.inl ⟨_, rfl, ?_⟩
      | refine Or.inr ⟨_, rfl, ?_⟩
      | refine ⟨Or.inl ⟨by decide, by decide⟩, ?_⟩
      | refine ⟨Or.inr ⟨by decide, by decide⟩, ?_⟩
      | refine ⟨⟨by decide, by decide⟩, ?_⟩
      | refine ⟨⟨by decide, by decide, by decide⟩, ?_⟩
      | refine ⟨by decide, ?_⟩
      | refine ⟨(by show (0 : Int) < _; decide), ?_⟩
      | refine ⟨rfl, ?_⟩
      | refine ⟨⟨_, rfl⟩, ?_⟩
      | refine ⟨_, rfl, rfl, trivial, ?_⟩
      | refine ⟨_, _, rfl, ?_⟩))
    refine ⟨hm, ?_⟩
    exact q _ (Int.emod_nonneg _ (by omega)) (Int.emod_lt_of_pos _ hm)
  · (repeat (first
      | refine ⟨_, rfl, ?_⟩
      | refine ⟨_, _, rfl, rfl, ?_⟩
      | refine Or.inl ⟨_, rfl, ?_⟩
      | refine Or.inr ⟨_, rfl, ?_⟩
      | refine ⟨Or.inl ⟨by decide, by decide⟩, ?_⟩
      | refine ⟨Or.inr ⟨by decide, by decide⟩, ?_⟩
      | refine ⟨⟨by decide, by decide⟩, ?_⟩
      | refine ⟨⟨by decide, by decide, by decide⟩, ?_⟩
      | refine ⟨by decide, ?_⟩
      | refine ⟨(by show (0 : Int) < _; decide), ?_⟩
      | refine ⟨rfl, ?_⟩
      | refine ⟨⟨_, rfl⟩, ?_⟩
      | refine ⟨_, rfl, rfl, trivial, ?_⟩
      | refine ⟨_, _, rfl, ?_⟩))
    refine ⟨tp, _, rfl, .inl hS, ?_⟩
    (repeat (first
      | refine ⟨_, rfl, ?_⟩
      | refine ⟨_, _, rfl, rfl, ?_⟩
      | refine Or.inl ⟨_, rfl, ?_⟩
      | refine Or.inr ⟨_, rfl, ?_⟩
      | refine ⟨Or.inl ⟨by decide, by decide⟩, ?_⟩
      | refine ⟨Or.inr ⟨by decide, by decide⟩, ?_⟩
      | refine ⟨⟨by decide, by decide⟩, ?_⟩
      | refine ⟨⟨by decide, by decide, by decide⟩, ?_⟩
      | refine ⟨by decide, ?_⟩
      | refine ⟨(by show (0 : Int) < _; decide), ?_⟩
      | refine ⟨rfl, ?_⟩
      | refine ⟨⟨_, rfl⟩, ?_⟩
      | refine ⟨_, rfl, rfl, trivial, ?_⟩
      | refine ⟨_, _, rfl, ?_⟩))
    have fin : ∀ v : Int, 0 ≤ v → v < 2147483629 → CMul (v + n) (n + 3) := fun v h0 h1 => .inl ⟨by omega, by omega⟩
    refine ite_dec (fun c => ?_) (fun c => ?_)
    · rw [List.length_map] at c
      (repeat (first
      | refine ⟨_, rfl, ?_⟩
      | refine ⟨_, _, rfl, rfl, ?_⟩
      | refine Or.inl ⟨_, rfl, ?_⟩
      | refine Or.inr ⟨_, rfl, ?_⟩
      | refine ⟨Or.inl ⟨by decide, by decide⟩, ?_⟩
      | refine ⟨Or.inr ⟨by decide, by decide⟩, ?_⟩
      | refine ⟨⟨by decide, by decide⟩, ?_⟩
      | refine ⟨⟨by decide, by decide, by decide⟩, ?_⟩
      | refine ⟨by decide, ?_⟩
      | refine ⟨(by show (0 : Int) < _; decide), ?_⟩
      | refine ⟨rfl, ?_⟩
      | refine ⟨⟨_, rfl⟩, ?_⟩
      | refine ⟨_, rfl, rfl, trivial, ?_⟩
      | refine ⟨_, _, rfl, ?_⟩))
      refine ⟨tp, _, rfl, .inl hS, ?_⟩
      (repeat (first
      | refine ⟨_, rfl, ?_⟩
      | refine ⟨_, _, rfl, rfl, ?_⟩
      | refine Or.inl ⟨_, rfl, ?_⟩
      | refine Or.inr ⟨_, rfl, ?_⟩
      | refine ⟨Or.inl ⟨by decide, by decide⟩, ?_⟩
      | refine ⟨Or.inr ⟨by decide, by decide⟩, ?_⟩
      | refine ⟨⟨by decide, by decide⟩, ?_⟩
      | refine ⟨⟨by decide, by decide, by decide⟩, ?_⟩
      | refine ⟨by decide, ?_⟩
      | refine ⟨(by show (0 : Int) < _; decide), ?_⟩
      | refine ⟨rfl, ?_⟩
      | refine ⟨⟨_, rfl⟩, ?_⟩
      | refine ⟨_, rfl, rfl, trivial, ?_⟩
      | refine ⟨_, _, rfl, ?_⟩))
      refine ⟨by show (0 : Int) < _; rw [List.length_map]; omega, ?_⟩
      have hl : ((n : Int) % ((ts.map V.int).length : Nat)) = ((n % ts.length : Nat) : Int) := by
        rw [List.length_map]; rfl
      obtain ⟨v, hv, h0, h1⟩ := atn (n % ts.length) (Nat.mod_lt _ (by omega))
      refine ⟨tp, _, _, _, rfl, rfl, hS, (by rw [hl]; exact atI_nat hv), ?_⟩
      (repeat (first
      | refine ⟨_, rfl, ?_⟩
      | refine ⟨_, _, rfl, rfl, ?_⟩
      | refine Or.inl ⟨_, rfl, ?_⟩
      | refine Or.inr ⟨_, rfl, ?_⟩
      | refine ⟨Or.inl ⟨by decide, by decide⟩, ?_⟩
      | refine ⟨Or.inr ⟨by decide, by decide⟩, ?_⟩
      | refine ⟨⟨by decide, by decide⟩, ?_⟩
      | refine ⟨⟨by decide, by decide, by decide⟩, ?_⟩
      | refine ⟨by decide, ?_⟩
      | refine ⟨(by show (0 : Int) < _; decide), ?_⟩
      | refine ⟨rfl, ?_⟩
      | refine ⟨⟨_, rfl⟩, ?_⟩
      | refine ⟨_, rfl, rfl, trivial, ?_⟩
      | refine ⟨_, _, rfl, ?_⟩))
      refine ⟨fin v h0 h1, ?_⟩
      (repeat (first
      | refine ⟨_, rfl, ?_⟩
      | refine ⟨_, _, rfl, rfl, ?_⟩
      | refine Or.inl ⟨_, rfl, ?_⟩
      | refine Or.inr ⟨_, rfl, ?_⟩
      | refine ⟨Or.inl ⟨by decide, by decide⟩, ?_⟩
      | refine ⟨Or.inr ⟨by decide, by decide⟩, ?_⟩
      | refine ⟨⟨by decide, by decide⟩, ?_⟩
      | refine ⟨⟨by decide, by decide, by decide⟩, ?_⟩
      | refine ⟨by decide, ?_⟩
      | refine ⟨(by show (0 : Int) < _; decide), ?_⟩
      | refine ⟨rfl, ?_⟩
      | refine ⟨⟨_, rfl⟩, ?_⟩
      | refine ⟨_, rfl, rfl, trivial, ?_⟩
      | refine ⟨_, _, rfl, ?_⟩))
      refine ⟨hm, ?_⟩
      exact q _ (Int.emod_nonneg _ (by omega)) (Int.emod_lt_of_pos _ hm)
    · (repeat (first
      | refine ⟨_, rfl, ?_⟩
      | refine ⟨_, _, rfl, rfl, ?_⟩
      | refine Or.inl ⟨_, rfl, ?_⟩
      | refine Or.inr ⟨_, rfl, ?_⟩
      | refine ⟨Or.inl ⟨by decide, by decide⟩, ?_⟩
      | refine ⟨Or.inr ⟨by decide, by decide⟩, ?_⟩
      | refine ⟨⟨by decide, by decide⟩, ?_⟩
      | refine ⟨⟨by decide, by decide, by decide⟩, ?_⟩
      | refine ⟨by decide, ?_⟩
      | refine ⟨(by show (0 : Int) < _; decide), ?_⟩
      | refine ⟨rfl, ?_⟩
      | refine ⟨⟨_, rfl⟩, ?_⟩
      | refine ⟨_, rfl, rfl, trivial, ?_⟩
      | refine ⟨_, _, rfl, ?_⟩))
      refine ⟨fin 1 (by decide) (by decide), ?_⟩
      (repeat (first
      | refine ⟨_, rfl, ?_⟩
      | refine ⟨_, _, rfl, rfl, ?_⟩
      | refine Or.inl ⟨_, rfl, ?_⟩
      | refine Or.inr ⟨_, rfl, ?_⟩
      | refine ⟨Or.inl ⟨by decide, by decide⟩, ?_⟩
      | refine ⟨Or.inr ⟨by decide, by decide⟩, ?_⟩
      | refine ⟨⟨by decide, by decide⟩, ?_⟩
      | refine ⟨⟨by decide, by decide, by decide⟩, ?_⟩
      | refine ⟨by decide, ?_⟩
      | refine ⟨(by show (0 : Int) < _; decide), ?_⟩
      | refine ⟨rfl, ?_⟩
      | refine ⟨⟨_, rfl⟩, ?_⟩
      | refine ⟨_, rfl, rfl, trivial, ?_⟩
      | refine ⟨_, _, rfl, ?_⟩))
      refine ⟨hm, ?_⟩
      exact q _ (Int.emod_nonneg _ (by omega)) (Int.emod_lt_of_pos _ hm)
def sp_law_take : Sp := fun vs H Q _ => ∃ (st : Addr) (n : Nat) (m : Int), vs = [.ref st, .int m] ∧ St H st n ∧ n < 2 ^ 50 ∧ 0 < m ∧ ∀ v H', 0 ≤ v → v < m → SX st H H' → St H' st (n + 1) → Q (.int v) H'
theorem ok_law_take (T : Top K mg) : FnOk P w K mg base CX0 2 T.a_law_take T.d_law_take ["state", "many"] sp_law_take := by
  refine T.F_law_take.ok sc_law_take (fun vs H Q E h => ?_) (fun cdv A outer s H vs Q E hr h => ?_)
  · obtain ⟨st, n, m, rfl, _⟩ := h
    rfl
  obtain ⟨st, n, m, rfl, hs, hn, hm, q⟩ := h
  obtain ⟨tp, ts, h1, h2, h3, h4⟩ := hs.ex
  refine ⟨_, (pss_cons (ps_asg (pe_op op_add (pe_ix ix_list (pv 0) pe_int (fun _ _ => rfl)) pe_int) (pg_sub (pv 0) pe_int set_list))
      (pss_one (ps_ret (pe_call ((ok_law_draw T).mono (by decide)) hr (by rfl) T.m_law_draw T.F_law_draw.kp T.b_law_draw .nil pass0 (pa_cons (pe_ix ix_list (pv 0) pe_int (fun _ _ => rfl)) (pa_cons (pe_ix ix_list (pv 0) pe_int (fun _ _ => rfl)) (pa_cons (pv 1) pa_nil))))))), ?_⟩
  have e1 : ((n : Int) + 1) = ((n + 1 : Nat) : Int) := rfl
  refine ⟨_, rfl, st, _, 1, _, rfl, rfl, SqL.of h1, atI_nat (j := 1) rfl, ?_⟩
  (repeat (first
      | refine ⟨_, rfl, ?_⟩
      | refine ⟨_, _, rfl, rfl, ?_⟩
      | refine Or.inl ⟨_, rfl, ?_⟩
      | refine Or.inr ⟨_, rfl, ?_⟩
      | refine ⟨Or.inl ⟨by decide, by decide⟩, ?_⟩
      | refine ⟨Or.inr ⟨by decide, by decide⟩, ?_⟩
      | refine ⟨⟨by decide, by decide⟩, ?_⟩
      | refine ⟨⟨by decide, by decide, by decide⟩, ?_⟩
      | refine ⟨by decide, ?_⟩
      | refine ⟨(by show (0 : Int) < _; decide), ?_⟩
      | refine ⟨rfl, ?_⟩
      | refine ⟨⟨_, rfl⟩, ?_⟩
      | refine ⟨_, rfl, rfl, trivial, ?_⟩
      | refine ⟨_, _, rfl, ?_⟩))
  refine ⟨st, _, 1, 1, rfl, rfl, h1, rfl, ?_⟩
  refine ⟨_, rfl, st, _, 0, _, rfl, rfl, SqL.of upd_same, atI_nat (j := 0) rfl, ?_⟩
  refine ⟨_, rfl, st, _, 1, _, rfl, rfl, SqL.of upd_same, atI_nat (j := 1) rfl, ?_⟩
  refine ⟨_, rfl, ?_⟩
  refine ⟨tp, ts, n + 1, m, rfl, by rw [upd_ne h2]; exact h3, h4, by omega, hm, fun v h0 hv => ?_⟩
  exact q v _ h0 hv (SX.at h1) ⟨tp, ts, upd_same, h2, by rw [upd_ne h2]; exact h3, h4⟩

/-! ### _law_equal of equal data -/
def sp_law_equal (K : PySem.W.Frag) (n : Nat) : Sp := fun vs H Q _ => ∃ (x y : V) (d : PyData), vs = [x, y] ∧ Dp K H x d ∧ Dp K H y d ∧ Sh n d ∧ Q (.bl true) H
theorem isi_e {d : PyData} (k s : String) (b : Bool) (hk : tyN d = k) (e : kitB k s = some b) : PySem.W.kitOne K (.type (tyN d)) (.type s) = some b := kit_ty (by rw [hk]; exact e)
theorem seq_equal {n : Nat} {xs ys : List V} {ds : List PyData} {H : Hp} (hx : DpAll K H xs ds) (hy : DpAll K H ys ds) (hsh : ∀ d ∈ ds, Sh n d) (i : Nat) (hi : i < ds.length) :
    ∃ x y d, xs[i]? = some x ∧ ys[i]? = some y ∧ Dp K H x d ∧ Dp K H y d ∧ Sh n d := by
  have e := List.getElem?_eq_getElem hi
  obtain ⟨x, ex, px⟩ := DpAll.at hx e
  obtain ⟨y, ey, py⟩ := DpAll.at hy e
  exact ⟨x, y, ds[i], ex, ey, px, py, hsh _ (List.getElem_mem hi)⟩
theorem no_equal {f : Addr} {fd : FuncData} : ∀ n, (∀ {vs H Q E}, ¬ sp_law_equal K n vs H Q E) → FnOk P w K mg base CX0 0 f fd ["actual", "due"] (sp_law_equal K n) := fun n no =>
  ⟨fun vs H Q E h => absurd h no, fun A outer s H args us vs Q E _ _ _ _ h => absurd h no⟩
theorem step_law_equal (T : Top K mg) (n k : Nat) (G_law_equal : ∀ m, m + 1 = n → FnOk P w K mg base CX0 k T.a_law_equal T.d_law_equal ["actual", "due"] (sp_law_equal K m)) : FnOk P w K mg base CX0 (k + 1) T.a_law_equal T.d_law_equal ["actual", "due"] (sp_law_equal K n) := by
  have no0 : FnOk P w K mg base CX0 k T.a_law_equal T.d_law_equal ["actual", "due"] (fun _ _ _ _ => False) := ⟨fun vs H Q E h => h.elim, fun A outer s H args us vs Q E _ _ _ _ h => h.elim⟩
  have G_law_equal : FnOk P w K mg base CX0 k T.a_law_equal T.d_law_equal ["actual", "due"] (fun vs H Q E => ∃ m, m + 1 = n ∧ sp_law_equal K m vs H Q E) := by
    cases n with
    | zero => exact no0.imp fun vs H Q E ⟨m, h, _⟩ => by omega
    | succ n =>
      refine (G_law_equal n rfl).imp fun vs H Q E h => ?_
      obtain ⟨m, h, q⟩ := h
      have e : m = n := by omega
      subst e
      exact q
  refine T.F_law_equal.ok sc_law_equal (fun vs H Q E h => ?_) (fun cdv A outer s H vs Q E hr h => ?_)
  · obtain ⟨x, y, d, rfl, _⟩ := h
    rfl
  obtain ⟨x, y, d, rfl, hx, hy, hsh, q⟩ := h
  refine ⟨_, (pss_cons (ps_if (pt_cmpR op_isN (pv 1) pe_non (nomark _))
        (pss_one (ps_ret (pe_cmpR op_isN (pv 0) pe_non (nomark _))))
        pss_nil)
      (pss_cons (ps_if (pt_val (pe_callB call_isi (by rfl) T.z_isinstance (by decide +kernel) (pa_cons (pv 1) (pa_cons (pe_bltn (v := .ty "bool") (u := .type "bool") (by rfl) T.z_bool (by decide +kernel) rfl) pa_nil))))
        (pss_one (ps_ret (pe_and (pe_callB call_isi (by rfl) T.z_isinstance (by decide +kernel) (pa_cons (pv 0) (pa_cons (pe_bltn (v := .ty "bool") (u := .type "bool") (by rfl) T.z_bool (by decide +kernel) rfl) pa_nil))) (pe_one (pe_cmpR op_eq (pv 0) (pv 1) (nomark _))))))
        pss_nil)
      (pss_cons (ps_if (pt_val (pe_callB call_isi (by rfl) T.z_isinstance (by decide +kernel) (pa_cons (pv 1) (pa_cons (pe_bltn (v := .ty "int") (u := .type "int") (by rfl) T.z_int (by decide +kernel) rfl) pa_nil))))
        (pss_one (ps_ret (pe_and (pe_callB call_isi (by rfl) T.z_isinstance (by decide +kernel) (pa_cons (pv 0) (pa_cons (pe_bltn (v := .ty "int") (u := .type "int") (by rfl) T.z_int (by decide +kernel) rfl) pa_nil))) (pe_and (pe_not (pe_callB call_isi (by rfl) T.z_isinstance (by decide +kernel) (pa_cons (pv 0) (pa_cons (pe_bltn (v := .ty "bool") (u := .type "bool") (by rfl) T.z_bool (by decide +kernel) rfl) pa_nil)))) (pe_one (pe_cmpR op_eq (pv 0) (pv 1) (nomark _)))))))
        pss_nil)
      (pss_cons (ps_if (pt_val (pe_callB call_isi (by rfl) T.z_isinstance (by decide +kernel) (pa_cons (pv 1) (pa_cons (pe_bltn (v := .ty "str") (u := .type "str") (by rfl) T.z_str (by decide +kernel) rfl) pa_nil))))
        (pss_one (ps_ret (pe_and (pe_callB call_isi (by rfl) T.z_isinstance (by decide +kernel) (pa_cons (pv 0) (pa_cons (pe_bltn (v := .ty "str") (u := .type "str") (by rfl) T.z_str (by decide +kernel) rfl) pa_nil))) (pe_one (pe_cmpR op_eq (pv 0) (pv 1) (nomark _))))))
        pss_nil)
      (pss_cons (ps_if (PW.pt (pw_and (pt_val (pe_callB call_isi (by rfl) T.z_isinstance (by decide +kernel) (pa_cons (pv 1) (pa_cons (pe_bltn (v := .ty "tuple") (u := .type "tuple") (by rfl) T.z_tuple (by decide +kernel) rfl) pa_nil)))) (pw_and1 (pt_not (pt_val (pe_callB call_isi (by rfl) T.z_isinstance (by decide +kernel) (pa_cons (pv 0) (pa_cons (pe_bltn (v := .ty "tuple") (u := .type "tuple") (by rfl) T.z_tuple (by decide +kernel) rfl) pa_nil))))))))
        (pss_one (ps_ret pe_bl))
        pss_nil)
      (pss_cons (ps_if (PW.pt (pw_and (pt_val (pe_callB call_isi (by rfl) T.z_isinstance (by decide +kernel) (pa_cons (pv 1) (pa_cons (pe_bltn (v := .ty "list") (u := .type "list") (by rfl) T.z_list (by decide +kernel) rfl) pa_nil)))) (pw_and1 (pt_not (pt_val (pe_callB call_isi (by rfl) T.z_isinstance (by decide +kernel) (pa_cons (pv 0) (pa_cons (pe_bltn (v := .ty "list") (u := .type "list") (by rfl) T.z_list (by decide +kernel) rfl) pa_nil))))))))
        (pss_one (ps_ret pe_bl))
        pss_nil)
      (pss_cons (ps_if (pt_cmpR op_ne (pe_callB call_len_seq (by rfl) T.z_len (by decide +kernel) (pa_cons (pv 0) pa_nil)) (pe_callB call_len_seq (by rfl) T.z_len (by decide +kernel) (pa_cons (pv 1) pa_nil)) (nomark _))
        (pss_one (ps_ret pe_bl))
        pss_nil)
      (pss_cons (ps_for PassesOwn.never rfl (pi_range1 (by rfl) T.z_range (pa_cons (pe_callB call_len_seq (by rfl) T.z_len (by decide +kernel) (pa_cons (pv 1) pa_nil)) pa_nil)) (pg_name (i := 2) sc_law_equal.nd rfl (Or.inl rfl))
        (pss_one (ps_if (pt_not (pt_val (pe_call G_law_equal hr (by rfl) T.m_law_equal T.F_law_equal.kp T.b_law_equal .nil pass0 (pa_cons (pe_ix (IxR.or ix_list ix_tup) (pv 0) (pv 2) (fun _ _ => rfl)) (pa_cons (pe_ix (IxR.or ix_list ix_tup) (pv 1) (pv 2) (fun _ _ => rfl)) pa_nil)))))
        (pss_one (ps_ret pe_bl))
        pss_nil)))
      (pss_one (ps_ret pe_bl)))))))))), ?_⟩
  -- the end over a list or a tuple
  cases d with
  | none =>
    cases hx
    cases hy
    (repeat (first
      | refine ⟨_, rfl, ?_⟩
      | refine ⟨_, _, rfl, rfl, ?_⟩
      | refine Or.inl ⟨_, rfl, ?_⟩
      | refine Or.inr ⟨_, rfl, ?_⟩
      | refine ⟨Or.inl ⟨by decide, by decide⟩, ?_⟩
      | refine ⟨Or.inr ⟨by decide, by decide⟩, ?_⟩
      | refine ⟨⟨by decide, by decide⟩, ?_⟩
      | refine ⟨⟨by decide, by decide, by decide⟩, ?_⟩
      | refine ⟨by decide, ?_⟩
      | refine ⟨(by show (0 : Int) < _; decide), ?_⟩
      | refine ⟨rfl, ?_⟩
      | refine ⟨⟨_, rfl⟩, ?_⟩
      | refine ⟨_, rfl, rfl, trivial, ?_⟩
      | refine ⟨_, _, rfl, ?_⟩))
    exact q
  | bool b =>
    cases hx
    cases hy
    (repeat (first
      | refine ⟨_, rfl, ?_⟩
      | refine ⟨_, _, rfl, rfl, ?_⟩
      | refine Or.inl ⟨_, rfl, ?_⟩
      | refine Or.inr ⟨_, rfl, ?_⟩
      | refine ⟨Or.inl ⟨by decide, by decide⟩, ?_⟩
      | refine ⟨Or.inr ⟨by decide, by decide⟩, ?_⟩
      | refine ⟨⟨by decide, by decide⟩, ?_⟩
      | refine ⟨⟨by decide, by decide, by decide⟩, ?_⟩
      | refine ⟨by decide, ?_⟩
      | refine ⟨(by show (0 : Int) < _; decide), ?_⟩
      | refine ⟨rfl, ?_⟩
      | refine ⟨⟨_, rfl⟩, ?_⟩
      | refine ⟨_, rfl, rfl, trivial, ?_⟩
      | refine ⟨_, _, rfl, ?_⟩))
    refine ⟨_, _, _, _, true, rfl, .ty _, Dp.ty (.bl b), isi_e "bool" "bool" true rfl (by decide +kernel), ?_⟩
    (repeat (first
      | refine ⟨_, rfl, ?_⟩
      | refine ⟨_, _, rfl, rfl, ?_⟩
      | refine Or.inl ⟨_, rfl, ?_⟩
      | refine Or.inr ⟨_, rfl, ?_⟩
      | refine ⟨Or.inl ⟨by decide, by decide⟩, ?_⟩
      | refine ⟨Or.inr ⟨by decide, by decide⟩, ?_⟩
      | refine ⟨⟨by decide, by decide⟩, ?_⟩
      | refine ⟨⟨by decide, by decide, by decide⟩, ?_⟩
      | refine ⟨by decide, ?_⟩
      | refine ⟨(by show (0 : Int) < _; decide), ?_⟩
      | refine ⟨rfl, ?_⟩
      | refine ⟨⟨_, rfl⟩, ?_⟩
      | refine ⟨_, rfl, rfl, trivial, ?_⟩
      | refine ⟨_, _, rfl, ?_⟩))
    refine ⟨_, _, _, _, true, rfl, .ty _, Dp.ty (.bl b), isi_e "bool" "bool" true rfl (by decide +kernel), ?_⟩
    (repeat (first
      | refine ⟨_, rfl, ?_⟩
      | refine ⟨_, _, rfl, rfl, ?_⟩
      | refine Or.inl ⟨_, rfl, ?_⟩
      | refine Or.inr ⟨_, rfl, ?_⟩
      | refine ⟨Or.inl ⟨by decide, by decide⟩, ?_⟩
      | refine ⟨Or.inr ⟨by decide, by decide⟩, ?_⟩
      | refine ⟨⟨by decide, by decide⟩, ?_⟩
      | refine ⟨⟨by decide, by decide, by decide⟩, ?_⟩
      | refine ⟨by decide, ?_⟩
      | refine ⟨(by show (0 : Int) < _; decide), ?_⟩
      | refine ⟨rfl, ?_⟩
      | refine ⟨⟨_, rfl⟩, ?_⟩
      | refine ⟨_, rfl, rfl, trivial, ?_⟩
      | refine ⟨_, _, rfl, ?_⟩))
    rw [decide_eq_true rfl]
    exact q
  | int b =>
    cases hx
    cases hy
    (repeat (first
      | refine ⟨_, rfl, ?_⟩
      | refine ⟨_, _, rfl, rfl, ?_⟩
      | refine Or.inl ⟨_, rfl, ?_⟩
      | refine Or.inr ⟨_, rfl, ?_⟩
      | refine ⟨Or.inl ⟨by decide, by decide⟩, ?_⟩
      | refine ⟨Or.inr ⟨by decide, by decide⟩, ?_⟩
      | refine ⟨⟨by decide, by decide⟩, ?_⟩
      | refine ⟨⟨by decide, by decide, by decide⟩, ?_⟩
      | refine ⟨by decide, ?_⟩
      | refine ⟨(by show (0 : Int) < _; decide), ?_⟩
      | refine ⟨rfl, ?_⟩
      | refine ⟨⟨_, rfl⟩, ?_⟩
      | refine ⟨_, rfl, rfl, trivial, ?_⟩
      | refine ⟨_, _, rfl, ?_⟩))
    refine ⟨_, _, _, _, false, rfl, .ty _, Dp.ty (.int b), isi_e "int" "bool" false rfl (by decide +kernel), ?_⟩
    (repeat (first
      | refine ⟨_, rfl, ?_⟩
      | refine ⟨_, _, rfl, rfl, ?_⟩
      | refine Or.inl ⟨_, rfl, ?_⟩
      | refine Or.inr ⟨_, rfl, ?_⟩
      | refine ⟨Or.inl ⟨by decide, by decide⟩, ?_⟩
      | refine ⟨Or.inr ⟨by decide, by decide⟩, ?_⟩
      | refine ⟨⟨by decide, by decide⟩, ?_⟩
      | refine ⟨⟨by decide, by decide, by decide⟩, ?_⟩
      | refine ⟨by decide, ?_⟩
      | refine ⟨(by show (0 : Int) < _; decide), ?_⟩
      | refine ⟨rfl, ?_⟩
      | refine ⟨⟨_, rfl⟩, ?_⟩
      | refine ⟨_, rfl, rfl, trivial, ?_⟩
      | refine ⟨_, _, rfl, ?_⟩))
    refine ⟨_, _, _, _, true, rfl, .ty _, Dp.ty (.int b), isi_e "int" "int" true rfl (by decide +kernel), ?_⟩
    (repeat (first
      | refine ⟨_, rfl, ?_⟩
      | refine ⟨_, _, rfl, rfl, ?_⟩
      | refine Or.inl ⟨_, rfl, ?_⟩
      | refine Or.inr ⟨_, rfl, ?_⟩
      | refine ⟨Or.inl ⟨by decide, by decide⟩, ?_⟩
      | refine ⟨Or.inr ⟨by decide, by decide⟩, ?_⟩
      | refine ⟨⟨by decide, by decide⟩, ?_⟩
      | refine ⟨⟨by decide, by decide, by decide⟩, ?_⟩
      | refine ⟨by decide, ?_⟩
      | refine ⟨(by show (0 : Int) < _; decide), ?_⟩
      | refine ⟨rfl, ?_⟩
      | refine ⟨⟨_, rfl⟩, ?_⟩
      | refine ⟨_, rfl, rfl, trivial, ?_⟩
      | refine ⟨_, _, rfl, ?_⟩))
    refine ⟨_, _, _, _, true, rfl, .ty _, Dp.ty (.int b), isi_e "int" "int" true rfl (by decide +kernel), ?_⟩
    (repeat (first
      | refine ⟨_, rfl, ?_⟩
      | refine ⟨_, _, rfl, rfl, ?_⟩
      | refine Or.inl ⟨_, rfl, ?_⟩
      | refine Or.inr ⟨_, rfl, ?_⟩
      | refine ⟨Or.inl ⟨by decide, by decide⟩, ?_⟩
      | refine ⟨Or.inr ⟨by decide, by decide⟩, ?_⟩
      | refine ⟨⟨by decide, by decide⟩, ?_⟩
      | refine ⟨⟨by decide, by decide, by decide⟩, ?_⟩
      | refine ⟨by decide, ?_⟩
      | refine ⟨(by show (0 : Int) < _; decide), ?_⟩
      | refine ⟨rfl, ?_⟩
      | refine ⟨⟨_, rfl⟩, ?_⟩
      | refine ⟨_, rfl, rfl, trivial, ?_⟩
      | refine ⟨_, _, rfl, ?_⟩))
    refine ⟨_, _, _, _, false, rfl, .ty _, Dp.ty (.int b), isi_e "int" "bool" false rfl (by decide +kernel), ?_⟩
    (repeat (first
      | refine ⟨_, rfl, ?_⟩
      | refine ⟨_, _, rfl, rfl, ?_⟩
      | refine Or.inl ⟨_, rfl, ?_⟩
      | refine Or.inr ⟨_, rfl, ?_⟩
      | refine ⟨Or.inl ⟨by decide, by decide⟩, ?_⟩
      | refine ⟨Or.inr ⟨by decide, by decide⟩, ?_⟩
      | refine ⟨⟨by decide, by decide⟩, ?_⟩
      | refine ⟨⟨by decide, by decide, by decide⟩, ?_⟩
      | refine ⟨by decide, ?_⟩
      | refine ⟨(by show (0 : Int) < _; decide), ?_⟩
      | refine ⟨rfl, ?_⟩
      | refine ⟨⟨_, rfl⟩, ?_⟩
      | refine ⟨_, rfl, rfl, trivial, ?_⟩
      | refine ⟨_, _, rfl, ?_⟩))
    rw [decide_eq_true rfl]
    exact q
  | str b =>
    cases hx
    cases hy
    (repeat (first
      | refine ⟨_, rfl, ?_⟩
      | refine ⟨_, _, rfl, rfl, ?_⟩
      | refine Or.inl ⟨_, rfl, ?_⟩
      | refine Or.inr ⟨_, rfl, ?_⟩
      | refine ⟨Or.inl ⟨by decide, by decide⟩, ?_⟩
      | refine ⟨Or.inr ⟨by decide, by decide⟩, ?_⟩
      | refine ⟨⟨by decide, by decide⟩, ?_⟩
      | refine ⟨⟨by decide, by decide, by decide⟩, ?_⟩
      | refine ⟨by decide, ?_⟩
      | refine ⟨(by show (0 : Int) < _; decide), ?_⟩
      | refine ⟨rfl, ?_⟩
      | refine ⟨⟨_, rfl⟩, ?_⟩
      | refine ⟨_, rfl, rfl, trivial, ?_⟩
      | refine ⟨_, _, rfl, ?_⟩))
    refine ⟨_, _, _, _, false, rfl, .ty _, Dp.ty (.str b), isi_e "str" "bool" false rfl (by decide +kernel), ?_⟩
    (repeat (first
      | refine ⟨_, rfl, ?_⟩
      | refine ⟨_, _, rfl, rfl, ?_⟩
      | refine Or.inl ⟨_, rfl, ?_⟩
      | refine Or.inr ⟨_, rfl, ?_⟩
      | refine ⟨Or.inl ⟨by decide, by decide⟩, ?_⟩
      | refine ⟨Or.inr ⟨by decide, by decide⟩, ?_⟩
      | refine ⟨⟨by decide, by decide⟩, ?_⟩
      | refine ⟨⟨by decide, by decide, by decide⟩, ?_⟩
      | refine ⟨by decide, ?_⟩
      | refine ⟨(by show (0 : Int) < _; decide), ?_⟩
      | refine ⟨rfl, ?_⟩
      | refine ⟨⟨_, rfl⟩, ?_⟩
      | refine ⟨_, rfl, rfl, trivial, ?_⟩
      | refine ⟨_, _, rfl, ?_⟩))
    refine ⟨_, _, _, _, false, rfl, .ty _, Dp.ty (.str b), isi_e "str" "int" false rfl (by decide +kernel), ?_⟩
    (repeat (first
      | refine ⟨_, rfl, ?_⟩
      | refine ⟨_, _, rfl, rfl, ?_⟩
      | refine Or.inl ⟨_, rfl, ?_⟩
      | refine Or.inr ⟨_, rfl, ?_⟩
      | refine ⟨Or.inl ⟨by decide, by decide⟩, ?_⟩
      | refine ⟨Or.inr ⟨by decide, by decide⟩, ?_⟩
      | refine ⟨⟨by decide, by decide⟩, ?_⟩
      | refine ⟨⟨by decide, by decide, by decide⟩, ?_⟩
      | refine ⟨by decide, ?_⟩
      | refine ⟨(by show (0 : Int) < _; decide), ?_⟩
      | refine ⟨rfl, ?_⟩
      | refine ⟨⟨_, rfl⟩, ?_⟩
      | refine ⟨_, rfl, rfl, trivial, ?_⟩
      | refine ⟨_, _, rfl, ?_⟩))
    refine ⟨_, _, _, _, true, rfl, .ty _, Dp.ty (.str b), isi_e "str" "str" true rfl (by decide +kernel), ?_⟩
    (repeat (first
      | refine ⟨_, rfl, ?_⟩
      | refine ⟨_, _, rfl, rfl, ?_⟩
      | refine Or.inl ⟨_, rfl, ?_⟩
      | refine Or.inr ⟨_, rfl, ?_⟩
      | refine ⟨Or.inl ⟨by decide, by decide⟩, ?_⟩
      | refine ⟨Or.inr ⟨by decide, by decide⟩, ?_⟩
      | refine ⟨⟨by decide, by decide⟩, ?_⟩
      | refine ⟨⟨by decide, by decide, by decide⟩, ?_⟩
      | refine ⟨by decide, ?_⟩
      | refine ⟨(by show (0 : Int) < _; decide), ?_⟩
      | refine ⟨rfl, ?_⟩
      | refine ⟨⟨_, rfl⟩, ?_⟩
      | refine ⟨_, rfl, rfl, trivial, ?_⟩
      | refine ⟨_, _, rfl, ?_⟩))
    refine ⟨_, _, _, _, true, rfl, .ty _, Dp.ty (.str b), isi_e "str" "str" true rfl (by decide +kernel), ?_⟩
    (repeat (first
      | refine ⟨_, rfl, ?_⟩
      | refine ⟨_, _, rfl, rfl, ?_⟩
      | refine Or.inl ⟨_, rfl, ?_⟩
      | refine Or.inr ⟨_, rfl, ?_⟩
      | refine ⟨Or.inl ⟨by decide, by decide⟩, ?_⟩
      | refine ⟨Or.inr ⟨by decide, by decide⟩, ?_⟩
      | refine ⟨⟨by decide, by decide⟩, ?_⟩
      | refine ⟨⟨by decide, by decide, by decide⟩, ?_⟩
      | refine ⟨by decide, ?_⟩
      | refine ⟨(by show (0 : Int) < _; decide), ?_⟩
      | refine ⟨rfl, ?_⟩
      | refine ⟨⟨_, rfl⟩, ?_⟩
      | refine ⟨_, rfl, rfl, trivial, ?_⟩
      | refine ⟨_, _, rfl, ?_⟩))
    rw [decide_eq_true rfl]
    exact q
  | dict kvs => cases hx
  | list ds =>
    cases n with
    | zero => exact hsh.elim
    | succ n =>
    obtain ⟨hl, hsh⟩ := (show ds.length ≤ 1000000 ∧ ∀ x ∈ ds, Sh n x from hsh)
    have hx' := hx
    have hy' := hy
    cases hx with
    | @lst a xs _ hX hxs =>
    cases hy with
    | @lst b ys _ hY hys =>
    have lx := DpAll.len hxs
    have ly := DpAll.len hys
    (repeat (first
      | refine ⟨_, rfl, ?_⟩
      | refine ⟨_, _, rfl, rfl, ?_⟩
      | refine Or.inl ⟨_, rfl, ?_⟩
      | refine Or.inr ⟨_, rfl, ?_⟩
      | refine ⟨Or.inl ⟨by decide, by decide⟩, ?_⟩
      | refine ⟨Or.inr ⟨by decide, by decide⟩, ?_⟩
      | refine ⟨⟨by decide, by decide⟩, ?_⟩
      | refine ⟨⟨by decide, by decide, by decide⟩, ?_⟩
      | refine ⟨by decide, ?_⟩
      | refine ⟨(by show (0 : Int) < _; decide), ?_⟩
      | refine ⟨rfl, ?_⟩
      | refine ⟨⟨_, rfl⟩, ?_⟩
      | refine ⟨_, rfl, rfl, trivial, ?_⟩
      | refine ⟨_, _, rfl, ?_⟩))
    refine ⟨_, _, _, _, false, rfl, .ty _, Dp.ty hy', isi_e "list" "bool" false rfl (by decide +kernel), ?_⟩
    (repeat (first
      | refine ⟨_, rfl, ?_⟩
      | refine ⟨_, _, rfl, rfl, ?_⟩
      | refine Or.inl ⟨_, rfl, ?_⟩
      | refine Or.inr ⟨_, rfl, ?_⟩
      | refine ⟨Or.inl ⟨by decide, by decide⟩, ?_⟩
      | refine ⟨Or.inr ⟨by decide, by decide⟩, ?_⟩
      | refine ⟨⟨by decide, by decide⟩, ?_⟩
      | refine ⟨⟨by decide, by decide, by decide⟩, ?_⟩
      | refine ⟨by decide, ?_⟩
      | refine ⟨(by show (0 : Int) < _; decide), ?_⟩
      | refine ⟨rfl, ?_⟩
      | refine ⟨⟨_, rfl⟩, ?_⟩
      | refine ⟨_, rfl, rfl, trivial, ?_⟩
      | refine ⟨_, _, rfl, ?_⟩))
    refine ⟨_, _, _, _, false, rfl, .ty _, Dp.ty hy', isi_e "list" "int" false rfl (by decide +kernel), ?_⟩
    (repeat (first
      | refine ⟨_, rfl, ?_⟩
      | refine ⟨_, _, rfl, rfl, ?_⟩
      | refine Or.inl ⟨_, rfl, ?_⟩
      | refine Or.inr ⟨_, rfl, ?_⟩
      | refine ⟨Or.inl ⟨by decide, by decide⟩, ?_⟩
      | refine ⟨Or.inr ⟨by decide, by decide⟩, ?_⟩
      | refine ⟨⟨by decide, by decide⟩, ?_⟩
      | refine ⟨⟨by decide, by decide, by decide⟩, ?_⟩
      | refine ⟨by decide, ?_⟩
      | refine ⟨(by show (0 : Int) < _; decide), ?_⟩
      | refine ⟨rfl, ?_⟩
      | refine ⟨⟨_, rfl⟩, ?_⟩
      | refine ⟨_, rfl, rfl, trivial, ?_⟩
      | refine ⟨_, _, rfl, ?_⟩))
    refine ⟨_, _, _, _, false, rfl, .ty _, Dp.ty hy', isi_e "list" "str" false rfl (by decide +kernel), ?_⟩
    (repeat (first
      | refine ⟨_, rfl, ?_⟩
      | refine ⟨_, _, rfl, rfl, ?_⟩
      | refine Or.inl ⟨_, rfl, ?_⟩
      | refine Or.inr ⟨_, rfl, ?_⟩
      | refine ⟨Or.inl ⟨by decide, by decide⟩, ?_⟩
      | refine ⟨Or.inr ⟨by decide, by decide⟩, ?_⟩
      | refine ⟨⟨by decide, by decide⟩, ?_⟩
      | refine ⟨⟨by decide, by decide, by decide⟩, ?_⟩
      | refine ⟨by decide, ?_⟩
      | refine ⟨(by show (0 : Int) < _; decide), ?_⟩
      | refine ⟨rfl, ?_⟩
      | refine ⟨⟨_, rfl⟩, ?_⟩
      | refine ⟨_, rfl, rfl, trivial, ?_⟩
      | refine ⟨_, _, rfl, ?_⟩))
    refine ⟨_, _, _, _, false, rfl, .ty _, Dp.ty hy', isi_e "list" "tuple" false rfl (by decide +kernel), ?_⟩
    (repeat (first
      | refine ⟨_, rfl, ?_⟩
      | refine ⟨_, _, rfl, rfl, ?_⟩
      | refine Or.inl ⟨_, rfl, ?_⟩
      | refine Or.inr ⟨_, rfl, ?_⟩
      | refine ⟨Or.inl ⟨by decide, by decide⟩, ?_⟩
      | refine ⟨Or.inr ⟨by decide, by decide⟩, ?_⟩
      | refine ⟨⟨by decide, by decide⟩, ?_⟩
      | refine ⟨⟨by decide, by decide, by decide⟩, ?_⟩
      | refine ⟨by decide, ?_⟩
      | refine ⟨(by show (0 : Int) < _; decide), ?_⟩
      | refine ⟨rfl, ?_⟩
      | refine ⟨⟨_, rfl⟩, ?_⟩
      | refine ⟨_, rfl, rfl, trivial, ?_⟩
      | refine ⟨_, _, rfl, ?_⟩))
    refine ⟨_, _, _, _, true, rfl, .ty _, Dp.ty hy', isi_e "list" "list" true rfl (by decide +kernel), ?_⟩
    (repeat (first
      | refine ⟨_, rfl, ?_⟩
      | refine ⟨_, _, rfl, rfl, ?_⟩
      | refine Or.inl ⟨_, rfl, ?_⟩
      | refine Or.inr ⟨_, rfl, ?_⟩
      | refine ⟨Or.inl ⟨by decide, by decide⟩, ?_⟩
      | refine ⟨Or.inr ⟨by decide, by decide⟩, ?_⟩
      | refine ⟨⟨by decide, by decide⟩, ?_⟩
      | refine ⟨⟨by decide, by decide, by decide⟩, ?_⟩
      | refine ⟨by decide, ?_⟩
      | refine ⟨(by show (0 : Int) < _; decide), ?_⟩
      | refine ⟨rfl, ?_⟩
      | refine ⟨⟨_, rfl⟩, ?_⟩
      | refine ⟨_, rfl, rfl, trivial, ?_⟩
      | refine ⟨_, _, rfl, ?_⟩))
    refine ⟨_, _, _, _, true, rfl, .ty _, Dp.ty hx', isi_e "list" "list" true rfl (by decide +kernel), ?_⟩
    (repeat (first
      | refine ⟨_, rfl, ?_⟩
      | refine ⟨_, _, rfl, rfl, ?_⟩
      | refine Or.inl ⟨_, rfl, ?_⟩
      | refine Or.inr ⟨_, rfl, ?_⟩
      | refine ⟨Or.inl ⟨by decide, by decide⟩, ?_⟩
      | refine ⟨Or.inr ⟨by decide, by decide⟩, ?_⟩
      | refine ⟨⟨by decide, by decide⟩, ?_⟩
      | refine ⟨⟨by decide, by decide, by decide⟩, ?_⟩
      | refine ⟨by decide, ?_⟩
      | refine ⟨(by show (0 : Int) < _; decide), ?_⟩
      | refine ⟨rfl, ?_⟩
      | refine ⟨⟨_, rfl⟩, ?_⟩
      | refine ⟨_, rfl, rfl, trivial, ?_⟩
      | refine ⟨_, _, rfl, ?_⟩))
    refine ⟨a, _, rfl, .inl hX, _, rfl, b, _, rfl, .inl hY, rfl, ?_⟩
    (repeat (first
      | refine ⟨_, rfl, ?_⟩
      | refine ⟨_, _, rfl, rfl, ?_⟩
      | refine Or.inl ⟨_, rfl, ?_⟩
      | refine Or.inr ⟨_, rfl, ?_⟩
      | refine ⟨Or.inl ⟨by decide, by decide⟩, ?_⟩
      | refine ⟨Or.inr ⟨by decide, by decide⟩, ?_⟩
      | refine ⟨⟨by decide, by decide⟩, ?_⟩
      | refine ⟨⟨by decide, by decide, by decide⟩, ?_⟩
      | refine ⟨by decide, ?_⟩
      | refine ⟨(by show (0 : Int) < _; decide), ?_⟩
      | refine ⟨rfl, ?_⟩
      | refine ⟨⟨_, rfl⟩, ?_⟩
      | refine ⟨_, rfl, rfl, trivial, ?_⟩
      | refine ⟨_, _, rfl, ?_⟩))
    refine iteNS (by rw [lx, ly]) ?_
    refine ⟨_, rfl, b, _, rfl, .inl hY, _, rfl, by omega, by omega, ?_⟩
    have en : ((ys.length : Nat) : Int).toNat = ds.length := by rw [ly]; rfl
    rw [en]
    refine for_range (lo := 0) (n := ds.length) (fun j σ H' => ∃ (y2 : Option V), σ = [some (.ref a), some (.ref b), y2] ∧ H' = H) ⟨_, rfl, rfl⟩ ?_ ?_
    · rintro j σ H' hj ⟨y2, rfl, rfl⟩
      obtain ⟨u, v, d, eu, ev, du, dv, ds'⟩ := seq_equal hxs hys hsh j hj
      have e0 : (0 : Int) + (j : Int) = (j : Int) := Int.zero_add _
      rw [e0]
      refine ⟨_, rfl, _, rfl, .inl ⟨a, _, _, _, rfl, rfl, hX, atI_nat eu, ?_⟩⟩
      refine ⟨_, rfl, _, rfl, .inl ⟨b, _, _, _, rfl, rfl, hY, atI_nat ev, ?_⟩⟩
      refine ⟨n, rfl, u, v, d, rfl, du, dv, ds', ?_⟩
      refine ⟨_, rfl, ?_⟩
      refine ifF ?_
      exact ⟨_, rfl, rfl⟩
    · rintro σ H' ⟨y2, rfl, rfl⟩
      exact q
  | tuple ds =>
    cases n with
    | zero => exact hsh.elim
    | succ n =>
    obtain ⟨hl, hsh⟩ := (show ds.length ≤ 1000000 ∧ ∀ x ∈ ds, Sh n x from hsh)
    have hx' := hx
    have hy' := hy
    cases hx with
    | @tup a xs _ hX hxs =>
    cases hy with
    | @tup b ys _ hY hys =>
    have lx := DpAll.len hxs
    have ly := DpAll.len hys
    (repeat (first
      | refine ⟨_, rfl, ?_⟩
      | refine ⟨_, _, rfl, rfl, ?_⟩
      | refine Or.inl ⟨_, rfl, ?_⟩
      | refine Or.inr ⟨_, rfl, ?_⟩
      | refine ⟨Or.inl ⟨by decide, by decide⟩, ?_⟩
      | refine ⟨Or.inr ⟨by decide, by decide⟩, ?_⟩
      | refine ⟨⟨by decide, by decide⟩, ?_⟩
      | refine ⟨⟨by decide, by decide, by decide⟩, ?_⟩
      | refine ⟨by decide, ?_⟩
      | refine ⟨(by show (0 : Int) < _; decide), ?_⟩
      | refine ⟨rfl, ?_⟩
      | refine ⟨⟨_, rfl⟩, ?_⟩
      | refine ⟨_, rfl, rfl, trivial, ?_⟩
      | refine ⟨_, _, rfl, ?_⟩))
    refine ⟨_, _, _, _, false, rfl, .ty _, Dp.ty hy', isi_e "tuple" "bool" false rfl (by decide +kernel), ?_⟩
    (repeat (first
      | refine ⟨_, rfl, ?_⟩
      | refine ⟨_, _, rfl, rfl, ?_⟩
      | refine Or.inl ⟨_, rfl, ?_⟩
      | refine Or.inr ⟨_, rfl, ?_⟩
      | refine ⟨Or.inl ⟨by decide, by decide⟩, ?_⟩
      | refine ⟨Or.inr ⟨by decide, by decide⟩, ?_⟩
      | refine ⟨⟨by decide, by decide⟩, ?_⟩
      | refine ⟨⟨by decide, by decide, by decide⟩, ?_⟩
      | refine ⟨by decide, ?_⟩
      | refine ⟨(by show (0 : Int) < _; decide), ?_⟩
      | refine ⟨rfl, ?_⟩
      | refine ⟨⟨_, rfl⟩, ?_⟩
      | refine ⟨_, rfl, rfl, trivial, ?_⟩
      | refine ⟨_, _, rfl, ?_⟩))
    refine ⟨_, _, _, _, false, rfl, .ty _, Dp.ty hy', isi_e "tuple" "int" false rfl (by decide +kernel), ?_⟩
    (repeat (first
      | refine ⟨_, rfl, ?_⟩
      | refine ⟨_, _, rfl, rfl, ?_⟩
      | refine Or.inl ⟨_, rfl, ?_⟩
      | refine Or.inr ⟨_, rfl, ?_⟩
      | refine ⟨Or.inl ⟨by decide, by decide⟩, ?_⟩
      | refine ⟨Or.inr ⟨by decide, by decide⟩, ?_⟩
      | refine ⟨⟨by decide, by decide⟩, ?_⟩
      | refine ⟨⟨by decide, by decide, by decide⟩, ?_⟩
      | refine ⟨by decide, ?_⟩
      | refine ⟨(by show (0 : Int) < _; decide), ?_⟩
      | refine ⟨rfl, ?_⟩
      | refine ⟨⟨_, rfl⟩, ?_⟩
      | refine ⟨_, rfl, rfl, trivial, ?_⟩
      | refine ⟨_, _, rfl, ?_⟩))
    refine ⟨_, _, _, _, false, rfl, .ty _, Dp.ty hy', isi_e "tuple" "str" false rfl (by decide +kernel), ?_⟩
    (repeat (first
      | refine ⟨_, rfl, ?_⟩
      | refine ⟨_, _, rfl, rfl, ?_⟩
      | refine Or.inl ⟨_, rfl, ?_⟩
      | refine Or.inr ⟨_, rfl, ?_⟩
      | refine ⟨Or.inl ⟨by decide, by decide⟩, ?_⟩
      | refine ⟨Or.inr ⟨by decide, by decide⟩, ?_⟩
      | refine ⟨⟨by decide, by decide⟩, ?_⟩
      | refine ⟨⟨by decide, by decide, by decide⟩, ?_⟩
      | refine ⟨by decide, ?_⟩
      | refine ⟨(by show (0 : Int) < _; decide), ?_⟩
      | refine ⟨rfl, ?_⟩
      | refine ⟨⟨_, rfl⟩, ?_⟩
      | refine ⟨_, rfl, rfl, trivial, ?_⟩
      | refine ⟨_, _, rfl, ?_⟩))
    refine ⟨_, _, _, _, true, rfl, .ty _, Dp.ty hy', isi_e "tuple" "tuple" true rfl (by decide +kernel), ?_⟩
    (repeat (first
      | refine ⟨_, rfl, ?_⟩
      | refine ⟨_, _, rfl, rfl, ?_⟩
      | refine Or.inl ⟨_, rfl, ?_⟩
      | refine Or.inr ⟨_, rfl, ?_⟩
      | refine ⟨Or.inl ⟨by decide, by decide⟩, ?_⟩
      | refine ⟨Or.inr ⟨by decide, by decide⟩, ?_⟩
      | refine ⟨⟨by decide, by decide⟩, ?_⟩
      | refine ⟨⟨by decide, by decide, by decide⟩, ?_⟩
      | refine ⟨by decide, ?_⟩
      | refine ⟨(by show (0 : Int) < _; decide), ?_⟩
      | refine ⟨rfl, ?_⟩
      | refine ⟨⟨_, rfl⟩, ?_⟩
      | refine ⟨_, rfl, rfl, trivial, ?_⟩
      | refine ⟨_, _, rfl, ?_⟩))
    refine ⟨_, _, _, _, true, rfl, .ty _, Dp.ty hx', isi_e "tuple" "tuple" true rfl (by decide +kernel), ?_⟩
    (repeat (first
      | refine ⟨_, rfl, ?_⟩
      | refine ⟨_, _, rfl, rfl, ?_⟩
      | refine Or.inl ⟨_, rfl, ?_⟩
      | refine Or.inr ⟨_, rfl, ?_⟩
      | refine ⟨Or.inl ⟨by decide, by decide⟩, ?_⟩
      | refine ⟨Or.inr ⟨by decide, by decide⟩, ?_⟩
      | refine ⟨⟨by decide, by decide⟩, ?_⟩
      | refine ⟨⟨by decide, by decide, by decide⟩, ?_⟩
      | refine ⟨by decide, ?_⟩
      | refine ⟨(by show (0 : Int) < _; decide), ?_⟩
      | refine ⟨rfl, ?_⟩
      | refine ⟨⟨_, rfl⟩, ?_⟩
      | refine ⟨_, rfl, rfl, trivial, ?_⟩
      | refine ⟨_, _, rfl, ?_⟩))
    refine ⟨_, _, _, _, false, rfl, .ty _, Dp.ty hy', isi_e "tuple" "list" false rfl (by decide +kernel), ?_⟩
    (repeat (first
      | refine ⟨_, rfl, ?_⟩
      | refine ⟨_, _, rfl, rfl, ?_⟩
      | refine Or.inl ⟨_, rfl, ?_⟩
      | refine Or.inr ⟨_, rfl, ?_⟩
      | refine ⟨Or.inl ⟨by decide, by decide⟩, ?_⟩
      | refine ⟨Or.inr ⟨by decide, by decide⟩, ?_⟩
      | refine ⟨⟨by decide, by decide⟩, ?_⟩
      | refine ⟨⟨by decide, by decide, by decide⟩, ?_⟩
      | refine ⟨by decide, ?_⟩
      | refine ⟨(by show (0 : Int) < _; decide), ?_⟩
      | refine ⟨rfl, ?_⟩
      | refine ⟨⟨_, rfl⟩, ?_⟩
      | refine ⟨_, rfl, rfl, trivial, ?_⟩
      | refine ⟨_, _, rfl, ?_⟩))
    refine ⟨a, _, rfl, .inr hX, _, rfl, b, _, rfl, .inr hY, rfl, ?_⟩
    (repeat (first
      | refine ⟨_, rfl, ?_⟩
      | refine ⟨_, _, rfl, rfl, ?_⟩
      | refine Or.inl ⟨_, rfl, ?_⟩
      | refine Or.inr ⟨_, rfl, ?_⟩
      | refine ⟨Or.inl ⟨by decide, by decide⟩, ?_⟩
      | refine ⟨Or.inr ⟨by decide, by decide⟩, ?_⟩
      | refine ⟨⟨by decide, by decide⟩, ?_⟩
      | refine ⟨⟨by decide, by decide, by decide⟩, ?_⟩
      | refine ⟨by decide, ?_⟩
      | refine ⟨(by show (0 : Int) < _; decide), ?_⟩
      | refine ⟨rfl, ?_⟩
      | refine ⟨⟨_, rfl⟩, ?_⟩
      | refine ⟨_, rfl, rfl, trivial, ?_⟩
      | refine ⟨_, _, rfl, ?_⟩))
    refine iteNS (by rw [lx, ly]) ?_
    refine ⟨_, rfl, b, _, rfl, .inr hY, _, rfl, by omega, by omega, ?_⟩
    have en : ((ys.length : Nat) : Int).toNat = ds.length := by rw [ly]; rfl
    rw [en]
    refine for_range (lo := 0) (n := ds.length) (fun j σ H' => ∃ (y2 : Option V), σ = [some (.ref a), some (.ref b), y2] ∧ H' = H) ⟨_, rfl, rfl⟩ ?_ ?_
    · rintro j σ H' hj ⟨y2, rfl, rfl⟩
      obtain ⟨u, v, d, eu, ev, du, dv, ds'⟩ := seq_equal hxs hys hsh j hj
      have e0 : (0 : Int) + (j : Int) = (j : Int) := Int.zero_add _
      rw [e0]
      refine ⟨_, rfl, _, rfl, .inr ⟨a, _, _, _, rfl, rfl, hX, atI_nat eu, ?_⟩⟩
      refine ⟨_, rfl, _, rfl, .inr ⟨b, _, _, _, rfl, rfl, hY, atI_nat ev, ?_⟩⟩
      refine ⟨n, rfl, u, v, d, rfl, du, dv, ds', ?_⟩
      refine ⟨_, rfl, ?_⟩
      refine ifF ?_
      exact ⟨_, rfl, rfl⟩
    · rintro σ H' ⟨y2, rfl, rfl⟩
      exact q
theorem ok_law_equal (T : Top K mg) : ∀ n : Nat, FnOk P w K mg base CX0 (n + 1) T.a_law_equal T.d_law_equal ["actual", "due"] (sp_law_equal K n)
  | 0 => step_law_equal T 0 0 fun m h => by omega
  | n + 1 => step_law_equal T (n + 1) (n + 1) fun m h => by
    have e : m = n := by omega
    subst e
    exact ok_law_equal T m
end
end My

namespace My
open PySem PySem.Spec PyProof.Rows L2
section
variable {P : Program} {w : World} {K : PySem.W.Frag} {mg : Str → Option Value} {base : Heap}
theorem absN {n : Nat} : ((n : Nat) : Int).toNat = n := rfl
theorem bits_lt (n : Nat) : n < 2 ^ (Builtin.Int.intBits (n : Int)) := by
  unfold Builtin.Int.intBits
  split
  · rename_i h
    have e : n = 0 := by simpa using h
    omega
  · exact Nat.lt_log2_self
/-! ### _law_common -/
def sp_law_common : Sp := fun vs H Q _ => ∃ (a b : Nat), vs = [.int (a : Int), .int (b : Int)] ∧ b < 2 ^ 10000 ∧ Q (.int ((Nat.gcd a b : Nat) : Int)) H
theorem ok_law_common (T : Top K mg) : FnOk P w K mg base CX0 1 T.a_law_common T.d_law_common ["one", "other"] sp_law_common := by
  refine T.F_law_common.ok sc_law_common (fun vs H Q E h => ?_) (fun cdv A outer s H vs Q E hr h => ?_)
  · obtain ⟨a, b, rfl, _⟩ := h
    rfl
  obtain ⟨a, b, rfl, hbd, q⟩ := h
  have hk : Builtin.Int.intBits (b : Int) ≤ 10000 := by
    unfold Builtin.Int.intBits
    split
    · omega
    · rename_i h
      have h0 : b ≠ 0 := by simpa using h
      have := (Nat.log2_lt h0).mpr hbd
      show b.log2 + 1 ≤ _
      omega
  have hlt := bits_lt b
  refine ⟨_, (pss_cons (ps_for PassesOwn.never rfl (pi_range1 (by rfl) T.z_range (pa_cons (pe_op op_add (pe_op op_mul pe_int (pe_bits (pv 1))) pe_int) pa_nil)) (pg_name (i := 2) sc_law_common.nd rfl (Or.inl rfl))
        (pss_cons (ps_if (pt_cmpR op_eq (pv 1) pe_int (nomark _))
        (pss_one ps_break)
        pss_nil)
      (pss_cons (ps_set (i := 3) sc_law_common.nd rfl (Or.inl rfl) (pe_op op_mod (pe_callTy call_int1 (by rfl) T.z_int (by decide +kernel) (pa_cons (pv 0) pa_nil)) (pv 1)))
      (pss_cons (ps_set (i := 0) sc_law_common.nd rfl (Or.inl rfl) (pv 1))
      (pss_one (ps_set (i := 1) sc_law_common.nd rfl (Or.inl rfl) (pv 3)))))))
      (pss_one (ps_ret (pv 0)))), ?_⟩
  (repeat (first
      | refine ⟨_, rfl, ?_⟩
      | refine ⟨_, _, rfl, rfl, ?_⟩
      | refine Or.inl ⟨_, rfl, ?_⟩
      | refine Or.inr ⟨_, rfl, ?_⟩
      | refine ⟨Or.inl ⟨by decide, by decide⟩, ?_⟩
      | refine ⟨Or.inr ⟨by decide, by decide⟩, ?_⟩
      | refine ⟨⟨by decide, by decide⟩, ?_⟩
      | refine ⟨⟨by decide, by decide, by decide⟩, ?_⟩
      | refine ⟨by decide, ?_⟩
      | refine ⟨(by show (0 : Int) < _; decide), ?_⟩
      | refine ⟨rfl, ?_⟩
      | refine ⟨⟨_, rfl⟩, ?_⟩
      | refine ⟨_, rfl, rfl, trivial, ?_⟩
      | refine ⟨_, _, rfl, ?_⟩))
  generalize hK : Builtin.Int.intBits (b : Int) = k at *
  refine ⟨by omega, by omega, ?_⟩
  have en : (2 * ((k : Nat) : Int) + 3).toNat = 2 * k + 3 := by omega
  rw [en]
  refine for_range (lo := 0) (n := 2 * k + 3) (fun j σ H' => ∃ (y2 y3 : Option V) (a' b' : Nat), σ = [some (.int (a' : Int)), some (.int (b' : Int)), y2, y3] ∧ H' = H ∧ Nat.gcd a' b' = Nat.gcd a b ∧ Euc a' b' (2 * k + 3 - j) ∧ j ≤ 2 * k + 3) ?_ ?_ ?_
  · exact ⟨_, _, a, b, rfl, rfl, rfl, Euc.start hlt (by omega), by omega⟩
  · rintro j σ H' hj ⟨y2, y3, a', b', rfl, rfl, hg, he, _⟩
    (repeat (first
      | refine ⟨_, rfl, ?_⟩
      | refine ⟨_, _, rfl, rfl, ?_⟩
      | refine Or.inl ⟨_, rfl, ?_⟩
      | refine Or.inr ⟨_, rfl, ?_⟩
      | refine ⟨Or.inl ⟨by decide, by decide⟩, ?_⟩
      | refine ⟨Or.inr ⟨by decide, by decide⟩, ?_⟩
      | refine ⟨⟨by decide, by decide⟩, ?_⟩
      | refine ⟨⟨by decide, by decide, by decide⟩, ?_⟩
      | refine ⟨by decide, ?_⟩
      | refine ⟨(by show (0 : Int) < _; decide), ?_⟩
      | refine ⟨rfl, ?_⟩
      | refine ⟨⟨_, rfl⟩, ?_⟩
      | refine ⟨_, rfl, rfl, trivial, ?_⟩
      | refine ⟨_, _, rfl, ?_⟩))
    refine ite_dec (fun c => ?_) (fun c => ?_)
    · have e0 : b' = 0 := by have := V.int.inj c; omega
      subst e0
      (repeat (first
      | refine ⟨_, rfl, ?_⟩
      | refine ⟨_, _, rfl, rfl, ?_⟩
      | refine Or.inl ⟨_, rfl, ?_⟩
      | refine Or.inr ⟨_, rfl, ?_⟩
      | refine ⟨Or.inl ⟨by decide, by decide⟩, ?_⟩
      | refine ⟨Or.inr ⟨by decide, by decide⟩, ?_⟩
      | refine ⟨⟨by decide, by decide⟩, ?_⟩
      | refine ⟨⟨by decide, by decide, by decide⟩, ?_⟩
      | refine ⟨by decide, ?_⟩
      | refine ⟨(by show (0 : Int) < _; decide), ?_⟩
      | refine ⟨rfl, ?_⟩
      | refine ⟨⟨_, rfl⟩, ?_⟩
      | refine ⟨_, rfl, rfl, trivial, ?_⟩
      | refine ⟨_, _, rfl, ?_⟩))
      rw [Nat.gcd_zero_right] at hg
      rw [hg]
      exact q
    · have e0 : b' ≠ 0 := fun z => c (by rw [z]; rfl)
      (repeat (first
      | refine ⟨_, rfl, ?_⟩
      | refine ⟨_, _, rfl, rfl, ?_⟩
      | refine Or.inl ⟨_, rfl, ?_⟩
      | refine Or.inr ⟨_, rfl, ?_⟩
      | refine ⟨Or.inl ⟨by decide, by decide⟩, ?_⟩
      | refine ⟨Or.inr ⟨by decide, by decide⟩, ?_⟩
      | refine ⟨⟨by decide, by decide⟩, ?_⟩
      | refine ⟨⟨by decide, by decide, by decide⟩, ?_⟩
      | refine ⟨by decide, ?_⟩
      | refine ⟨(by show (0 : Int) < _; decide), ?_⟩
      | refine ⟨rfl, ?_⟩
      | refine ⟨⟨_, rfl⟩, ?_⟩
      | refine ⟨_, rfl, rfl, trivial, ?_⟩
      | refine ⟨_, _, rfl, ?_⟩))
      refine ⟨by show (0 : Int) < _; omega, ?_⟩
      (repeat (first
      | refine ⟨_, rfl, ?_⟩
      | refine ⟨_, _, rfl, rfl, ?_⟩
      | refine Or.inl ⟨_, rfl, ?_⟩
      | refine Or.inr ⟨_, rfl, ?_⟩
      | refine ⟨Or.inl ⟨by decide, by decide⟩, ?_⟩
      | refine ⟨Or.inr ⟨by decide, by decide⟩, ?_⟩
      | refine ⟨⟨by decide, by decide⟩, ?_⟩
      | refine ⟨⟨by decide, by decide, by decide⟩, ?_⟩
      | refine ⟨by decide, ?_⟩
      | refine ⟨(by show (0 : Int) < _; decide), ?_⟩
      | refine ⟨rfl, ?_⟩
      | refine ⟨⟨_, rfl⟩, ?_⟩
      | refine ⟨_, rfl, rfl, trivial, ?_⟩
      | refine ⟨_, _, rfl, ?_⟩))
      refine ⟨_, _, b', a' % b', rfl, rfl, ?_, ?_, by omega⟩
      · rw [← hg, Nat.gcd_comm a' b', Nat.gcd_rec b' a', Nat.gcd_comm]
      · have e1 : 2 * k + 3 - j = (2 * k + 3 - (j + 1)) + 1 := by omega
        rw [e1] at he
        exact he.next e0
  · rintro σ H' ⟨y2, y3, a', b', rfl, rfl, hg, he, _⟩
    exfalso
    rcases he.pos with z | z
    · omega
    · exact z
/-! ### _law_pair -/
def sp_law_pair : Sp := fun vs H Q _ => ∃ (t b : Int), vs = [.int t, .int b] ∧ 0 < b ∧ b.natAbs < 2 ^ 8000 ∧ ∀ p, H p = none → Q (.ref p) (upd H p (.tup [.int (red t b).1, .int (red t b).2]))
theorem ok_law_pair (T : Top K mg) : FnOk P w K mg base CX0 2 T.a_law_pair T.d_law_pair ["top", "bottom"] sp_law_pair := by
  refine T.F_law_pair.ok sc_law_pair (fun vs H Q E h => ?_) (fun cdv A outer s H vs Q E hr h => ?_)
  · obtain ⟨t, b, rfl, _⟩ := h
    rfl
  obtain ⟨t, b, rfl, h0, hb, q⟩ := h
  refine ⟨_, (pss_cons (ps_set (i := 2) sc_law_pair.nd rfl (Or.inl rfl) (pe_call ((ok_law_common T).mono (by decide)) hr (by rfl) T.m_law_common T.F_law_common.kp T.b_law_common .nil pass0 (pa_cons (pe_callB call_abs (by rfl) T.z_abs (by decide +kernel) (pa_cons (pv 0) pa_nil)) (pa_cons (pv 1) pa_nil))))
      (pss_one (ps_ret (pe_tup (pa_cons (pe_op op_fdivW (pv 0) (pv 2)) (pa_cons (pe_op op_fdivW (pv 1) (pv 2)) pa_nil)))))), ?_⟩
  have ea : (if t < 0 then -t else t) = (t.natAbs : Int) := by split <;> omega
  have eb : b = (b.natAbs : Int) := by omega
  have g0 : 0 < Nat.gcd t.natAbs b.natAbs := gcd_pos h0
  have g1 : Nat.gcd t.natAbs b.natAbs < 2 ^ 8000 := Nat.lt_of_le_of_lt (Nat.gcd_le_right _ (by omega)) hb
  have gc : ∀ x : Int, CDivW x ((Nat.gcd t.natAbs b.natAbs : Nat) : Int) := fun x => wide_div (b := 8000) (by omega) (by rw [Int.natAbs_natCast]; exact g1) (by decide) (by decide)
  (repeat (first
      | refine ⟨_, rfl, ?_⟩
      | refine ⟨_, _, rfl, rfl, ?_⟩
      | refine Or.inl ⟨_, rfl, ?_⟩
      | refine Or.inr ⟨_, rfl, ?_⟩
      | refine ⟨Or.inl ⟨by decide, by decide⟩, ?_⟩
      | refine ⟨Or.inr ⟨by decide, by decide⟩, ?_⟩
      | refine ⟨⟨by decide, by decide⟩, ?_⟩
      | refine ⟨⟨by decide, by decide, by decide⟩, ?_⟩
      | refine ⟨by decide, ?_⟩
      | refine ⟨(by show (0 : Int) < _; decide), ?_⟩
      | refine ⟨rfl, ?_⟩
      | refine ⟨⟨_, rfl⟩, ?_⟩
      | refine ⟨_, rfl, rfl, trivial, ?_⟩
      | refine ⟨_, _, rfl, ?_⟩))
  rw [ea]
  refine ⟨t.natAbs, b.natAbs, by rw [← eb]; rfl, Nat.lt_of_lt_of_le hb (Nat.pow_le_pow_right (by decide) (by decide)), ?_⟩
  (repeat (first
      | refine ⟨_, rfl, ?_⟩
      | refine ⟨_, _, rfl, rfl, ?_⟩
      | refine Or.inl ⟨_, rfl, ?_⟩
      | refine Or.inr ⟨_, rfl, ?_⟩
      | refine ⟨Or.inl ⟨by decide, by decide⟩, ?_⟩
      | refine ⟨Or.inr ⟨by decide, by decide⟩, ?_⟩
      | refine ⟨⟨by decide, by decide⟩, ?_⟩
      | refine ⟨⟨by decide, by decide, by decide⟩, ?_⟩
      | refine ⟨by decide, ?_⟩
      | refine ⟨(by show (0 : Int) < _; decide), ?_⟩
      | refine ⟨rfl, ?_⟩
      | refine ⟨⟨_, rfl⟩, ?_⟩
      | refine ⟨_, rfl, rfl, trivial, ?_⟩
      | refine ⟨_, _, rfl, ?_⟩))
  refine ⟨gc _, ?_⟩
  (repeat (first
      | refine ⟨_, rfl, ?_⟩
      | refine ⟨_, _, rfl, rfl, ?_⟩
      | refine Or.inl ⟨_, rfl, ?_⟩
      | refine Or.inr ⟨_, rfl, ?_⟩
      | refine ⟨Or.inl ⟨by decide, by decide⟩, ?_⟩
      | refine ⟨Or.inr ⟨by decide, by decide⟩, ?_⟩
      | refine ⟨⟨by decide, by decide⟩, ?_⟩
      | refine ⟨⟨by decide, by decide, by decide⟩, ?_⟩
      | refine ⟨by decide, ?_⟩
      | refine ⟨(by show (0 : Int) < _; decide), ?_⟩
      | refine ⟨rfl, ?_⟩
      | refine ⟨⟨_, rfl⟩, ?_⟩
      | refine ⟨_, rfl, rfl, trivial, ?_⟩
      | refine ⟨_, _, rfl, ?_⟩))
  refine ⟨gc _, ?_⟩
  exact ⟨(by show 2 ≤ sizeLine; decide), q⟩
end
end My

namespace My
open PySem PySem.Spec PyProof.Rows L2
section
variable {P : Program} {w : World} {K : PySem.W.Frag} {mg : Str → Option Value} {base : Heap}
/-! ### numbers -/
def Nm (K : PySem.W.Frag) (H : Hp) (p : Addr) (x : Q2) : Prop := SqT K H p [.int x.1, .int x.2]
theorem Nm.new {H : Hp} {p : Addr} {x : Q2} (h : H p = some (.tup [.int x.1, .int x.2])) : Nm K H p x := SqT.of h
theorem Nm.sx {st : Addr} {H H' : Hp} {p : Addr} {x : Q2} (e : SX st H H') (h : Nm K H p x) : Nm K H' p x := e.seqT h
theorem Nm.same {H H' : Hp} {p : Addr} {x : Q2} (e : Same H H') (h : Nm K H p x) : Nm K H' p x := My.Same.sqT e h
theorem Nm.dp {H : Hp} {p : Addr} {x : Q2} (h : Nm K H p x) : Dp K H (.ref p) (.tuple [.int x.1, .int x.2]) := .tup h (.cons (.int _) (.cons (.int _) .nil))
theorem sh_pair {x y : Int} : Sh 1 (.tuple [.int x, .int y]) := ⟨by show 2 ≤ 1000000; decide, fun d hd => by
  simp only [List.mem_cons, List.not_mem_nil, or_false] at hd
  rcases hd with rfl | rfl <;> exact True.intro⟩
end
end My

namespace My
open PySem PySem.Spec PyProof.Rows L2 NumText TL
/-! ### rules: str of great ints -/
theorem ns_none {K : PySem.W.Frag} {h : Heap} {ns : Addr} {m : Str → Option Value} {n : Str} (X : K.In h) (G : h.Ns ns m) (e : PySem.W.nsIn K ns n = some none) : m n = none := by
  obtain ⟨o, es, ep, ho, hd, _, hf⟩ := G
  unfold PySem.W.nsIn at e
  split at e
  · rename_i c d es' n' sl q
    have := X _ _ q
    rw [ho] at this
    cases this
    cases hd
    split at e
    · cases e
    · rename_i he
      rw [← hf]
      unfold nsFind findBy
      rw [← Array.find?_toList, he]
      rfl
  · cases e
theorem call_str_big {X : Cx} (hc : X.calm = true) (hd : PySem.W.nsIn X.K cStatics "sys.int_max_str_digits" = some none) : CallR X (.type "str") (fun xs H Q => ∃ i, xs = [.int i] ∧ i.natAbs < 10 ^ 4300 ∧ Q (.str (toString i)) H) := by
  intro pins s σ H xs us Q I r h
  obtain ⟨i, rfl, hz, q⟩ := h
  cases r with
  | cons r1 rr =>
    cases rr
    obtain ⟨t, rfl⟩ := r1
    obtain ⟨mc, hns, _⟩ := I.nolimit
    refine str_of_int_or (I.ok.hd hc) ⟨mc, hns, ns_none I.kIn hns hd⟩ (fun _ => ⟨.str _, H, I.tok _, ⟨_, rfl⟩, q⟩) fun h => absurd hz (Nat.not_lt.mpr h)
/-! ### texts -/
def S (l : List Nat) : Str := ⟨l.toArray⟩
theorem tl_S (l : List Nat) : tl (S l) = l := rfl
theorem S_tl (x : Str) : S (tl x) = x := mk_tl x
theorem S_app (a b : List Nat) : S a ++ S b = S (a ++ b) := ext_tl (by rw [tl_append, tl_S, tl_S, tl_S])
theorem S_len (l : List Nat) : (S l).length = l.length := by rw [len_tl, tl_S]
theorem S_num (n : Nat) : Str.ofString (toString ((n : Nat) : Int)) = S (numL n) := ext_tl (by rw [tl_num, tl_S])
theorem S_int (t : Int) : Str.ofString (toString t) = S (intL t) := by
  unfold intL
  split
  · rename_i h
    have e : toString t = "-" ++ toString (0 - t) := toString_neg h
    have e2 : (0 - t) = ((t.natAbs : Nat) : Int) := by omega
    refine ext_tl ?_
    rw [tl_S, e, e2, tl_ofString, String.toList_append, List.map_append, ← tl_ofString (toString ((t.natAbs : Nat) : Int)), tl_num]
    rfl
  · rename_i h
    have e2 : t = ((t.natAbs : Nat) : Int) := by omega
    have e3 := S_num t.natAbs
    rw [← e2] at e3
    exact e3
theorem cut_pre (x : Str) {h : Nat} (hh : h ≤ x.length) : cutS x none (some (h : Int)) = S ((tl x).take h) := by
  unfold cutS
  rw [HT.sIx_none, HT.sIx_nat, List.drop_zero, Nat.sub_zero, Nat.min_eq_left hh]
  rfl
theorem cut_mid (x : Str) (a b : Nat) : cutS x (some (a : Int)) (some (b : Int)) = S (((tl x).drop a).take (b - a)) := by
  unfold cutS
  rw [HT.sIx_nat, HT.sIx_nat]
  refine ext_tl ?_
  have hl := tl_len x
  show ((tl x).drop (min a x.length)).take (min b x.length - min a x.length) = ((tl x).drop a).take (b - a)
  by_cases ha : a ≤ x.length
  · rw [Nat.min_eq_left ha]
    by_cases hb : b ≤ x.length
    · rw [Nat.min_eq_left hb]
    · rw [Nat.min_eq_right (a := b) (b := x.length) (by omega), List.take_of_length_le (by rw [List.length_drop]; omega), List.take_of_length_le (by rw [List.length_drop]; omega)]
  · rw [Nat.min_eq_right (a := a) (b := x.length) (by omega), List.drop_eq_nil_of_le (by omega), List.drop_eq_nil_of_le (by omega)]
    simp
theorem cut_from (x : Str) (a : Nat) : cutS x (some (a : Int)) none = S ((tl x).drop a) := by
  unfold cutS
  rw [HT.sIx_nat, HT.sIx_none]
  refine ext_tl ?_
  have hl := tl_len x
  show ((tl x).drop (min a x.length)).take (x.length - min a x.length) = (tl x).drop a
  by_cases ha : a ≤ x.length
  · rw [Nat.min_eq_left ha, List.take_of_length_le (by rw [List.length_drop]; omega)]
  · rw [Nat.min_eq_right (by omega), List.drop_eq_nil_of_le (by omega), List.drop_eq_nil_of_le (by omega)]
    simp
theorem cut_le (x : Str) (a b : Option Int) : (cutS x a b).length ≤ x.length := by
  unfold cutS
  rw [len_tl]
  show (((tl x).drop _).take _).length ≤ _
  rw [List.length_take, List.length_drop, ← tl_len]
  omega
theorem str_ne {x y : Str} (h : tl x ≠ tl y) : V.str x ≠ V.str y := fun e => h (by rw [V.str.inj e])
theorem str_eq {x y : Str} (h : tl x = tl y) : V.str x = V.str y := by rw [ext_tl h]
theorem int_dig {l : List Nat} (h : AllDigits l) (h1 : l ≠ []) (h2 : l.length ≤ 4300) : PySem.intText? (S l) = some ((digitsVal l : Nat) : Int) := intText_digits (x := S l) h h1 (by rw [S_len]; exact h2)
def natV (o : Option Nat) : V := match o with | none => .non | some n => .int (n : Int)
def intV (o : Option Int) : V := match o with | none => .non | some n => .int n
theorem adT {l : List Nat} (h : AllDigits l) (n : Nat) : AllDigits (l.take n) := fun c hc => h c (List.mem_of_mem_take hc)
theorem adD {l : List Nat} (h : AllDigits l) (n : Nat) : AllDigits (l.drop n) := fun c hc => h c (List.mem_of_mem_drop hc)
theorem rg64 {a b : Nat} (h : a ≤ b) (hb : b < 100000) (hm : (b - a) % 64 = 0) : RgC (a : Int) (b : Int) 64 ((b - a) / 64) := by
  have e : Builtin.Range.rangeSize (a : Int) (b : Int) 64 = (((b - a) / 64 : Nat) : Int) := by
    unfold Builtin.Range.rangeSize
    rw [if_pos (by decide)]
    split
    · omega
    · omega
  refine ⟨by decide, by decide, ?_, e⟩
  have f : ∀ z : Int, -200000 ≤ z → z ≤ 200000 → Builtin.Range.rangeFitsLong z = true := fun z h1 h2 => by
    unfold Builtin.Range.rangeFitsLong
    rw [Bool.and_eq_true]
    exact ⟨decide_eq_true (by omega), decide_eq_true (by omega)⟩
  unfold Builtin.Range.small
  rw [e, f _ (by omega) (by omega), f _ (by omega) (by omega), f _ (by omega) (by omega), f _ (by omega) (by omega), if_pos (by decide), f _ (by omega) (by omega), Bool.or_true]
  rfl
section
variable {P : Program} {w : World} {K : PySem.W.Frag} {mg : Str → Option Value} {base : Heap}
/-! ### _read_natural -/
def sp_read_natural : Sp := fun vs H Q _ => ∃ (x : Str), vs = [.str x] ∧ x.length ≤ 3000 ∧ Q (natV (natOf (tl x))) H
theorem ok_read_natural (T : Top K mg) : FnOk P w K mg base CX0 1 T.a_read_natural T.d_read_natural ["text"] sp_read_natural := by
  refine T.F_read_natural.ok sc_read_natural (fun vs H Q E h => ?_) (fun cdv A outer s H vs Q E hr h => ?_)
  · obtain ⟨x, rfl, _⟩ := h
    rfl
  obtain ⟨x, rfl, hl, q⟩ := h
  refine ⟨_, (pss_cons (ps_if (pt_not (PW.pt (pw_and (pt_val (pe_m0 PySem.F.slot_str_isascii PySem.F.type_str_isascii mt_isascii (pv 0))) (pw_and1 (pt_val (pe_m0 PySem.F.slot_str_isdecimal PySem.F.type_str_isdecimal mt_isdecimal (pv 0)))))))
        (pss_one (ps_ret pe_non))
        pss_nil)
      (C8.pss_cut (ps_if (PW.pt (pw_and (pt_val (pe_m1 PySem.F.slot_str_startswith PySem.F.type_str_startswith mt_startswith (pv 0) pe_str)) (pw_and1 (pt_cmpR op_ne (pv 0) pe_str (nomark _)))))
        (pss_one (ps_ret pe_non))
        pss_nil)
      (pss_cons (ps_set (i := 1) sc_read_natural.nd rfl (Or.inl rfl) (pe_op op_mod (pe_callB call_len_str (by rfl) T.z_len (by decide +kernel) (pa_cons (pv 0) pa_nil)) pe_int))
      (pss_cons (ps_set (i := 2) sc_read_natural.nd rfl (Or.inl rfl) (pe_callTy call_int_str (by rfl) T.z_int (by decide +kernel) (pa_cons (pe_op op_add_str pe_str (pe_slice sl_str (pv 0) po_none (po_some (pv 1)))) pa_nil)))
      (pss_cons (ps_for PassesOwn.never rfl (pi_range3 (by rfl) T.z_range (pa_cons (pv 1) (pa_cons (pe_callB call_len_str (by rfl) T.z_len (by decide +kernel) (pa_cons (pv 0) pa_nil)) (pa_cons pe_int pa_nil)))) (pg_name (i := 3) sc_read_natural.nd rfl (Or.inl rfl))
        (pss_one (ps_set (i := 2) sc_read_natural.nd rfl (Or.inl rfl) (pe_op op_add (pe_op op_mulW (pv 2) (pe_op op_pow pe_int pe_int)) (pe_callTy call_int_str (by rfl) T.z_int (by decide +kernel) (pa_cons (pe_slice sl_str (pv 0) (po_some (pv 3)) (po_some (pe_op op_add (pv 3) pe_int))) pa_nil))))))
      (pss_one (ps_ret (pv 2)))))))), ?_⟩
  have had := asc_dec x
  have bad : (Txt.isascii x && Txt.isdecimal x) = false → Q .non H := fun e => by
    rw [e] at had
    have c : canon (tl x) = false := by
      unfold canon
      rw [← had]
      rfl
    unfold natOf at q
    rw [if_neg (by rw [c]; exact Bool.false_ne_true)] at q
    exact q
  (repeat (first
      | refine ⟨_, rfl, ?_⟩
      | refine ⟨_, _, rfl, rfl, ?_⟩
      | refine Or.inl ⟨_, rfl, ?_⟩
      | refine Or.inr ⟨_, rfl, ?_⟩
      | refine ⟨Or.inl ⟨by decide, by decide⟩, ?_⟩
      | refine ⟨Or.inr ⟨by decide, by decide⟩, ?_⟩
      | refine ⟨⟨by decide, by decide⟩, ?_⟩
      | refine ⟨⟨by decide, by decide, by decide⟩, ?_⟩
      | refine ⟨by decide, ?_⟩
      | refine ⟨(by show (0 : Int) < _; decide), ?_⟩
      | refine ⟨rfl, ?_⟩
      | refine ⟨⟨_, rfl⟩, ?_⟩
      | refine ⟨_, rfl, rfl, trivial, ?_⟩
      | refine ⟨_, _, rfl, ?_⟩))
  refine ite_b (fun c1 => ?_) (fun c1 => ?_)
  case refine_2 =>
    refine ifT ?_
    exact bad (by rw [c1]; rfl)
  (repeat (first
      | refine ⟨_, rfl, ?_⟩
      | refine ⟨_, _, rfl, rfl, ?_⟩
      | refine Or.inl ⟨_, rfl, ?_⟩
      | refine Or.inr ⟨_, rfl, ?_⟩
      | refine ⟨Or.inl ⟨by decide, by decide⟩, ?_⟩
      | refine ⟨Or.inr ⟨by decide, by decide⟩, ?_⟩
      | refine ⟨⟨by decide, by decide⟩, ?_⟩
      | refine ⟨⟨by decide, by decide, by decide⟩, ?_⟩
      | refine ⟨by decide, ?_⟩
      | refine ⟨(by show (0 : Int) < _; decide), ?_⟩
      | refine ⟨rfl, ?_⟩
      | refine ⟨⟨_, rfl⟩, ?_⟩
      | refine ⟨_, rfl, rfl, trivial, ?_⟩
      | refine ⟨_, _, rfl, ?_⟩))
  refine ite_nb (fun c2 => ?_) (fun c2 => ?_)
  · exact bad (by rw [c2, Bool.and_false])
  rw [c1, c2] at had
  have hne : tl x ≠ [] := fun e => by rw [e] at had; cases had
  have hd : AllDigits (tl x) := by
    refine all_dig.mp ?_
    cases e : (tl x).all dig with
    | true => rfl
    | false => rw [e, Bool.and_false] at had; cases had
  have hemp : (tl x).isEmpty = false := by
    cases e : tl x with
    | nil => exact absurd e hne
    | cons _ _ => rfl
  have ec : canon (tl x) = !(decide ((tl x).head? = some 48) && !decide (tl x = [48])) := by
    unfold canon
    rw [hemp, all_dig.mpr hd]
    rfl
  have good : ((tl x).head? = some 48 → tl x = [48]) → Q (.int ((digitsVal (tl x) : Nat) : Int)) H := fun g => by
    have c : canon (tl x) = true := by
      rw [ec]
      by_cases h1 : (tl x).head? = some 48
      · rw [decide_eq_true (g h1), Bool.not_true, Bool.and_false]
        rfl
      · rw [decide_eq_false h1]
        rfl
    unfold natOf at q
    rw [if_pos c] at q
    exact q
  -- what follows behind the tests
  refine ⟨fun σ H' => ∃ y1 y2 y3, σ = [some (.str x), y1, y2, y3] ∧ H' = H ∧ ((tl x).head? = some 48 → tl x = [48]), ?_, ?_⟩
  · (repeat (first
      | refine ⟨_, rfl, ?_⟩
      | refine ⟨_, _, rfl, rfl, ?_⟩
      | refine Or.inl ⟨_, rfl, ?_⟩
      | refine Or.inr ⟨_, rfl, ?_⟩
      | refine ⟨Or.inl ⟨by decide, by decide⟩, ?_⟩
      | refine ⟨Or.inr ⟨by decide, by decide⟩, ?_⟩
      | refine ⟨⟨by decide, by decide⟩, ?_⟩
      | refine ⟨⟨by decide, by decide, by decide⟩, ?_⟩
      | refine ⟨by decide, ?_⟩
      | refine ⟨(by show (0 : Int) < _; decide), ?_⟩
      | refine ⟨rfl, ?_⟩
      | refine ⟨⟨_, rfl⟩, ?_⟩
      | refine ⟨_, rfl, rfl, trivial, ?_⟩
      | refine ⟨_, _, rfl, ?_⟩))
    rw [starts_pre (by decide), show tl (Str.ofString "0") = [48] from rfl, pre_one]
    refine ite_dec (fun c3 => ?_) (fun c3 => ?_)
    · (repeat (first
      | refine ⟨_, rfl, ?_⟩
      | refine ⟨_, _, rfl, rfl, ?_⟩
      | refine Or.inl ⟨_, rfl, ?_⟩
      | refine Or.inr ⟨_, rfl, ?_⟩
      | refine ⟨Or.inl ⟨by decide, by decide⟩, ?_⟩
      | refine ⟨Or.inr ⟨by decide, by decide⟩, ?_⟩
      | refine ⟨⟨by decide, by decide⟩, ?_⟩
      | refine ⟨⟨by decide, by decide, by decide⟩, ?_⟩
      | refine ⟨by decide, ?_⟩
      | refine ⟨(by show (0 : Int) < _; decide), ?_⟩
      | refine ⟨rfl, ?_⟩
      | refine ⟨⟨_, rfl⟩, ?_⟩
      | refine ⟨_, rfl, rfl, trivial, ?_⟩
      | refine ⟨_, _, rfl, ?_⟩))
      refine ite_nb (fun c4 => ?_) (fun c4 => ?_)
      · (repeat (first
      | refine ⟨_, rfl, ?_⟩
      | refine ⟨_, _, rfl, rfl, ?_⟩
      | refine Or.inl ⟨_, rfl, ?_⟩
      | refine Or.inr ⟨_, rfl, ?_⟩
      | refine ⟨Or.inl ⟨by decide, by decide⟩, ?_⟩
      | refine ⟨Or.inr ⟨by decide, by decide⟩, ?_⟩
      | refine ⟨⟨by decide, by decide⟩, ?_⟩
      | refine ⟨⟨by decide, by decide, by decide⟩, ?_⟩
      | refine ⟨by decide, ?_⟩
      | refine ⟨(by show (0 : Int) < _; decide), ?_⟩
      | refine ⟨rfl, ?_⟩
      | refine ⟨⟨_, rfl⟩, ?_⟩
      | refine ⟨_, rfl, rfl, trivial, ?_⟩
      | refine ⟨_, _, rfl, ?_⟩))
        have hne' : ¬ tl x = [48] := fun e => of_decide_eq_false c4 (str_eq (by rw [e]; rfl))
        have c : canon (tl x) = false := by rw [ec, decide_eq_true c3, decide_eq_false hne']; rfl
        unfold natOf at q
        rw [if_neg (by rw [c]; exact Bool.false_ne_true)] at q
        exact q
      · exact ⟨_, _, _, rfl, rfl, fun _ => by rw [V.str.inj (of_decide_eq_true c4)]; rfl⟩
    · exact ⟨_, _, _, rfl, rfl, fun h => absurd h c3⟩
  rintro σ H' ⟨y1, y2, y3, rfl, rfl, hg⟩
  have fin := good hg
  generalize hL : tl x = l at *
  have hx : x = S l := by rw [← hL, S_tl]
  have hlen : x.length = l.length := by rw [← hL, tl_len]
  subst hx
  have hc := Nat.mod_lt l.length (show 0 < 64 by decide)
  (repeat (first
      | refine ⟨_, rfl, ?_⟩
      | refine ⟨_, _, rfl, rfl, ?_⟩
      | refine Or.inl ⟨_, rfl, ?_⟩
      | refine Or.inr ⟨_, rfl, ?_⟩
      | refine ⟨Or.inl ⟨by decide, by decide⟩, ?_⟩
      | refine ⟨Or.inr ⟨by decide, by decide⟩, ?_⟩
      | refine ⟨⟨by decide, by decide⟩, ?_⟩
      | refine ⟨⟨by decide, by decide, by decide⟩, ?_⟩
      | refine ⟨by decide, ?_⟩
      | refine ⟨(by show (0 : Int) < _; decide), ?_⟩
      | refine ⟨rfl, ?_⟩
      | refine ⟨⟨_, rfl⟩, ?_⟩
      | refine ⟨_, rfl, rfl, trivial, ?_⟩
      | refine ⟨_, _, rfl, ?_⟩))
  refine ⟨small (by omega), ?_⟩
  rw [hlen]
  have em : ((l.length : Nat) : Int) % 64 = ((l.length % 64 : Nat) : Int) := rfl
  have hle : l.length % 64 ≤ l.length := Nat.mod_le _ _
  (repeat (first
      | refine ⟨_, rfl, ?_⟩
      | refine ⟨_, _, rfl, rfl, ?_⟩
      | refine Or.inl ⟨_, rfl, ?_⟩
      | refine Or.inr ⟨_, rfl, ?_⟩
      | refine ⟨Or.inl ⟨by decide, by decide⟩, ?_⟩
      | refine ⟨Or.inr ⟨by decide, by decide⟩, ?_⟩
      | refine ⟨⟨by decide, by decide⟩, ?_⟩
      | refine ⟨⟨by decide, by decide, by decide⟩, ?_⟩
      | refine ⟨by decide, ?_⟩
      | refine ⟨(by show (0 : Int) < _; decide), ?_⟩
      | refine ⟨rfl, ?_⟩
      | refine ⟨⟨_, rfl⟩, ?_⟩
      | refine ⟨_, rfl, rfl, trivial, ?_⟩
      | refine ⟨_, _, rfl, ?_⟩))
  refine ⟨small (by omega), ?_⟩
  rw [em, cut_pre _ (by omega), tl_S]
  have hpl : (l.take (l.length % 64)).length = l.length % 64 := by rw [List.length_take]; omega
  refine ⟨_, _, rfl, rfl, small (by rw [S_len, hpl]; show 1 + _ ≤ _; omega), ?_⟩
  have e0 : Str.ofString "0" ++ S (l.take (l.length % 64)) = S (48 :: l.take (l.length % 64)) := S_app [48] _
  rw [e0]
  refine ⟨_, _, rfl, int_dig (fun c hc => ?_) (by simp) (by rw [List.length_cons]; omega), by rw [S_len, List.length_cons]; omega, ?_⟩
  · rcases List.mem_cons.mp hc with e | hc
    · rw [e]; omega
    · exact adT hd _ c hc
  rw [dv_zero]
  (repeat (first
      | refine ⟨_, rfl, ?_⟩
      | refine ⟨_, _, rfl, rfl, ?_⟩
      | refine Or.inl ⟨_, rfl, ?_⟩
      | refine Or.inr ⟨_, rfl, ?_⟩
      | refine ⟨Or.inl ⟨by decide, by decide⟩, ?_⟩
      | refine ⟨Or.inr ⟨by decide, by decide⟩, ?_⟩
      | refine ⟨⟨by decide, by decide⟩, ?_⟩
      | refine ⟨⟨by decide, by decide, by decide⟩, ?_⟩
      | refine ⟨by decide, ?_⟩
      | refine ⟨(by show (0 : Int) < _; decide), ?_⟩
      | refine ⟨rfl, ?_⟩
      | refine ⟨⟨_, rfl⟩, ?_⟩
      | refine ⟨_, rfl, rfl, trivial, ?_⟩
      | refine ⟨_, _, rfl, ?_⟩))
  refine ⟨small (by omega), ?_⟩
  rw [hlen]
  have hm64 : (l.length - l.length % 64) % 64 = 0 := by omega
  have hl3 : l.length ≤ 3000 := by omega
  refine ⟨_, _, _, (l.length - l.length % 64) / 64, rfl, rg64 hle (by omega) hm64, ?_⟩
  have ev : ∀ i : Nat, ((l.length % 64 : Nat) : Int) + (i : Int) * 64 = ((l.length % 64 + i * 64 : Nat) : Int) := fun i => by omega
  refine for_rangeC (lo := ((l.length % 64 : Nat) : Int)) (c := 64) (n := (l.length - l.length % 64) / 64) (fun i σ H2 => ∃ y1 y3, σ = [some (.str (S l)), y1, some (.int ((digitsVal (l.take (l.length % 64 + i * 64)) : Nat) : Int)), y3] ∧ H2 = H') ?_ ?_ ?_
  · exact ⟨_, _, by rw [Nat.zero_mul, Nat.add_zero]; rfl, rfl⟩
  · rintro i σ H2 hi ⟨y1, y3, rfl, rfl⟩
    rw [ev i]
    have hb : l.length % 64 + i * 64 + 64 ≤ l.length := by omega
    have hv : digitsVal (l.take (l.length % 64 + i * 64)) < 10 ^ 3000 := by
      refine Nat.lt_of_lt_of_le (dv_lt (adT hd _)) (Nat.pow_le_pow_right (by decide) ?_)
      rw [List.length_take]; omega
    have hm : CMulW ((digitsVal (l.take (l.length % 64 + i * 64)) : Nat) : Int) ((10 : Int) ^ (64 : Int).toNat) := wide_mul (a := 12000) (b := 300) (by
      rw [Int.natAbs_natCast]
      exact Nat.lt_of_lt_of_le hv (by decide +kernel)) (by decide +kernel) (by decide) (by decide) (by decide)
    (repeat (first
      | refine ⟨_, rfl, ?_⟩
      | refine ⟨_, _, rfl, rfl, ?_⟩
      | refine Or.inl ⟨_, rfl, ?_⟩
      | refine Or.inr ⟨_, rfl, ?_⟩
      | refine ⟨Or.inl ⟨by decide, by decide⟩, ?_⟩
      | refine ⟨Or.inr ⟨by decide, by decide⟩, ?_⟩
      | refine ⟨⟨by decide, by decide⟩, ?_⟩
      | refine ⟨⟨by decide, by decide, by decide⟩, ?_⟩
      | refine ⟨by decide, ?_⟩
      | refine ⟨(by show (0 : Int) < _; decide), ?_⟩
      | refine ⟨rfl, ?_⟩
      | refine ⟨⟨_, rfl⟩, ?_⟩
      | refine ⟨_, rfl, rfl, trivial, ?_⟩
      | refine ⟨_, _, rfl, ?_⟩))
    refine ⟨hm, ?_⟩
    (repeat (first
      | refine ⟨_, rfl, ?_⟩
      | refine ⟨_, _, rfl, rfl, ?_⟩
      | refine Or.inl ⟨_, rfl, ?_⟩
      | refine Or.inr ⟨_, rfl, ?_⟩
      | refine ⟨Or.inl ⟨by decide, by decide⟩, ?_⟩
      | refine ⟨Or.inr ⟨by decide, by decide⟩, ?_⟩
      | refine ⟨⟨by decide, by decide⟩, ?_⟩
      | refine ⟨⟨by decide, by decide, by decide⟩, ?_⟩
      | refine ⟨by decide, ?_⟩
      | refine ⟨(by show (0 : Int) < _; decide), ?_⟩
      | refine ⟨rfl, ?_⟩
      | refine ⟨⟨_, rfl⟩, ?_⟩
      | refine ⟨_, rfl, rfl, trivial, ?_⟩
      | refine ⟨_, _, rfl, ?_⟩))
    refine ⟨small (by omega), ?_⟩
    have e64 : ((l.length % 64 + i * 64 : Nat) : Int) + 64 = ((l.length % 64 + i * 64 + 64 : Nat) : Int) := rfl
    rw [e64, cut_mid, tl_S]
    have h64 : ((l.drop (l.length % 64 + i * 64)).take (l.length % 64 + i * 64 + 64 - (l.length % 64 + i * 64))).length = 64 := by
      rw [List.length_take, List.length_drop]; omega
    refine ⟨_, _, rfl, int_dig (adT (adD hd _) _) (fun e => by rw [e] at h64; cases h64) (by omega), by rw [S_len, h64]; decide, ?_⟩
    have key : l.take (l.length % 64 + (i + 1) * 64) = l.take (l.length % 64 + i * 64) ++ (l.drop (l.length % 64 + i * 64)).take (l.length % 64 + i * 64 + 64 - (l.length % 64 + i * 64)) := by
      rw [show l.length % 64 + (i + 1) * 64 = (l.length % 64 + i * 64) + 64 by omega, List.take_add]
      congr 2
      omega
    have ek : ((digitsVal (l.take (l.length % 64 + (i + 1) * 64)) : Nat) : Int) = ((digitsVal (l.take (l.length % 64 + i * 64)) : Nat) : Int) * (10 : Int) ^ (64 : Int).toNat +
        ((digitsVal ((l.drop (l.length % 64 + i * 64)).take (l.length % 64 + i * 64 + 64 - (l.length % 64 + i * 64))) : Nat) : Int) := by
      rw [key, dv_app, h64]
      simp only [Int.natCast_add, Int.natCast_mul, Int.natCast_pow]
      rfl
    rw [ek]
    exact ⟨_, _, rfl, rfl, _, _, rfl, rfl⟩
  · rintro σ H2 ⟨y1, y3, rfl, rfl⟩
    refine ⟨_, rfl, ?_⟩
    rw [List.take_of_length_le (by omega)]
    exact fin
end
end My

namespace My
open PySem PySem.Spec PyProof.Rows L2 NumText TL
theorem for_its {x : Str} {g : TG} {tb : TS} {D : Ends} {σ : L2.St} {H : Hp} (Pv : Nat → L2.St → Hp → Prop) (h0 : Pv 0 σ H)
    (hs : ∀ (i c : Nat) σ H, (tl x)[i]? = some c → Pv i σ H → g (.str ⟨#[c]⟩) σ H fun σ2 H2 => tb { D with nx := Pv (i + 1), ct := Pv (i + 1), bk := D.nx } σ2 H2) (hd : ∀ σ H, Pv (tl x).length σ H → D.nx σ H) :
    ∃ W : Nat → Nat → L2.St → Hp → Prop, (∃ m, W 0 m σ H) ∧ ∀ i m σ H, W i m σ H →
      ((Its x).stop i H ∧ D.nx σ H) ∨ ((Its x).go i H ∧ ∃ N : L2.St → Hp → Prop, (∀ σ' H', N σ' H' → ∃ m', m' < m ∧ W (i + 1) m' σ' H') ∧ ∀ v H', (Its x).yld i H v H' → g v σ H' fun σ2 H2 => tb { D with nx := N, ct := N, bk := D.nx } σ2 H2) := by
  have hz : x.cps.size = (tl x).length := (Array.length_toList).symm
  refine ⟨fun i m σ H => m = (tl x).length - i ∧ i ≤ (tl x).length ∧ Pv i σ H, ⟨(tl x).length, by simp, Nat.zero_le _, h0⟩, ?_⟩
  rintro i m σ H ⟨rfl, hi, p⟩
  by_cases hlt : i < (tl x).length
  · refine .inr ⟨by show i < x.cps.size; omega, Pv (i + 1), fun σ' H' p' => ⟨(tl x).length - (i + 1), by omega, rfl, hlt, p'⟩, fun v H' y => ?_⟩
    obtain ⟨e, c, hc, ev⟩ := y
    subst e ev
    refine hs i c σ _ ?_ p
    rw [← hc]
    exact Array.getElem?_toList
  · have e : i = (tl x).length := by omega
    subst e
    exact .inl ⟨by show x.cps.size ≤ _; omega, hd σ H p⟩
theorem dig_in {c : Nat} (h1 : 48 ≤ c) (h2 : c ≤ 57) : c ∈ (Str.ofString "0123456789").cps.toList := by
  have h : ∀ c : Nat, c < 58 → 48 ≤ c → c ∈ (Str.ofString "0123456789").cps.toList := by decide +kernel
  exact h c (by omega) h1
theorem in_dig {c : Nat} (h : c ∈ (Str.ofString "0123456789").cps.toList) : 48 ≤ c ∧ c ≤ 57 := by
  have e : (Str.ofString "0123456789").cps.toList = [48, 49, 50, 51, 52, 53, 54, 55, 56, 57] := by decide +kernel
  rw [e] at h
  simp only [List.mem_cons, List.not_mem_nil, or_false] at h
  omega
def rD (o : Option Q2) : PyData := match o with | none => .none | some x => .tuple [.int x.1, .int x.2]
theorem sh_rD (o : Option Q2) : Sh 1 (rD o) := by
  cases o with
  | none => exact True.intro
  | some x => exact sh_pair
section
variable {P : Program} {w : World} {K : PySem.W.Frag} {mg : Str → Option Value} {base : Heap}
theorem Nm.rD {H : Hp} {p : Addr} {x : Q2} (h : Nm K H p x) : Dp K H (.ref p) (rD (some x)) := Nm.dp h
theorem non_rD {H : Hp} : Dp K H .non (rD none) := .non
/-! ### _read_integer -/
def sp_read_integer : Sp := fun vs H Q _ => ∃ (l : List Nat), vs = [.str (S l)] ∧ l.length ≤ 3000 ∧ Q (intV (intOf l)) H
theorem nat_int (o : Option Nat) : intV (o.map Int.ofNat) = natV o := by cases o <;> rfl
theorem ok_read_integer (T : Top K mg) : FnOk P w K mg base CX0 2 T.a_read_integer T.d_read_integer ["text"] sp_read_integer := by
  refine T.F_read_integer.ok sc_read_integer (fun vs H Q E h => ?_) (fun cdv A outer s H vs Q E hr h => ?_)
  · obtain ⟨x, rfl, _⟩ := h
    rfl
  obtain ⟨l, rfl, hl, q⟩ := h
  refine ⟨_, (pss_cons (ps_if (pt_not (pt_val (pe_m1 PySem.F.slot_str_startswith PySem.F.type_str_startswith mt_startswith (pv 0) pe_str)))
        (pss_one (ps_ret (pe_call ((ok_read_natural T).mono (by decide)) hr (by rfl) T.m_read_natural T.F_read_natural.kp T.b_read_natural .nil pass0 (pa_cons (pv 0) pa_nil))))
        pss_nil)
      (pss_cons (ps_set (i := 1) sc_read_integer.nd rfl (Or.inl rfl) (pe_call ((ok_read_natural T).mono (by decide)) hr (by rfl) T.m_read_natural T.F_read_natural.kp T.b_read_natural .nil pass0 (pa_cons (pe_slice sl_str (pv 0) (po_some pe_int) po_none) pa_nil)))
      (pss_cons (ps_if (PW.pt (pw_or (pt_cmpR op_isN (pv 1) pe_non (nomark _)) (pw_or1 (pt_cmpR op_eq (pv 1) pe_int (nomark _)))))
        (pss_one (ps_ret pe_non))
        pss_nil)
      (pss_one (ps_ret (pe_un un_neg (pv 1))))))), ?_⟩
  (repeat (first
      | refine ⟨_, rfl, ?_⟩
      | refine ⟨_, _, rfl, rfl, ?_⟩
      | refine Or.inl ⟨_, rfl, ?_⟩
      | refine Or.inr ⟨_, rfl, ?_⟩
      | refine ⟨Or.inl ⟨by decide, by decide⟩, ?_⟩
      | refine ⟨Or.inr ⟨by decide, by decide⟩, ?_⟩
      | refine ⟨⟨by decide, by decide⟩, ?_⟩
      | refine ⟨⟨by decide, by decide, by decide⟩, ?_⟩
      | refine ⟨by decide, ?_⟩
      | refine ⟨(by show (0 : Int) < _; decide), ?_⟩
      | refine ⟨rfl, ?_⟩
      | refine ⟨⟨_, rfl⟩, ?_⟩
      | refine ⟨_, rfl, rfl, trivial, ?_⟩
      | refine ⟨_, _, rfl, ?_⟩))
  rw [starts_pre (by decide), show tl (Str.ofString "-") = [45] from rfl, tl_S, pre_one]
  refine ite_nb (fun c => ?_) (fun c => ?_)
  · (repeat (first
      | refine ⟨_, rfl, ?_⟩
      | refine ⟨_, _, rfl, rfl, ?_⟩
      | refine Or.inl ⟨_, rfl, ?_⟩
      | refine Or.inr ⟨_, rfl, ?_⟩
      | refine ⟨Or.inl ⟨by decide, by decide⟩, ?_⟩
      | refine ⟨Or.inr ⟨by decide, by decide⟩, ?_⟩
      | refine ⟨⟨by decide, by decide⟩, ?_⟩
      | refine ⟨⟨by decide, by decide, by decide⟩, ?_⟩
      | refine ⟨by decide, ?_⟩
      | refine ⟨(by show (0 : Int) < _; decide), ?_⟩
      | refine ⟨rfl, ?_⟩
      | refine ⟨⟨_, rfl⟩, ?_⟩
      | refine ⟨_, rfl, rfl, trivial, ?_⟩
      | refine ⟨_, _, rfl, ?_⟩))
    refine ⟨by rw [S_len]; exact hl, ?_⟩
    rw [intOf_plain (of_decide_eq_false c), nat_int] at q
    exact q
  · have c' := of_decide_eq_true c
    cases l with
    | nil => cases c'
    | cons d r =>
      have ed : d = 45 := Option.some.inj c'
      subst ed
      (repeat (first
      | refine ⟨_, rfl, ?_⟩
      | refine ⟨_, _, rfl, rfl, ?_⟩
      | refine Or.inl ⟨_, rfl, ?_⟩
      | refine Or.inr ⟨_, rfl, ?_⟩
      | refine ⟨Or.inl ⟨by decide, by decide⟩, ?_⟩
      | refine ⟨Or.inr ⟨by decide, by decide⟩, ?_⟩
      | refine ⟨⟨by decide, by decide⟩, ?_⟩
      | refine ⟨⟨by decide, by decide, by decide⟩, ?_⟩
      | refine ⟨by decide, ?_⟩
      | refine ⟨(by show (0 : Int) < _; decide), ?_⟩
      | refine ⟨rfl, ?_⟩
      | refine ⟨⟨_, rfl⟩, ?_⟩
      | refine ⟨_, rfl, rfl, trivial, ?_⟩
      | refine ⟨_, _, rfl, ?_⟩))
      refine ⟨small (by rw [S_len]; omega), ?_⟩
      have e1 : cutS (S (45 :: r)) (some 1) none = S r := cut_from (S (45 :: r)) 1
      rw [e1]
      refine ⟨S r, rfl, by rw [S_len]; rw [List.length_cons] at hl; omega, ?_⟩
      rw [tl_S]
      have eq : intOf (45 :: r) = (match natOf r with | some 0 => none | some n => some (-(n : Int)) | none => none) := rfl
      rw [eq] at q
      cases h : natOf r with
      | none =>
        rw [h] at q
        (repeat (first
      | refine ⟨_, rfl, ?_⟩
      | refine ⟨_, _, rfl, rfl, ?_⟩
      | refine Or.inl ⟨_, rfl, ?_⟩
      | refine Or.inr ⟨_, rfl, ?_⟩
      | refine ⟨Or.inl ⟨by decide, by decide⟩, ?_⟩
      | refine ⟨Or.inr ⟨by decide, by decide⟩, ?_⟩
      | refine ⟨⟨by decide, by decide⟩, ?_⟩
      | refine ⟨⟨by decide, by decide, by decide⟩, ?_⟩
      | refine ⟨by decide, ?_⟩
      | refine ⟨(by show (0 : Int) < _; decide), ?_⟩
      | refine ⟨rfl, ?_⟩
      | refine ⟨⟨_, rfl⟩, ?_⟩
      | refine ⟨_, rfl, rfl, trivial, ?_⟩
      | refine ⟨_, _, rfl, ?_⟩))
        exact q
      | some n =>
        rw [h] at q
        cases n with
        | zero =>
          (repeat (first
      | refine ⟨_, rfl, ?_⟩
      | refine ⟨_, _, rfl, rfl, ?_⟩
      | refine Or.inl ⟨_, rfl, ?_⟩
      | refine Or.inr ⟨_, rfl, ?_⟩
      | refine ⟨Or.inl ⟨by decide, by decide⟩, ?_⟩
      | refine ⟨Or.inr ⟨by decide, by decide⟩, ?_⟩
      | refine ⟨⟨by decide, by decide⟩, ?_⟩
      | refine ⟨⟨by decide, by decide, by decide⟩, ?_⟩
      | refine ⟨by decide, ?_⟩
      | refine ⟨(by show (0 : Int) < _; decide), ?_⟩
      | refine ⟨rfl, ?_⟩
      | refine ⟨⟨_, rfl⟩, ?_⟩
      | refine ⟨_, rfl, rfl, trivial, ?_⟩
      | refine ⟨_, _, rfl, ?_⟩))
          exact q
        | succ n =>
          (repeat (first
      | refine ⟨_, rfl, ?_⟩
      | refine ⟨_, _, rfl, rfl, ?_⟩
      | refine Or.inl ⟨_, rfl, ?_⟩
      | refine Or.inr ⟨_, rfl, ?_⟩
      | refine ⟨Or.inl ⟨by decide, by decide⟩, ?_⟩
      | refine ⟨Or.inr ⟨by decide, by decide⟩, ?_⟩
      | refine ⟨⟨by decide, by decide⟩, ?_⟩
      | refine ⟨⟨by decide, by decide, by decide⟩, ?_⟩
      | refine ⟨by decide, ?_⟩
      | refine ⟨(by show (0 : Int) < _; decide), ?_⟩
      | refine ⟨rfl, ?_⟩
      | refine ⟨⟨_, rfl⟩, ?_⟩
      | refine ⟨_, rfl, rfl, trivial, ?_⟩
      | refine ⟨_, _, rfl, ?_⟩))
          exact q
/-! ### read_number -/
def sp_read (K : PySem.W.Frag) (m : Nat) : Sp := fun vs H Q _ => ∃ (l : List Nat), vs = [.str (S l)] ∧ l.length ≤ m ∧ ∀ v H', L2.Same H H' → Dp K H' v (rD (ratOf l)) → Q v H'
theorem ok_read_number (T : Top K mg) : FnOk P w K mg base CX0 3 T.a_read_number T.d_read_number ["text"] (sp_read K 3000) := by
  refine T.F_read_number.ok sc_read_number (fun vs H Q E h => ?_) (fun cdv A outer s H vs Q E hr h => ?_)
  · obtain ⟨x, rfl, _⟩ := h
    rfl
  obtain ⟨l, rfl, hl, q⟩ := h
  refine ⟨_, (pss_cons (ps_asg (pe_m1 PySem.F.slot_str_partition PySem.F.type_str_partition mt_partition (pv 0) pe_str) (pg_tup (by rfl) (pgs_cons (pg_name (i := 1) sc_read_number.nd rfl (Or.inl rfl)) (pgs_cons (pg_name (i := 2) sc_read_number.nd rfl (Or.inl rfl)) (pgs_cons (pg_name (i := 3) sc_read_number.nd rfl (Or.inl rfl)) pgs_nil)))))
      (pss_cons (ps_set (i := 4) sc_read_number.nd rfl (Or.inl rfl) (pe_call ((ok_read_integer T).mono (by decide)) hr (by rfl) T.m_read_integer T.F_read_integer.kp T.b_read_integer .nil pass0 (pa_cons (pv 1) pa_nil)))
      (pss_cons (ps_if (pt_cmpR op_isN (pv 4) pe_non (nomark _))
        (pss_one (ps_ret pe_non))
        pss_nil)
      (pss_cons (ps_if (pt_cmpR op_eq (pv 2) pe_str (nomark _))
        (pss_one (ps_ret (pe_tup (pa_cons (pv 4) (pa_cons pe_int pa_nil)))))
        pss_nil)
      (pss_cons (ps_set (i := 5) sc_read_number.nd rfl (Or.inl rfl) (pe_call ((ok_read_natural T).mono (by decide)) hr (by rfl) T.m_read_natural T.F_read_natural.kp T.b_read_natural .nil pass0 (pa_cons (pv 3) pa_nil)))
      (pss_cons (ps_if (PW.pt (pw_or (pt_cmpR op_isN (pv 5) pe_non (nomark _)) (pw_or (pt_cmpR op_lt (pv 5) pe_int (nomark _)) (pw_or1 (pt_cmpR op_ne (pe_callBfun cr_gcd (by rfl) T.z_gcd (pa_cons (pv 4) (pa_cons (pv 5) pa_nil))) pe_int (nomark _))))))
        (pss_one (ps_ret pe_non))
        pss_nil)
      (pss_one (ps_ret (pe_tup (pa_cons (pv 4) (pa_cons (pv 5) pa_nil))))))))))), ?_⟩
  (repeat (first
      | refine ⟨_, rfl, ?_⟩
      | refine ⟨_, _, rfl, rfl, ?_⟩
      | refine Or.inl ⟨_, rfl, ?_⟩
      | refine Or.inr ⟨_, rfl, ?_⟩
      | refine ⟨Or.inl ⟨by decide, by decide⟩, ?_⟩
      | refine ⟨Or.inr ⟨by decide, by decide⟩, ?_⟩
      | refine ⟨⟨by decide, by decide⟩, ?_⟩
      | refine ⟨⟨by decide, by decide, by decide⟩, ?_⟩
      | refine ⟨by decide, ?_⟩
      | refine ⟨(by show (0 : Int) < _; decide), ?_⟩
      | refine ⟨rfl, ?_⟩
      | refine ⟨⟨_, rfl⟩, ?_⟩
      | refine ⟨_, rfl, rfl, trivial, ?_⟩
      | refine ⟨_, _, rfl, ?_⟩))
  refine ⟨small (by rw [S_len]; omega), fun p hp => ?_⟩
  have sP : ∀ o, L2.Same H (upd H p o) := fun o => same_upd hp
  have ey : tl (Str.ofString "/") = 47 :: [] := rfl
  rcases split47 l with h47 | ⟨a, r, rfl, h47⟩
  · obtain ⟨t1, t2⟩ := tw_all h47
    have er : ratOf l = (match intOf l with | none => none | some t => some (t, 1)) := by
      unfold ratOf
      rw [t1, t2]
      all_goals (cases intOf l <;> rfl)
    rw [partition_none ey (a := S l) (fun hm => h47 47 hm rfl)]
    refine ⟨p, _, rfl, SqT.of upd_same, rfl, _, _, rfl, _, _, rfl, _, _, rfl, rfl, ?_⟩
    (repeat (first
      | refine ⟨_, rfl, ?_⟩
      | refine ⟨_, _, rfl, rfl, ?_⟩
      | refine Or.inl ⟨_, rfl, ?_⟩
      | refine Or.inr ⟨_, rfl, ?_⟩
      | refine ⟨Or.inl ⟨by decide, by decide⟩, ?_⟩
      | refine ⟨Or.inr ⟨by decide, by decide⟩, ?_⟩
      | refine ⟨⟨by decide, by decide⟩, ?_⟩
      | refine ⟨⟨by decide, by decide, by decide⟩, ?_⟩
      | refine ⟨by decide, ?_⟩
      | refine ⟨(by show (0 : Int) < _; decide), ?_⟩
      | refine ⟨rfl, ?_⟩
      | refine ⟨⟨_, rfl⟩, ?_⟩
      | refine ⟨_, rfl, rfl, trivial, ?_⟩
      | refine ⟨_, _, rfl, ?_⟩))
    refine ⟨hl, ?_⟩
    rw [er] at q
    cases hi : intOf l with
    | none =>
      rw [hi] at q
      (repeat (first
      | refine ⟨_, rfl, ?_⟩
      | refine ⟨_, _, rfl, rfl, ?_⟩
      | refine Or.inl ⟨_, rfl, ?_⟩
      | refine Or.inr ⟨_, rfl, ?_⟩
      | refine ⟨Or.inl ⟨by decide, by decide⟩, ?_⟩
      | refine ⟨Or.inr ⟨by decide, by decide⟩, ?_⟩
      | refine ⟨⟨by decide, by decide⟩, ?_⟩
      | refine ⟨⟨by decide, by decide, by decide⟩, ?_⟩
      | refine ⟨by decide, ?_⟩
      | refine ⟨(by show (0 : Int) < _; decide), ?_⟩
      | refine ⟨rfl, ?_⟩
      | refine ⟨⟨_, rfl⟩, ?_⟩
      | refine ⟨_, rfl, rfl, trivial, ?_⟩
      | refine ⟨_, _, rfl, ?_⟩))
      exact q _ _ (sP _) non_rD
    | some t =>
      rw [hi] at q
      (repeat (first
      | refine ⟨_, rfl, ?_⟩
      | refine ⟨_, _, rfl, rfl, ?_⟩
      | refine Or.inl ⟨_, rfl, ?_⟩
      | refine Or.inr ⟨_, rfl, ?_⟩
      | refine ⟨Or.inl ⟨by decide, by decide⟩, ?_⟩
      | refine ⟨Or.inr ⟨by decide, by decide⟩, ?_⟩
      | refine ⟨⟨by decide, by decide⟩, ?_⟩
      | refine ⟨⟨by decide, by decide, by decide⟩, ?_⟩
      | refine ⟨by decide, ?_⟩
      | refine ⟨(by show (0 : Int) < _; decide), ?_⟩
      | refine ⟨rfl, ?_⟩
      | refine ⟨⟨_, rfl⟩, ?_⟩
      | refine ⟨_, rfl, rfl, trivial, ?_⟩
      | refine ⟨_, _, rfl, ?_⟩))
      refine ⟨(by show 2 ≤ sizeLine; decide), fun p2 h2 => ?_⟩
      exact q _ _ ((sP _).trans (same_upd h2)) (Nm.rD (Nm.new upd_same))
  · obtain ⟨t1, t2⟩ := tw_app (r := r) h47
    have hla : a.length + (r.length + 1) ≤ 3000 := by rw [List.length_append, List.length_cons] at hl; exact hl
    have er : ratOf (a ++ 47 :: r) = (match intOf a with | none => none | some t => (match natOf r with | none => none | some d => if d < 2 ∨ Nat.gcd t.natAbs d ≠ 1 then none else some (t, (d : Int)))) := by
      unfold ratOf
      rw [t1, t2]
      all_goals (cases intOf a <;> rfl)
    have es : S (a ++ 47 :: r) = S a ++ Str.ofString "/" ++ S r := ext_tl (by
      rw [tl_append, tl_append, tl_S, tl_S, tl_S, ey, List.append_assoc]
      rfl)
    rw [es, partition_app ey (a := S a) (b := S r) (fun hm => h47 47 hm rfl)]
    refine ⟨p, _, rfl, SqT.of upd_same, rfl, _, _, rfl, _, _, rfl, _, _, rfl, rfl, ?_⟩
    (repeat (first
      | refine ⟨_, rfl, ?_⟩
      | refine ⟨_, _, rfl, rfl, ?_⟩
      | refine Or.inl ⟨_, rfl, ?_⟩
      | refine Or.inr ⟨_, rfl, ?_⟩
      | refine ⟨Or.inl ⟨by decide, by decide⟩, ?_⟩
      | refine ⟨Or.inr ⟨by decide, by decide⟩, ?_⟩
      | refine ⟨⟨by decide, by decide⟩, ?_⟩
      | refine ⟨⟨by decide, by decide, by decide⟩, ?_⟩
      | refine ⟨by decide, ?_⟩
      | refine ⟨(by show (0 : Int) < _; decide), ?_⟩
      | refine ⟨rfl, ?_⟩
      | refine ⟨⟨_, rfl⟩, ?_⟩
      | refine ⟨_, rfl, rfl, trivial, ?_⟩
      | refine ⟨_, _, rfl, ?_⟩))
    refine ⟨by omega, ?_⟩
    rw [er] at q
    cases hi : intOf a with
    | none =>
      rw [hi] at q
      (repeat (first
      | refine ⟨_, rfl, ?_⟩
      | refine ⟨_, _, rfl, rfl, ?_⟩
      | refine Or.inl ⟨_, rfl, ?_⟩
      | refine Or.inr ⟨_, rfl, ?_⟩
      | refine ⟨Or.inl ⟨by decide, by decide⟩, ?_⟩
      | refine ⟨Or.inr ⟨by decide, by decide⟩, ?_⟩
      | refine ⟨⟨by decide, by decide⟩, ?_⟩
      | refine ⟨⟨by decide, by decide, by decide⟩, ?_⟩
      | refine ⟨by decide, ?_⟩
      | refine ⟨(by show (0 : Int) < _; decide), ?_⟩
      | refine ⟨rfl, ?_⟩
      | refine ⟨⟨_, rfl⟩, ?_⟩
      | refine ⟨_, rfl, rfl, trivial, ?_⟩
      | refine ⟨_, _, rfl, ?_⟩))
      exact q _ _ (sP _) non_rD
    | some t =>
      rw [hi] at q
      (repeat (first
      | refine ⟨_, rfl, ?_⟩
      | refine ⟨_, _, rfl, rfl, ?_⟩
      | refine Or.inl ⟨_, rfl, ?_⟩
      | refine Or.inr ⟨_, rfl, ?_⟩
      | refine ⟨Or.inl ⟨by decide, by decide⟩, ?_⟩
      | refine ⟨Or.inr ⟨by decide, by decide⟩, ?_⟩
      | refine ⟨⟨by decide, by decide⟩, ?_⟩
      | refine ⟨⟨by decide, by decide, by decide⟩, ?_⟩
      | refine ⟨by decide, ?_⟩
      | refine ⟨(by show (0 : Int) < _; decide), ?_⟩
      | refine ⟨rfl, ?_⟩
      | refine ⟨⟨_, rfl⟩, ?_⟩
      | refine ⟨_, rfl, rfl, trivial, ?_⟩
      | refine ⟨_, _, rfl, ?_⟩))
      refine ⟨by rw [S_len]; omega, ?_⟩
      rw [tl_S]
      cases hd : natOf r with
      | none =>
        rw [hd] at q
        (repeat (first
      | refine ⟨_, rfl, ?_⟩
      | refine ⟨_, _, rfl, rfl, ?_⟩
      | refine Or.inl ⟨_, rfl, ?_⟩
      | refine Or.inr ⟨_, rfl, ?_⟩
      | refine ⟨Or.inl ⟨by decide, by decide⟩, ?_⟩
      | refine ⟨Or.inr ⟨by decide, by decide⟩, ?_⟩
      | refine ⟨⟨by decide, by decide⟩, ?_⟩
      | refine ⟨⟨by decide, by decide, by decide⟩, ?_⟩
      | refine ⟨by decide, ?_⟩
      | refine ⟨(by show (0 : Int) < _; decide), ?_⟩
      | refine ⟨rfl, ?_⟩
      | refine ⟨⟨_, rfl⟩, ?_⟩
      | refine ⟨_, rfl, rfl, trivial, ?_⟩
      | refine ⟨_, _, rfl, ?_⟩))
        exact q _ _ (sP _) non_rD
      | some d =>
        rw [hd] at q
        simp only at q
        (repeat (first
      | refine ⟨_, rfl, ?_⟩
      | refine ⟨_, _, rfl, rfl, ?_⟩
      | refine Or.inl ⟨_, rfl, ?_⟩
      | refine Or.inr ⟨_, rfl, ?_⟩
      | refine ⟨Or.inl ⟨by decide, by decide⟩, ?_⟩
      | refine ⟨Or.inr ⟨by decide, by decide⟩, ?_⟩
      | refine ⟨⟨by decide, by decide⟩, ?_⟩
      | refine ⟨⟨by decide, by decide, by decide⟩, ?_⟩
      | refine ⟨by decide, ?_⟩
      | refine ⟨(by show (0 : Int) < _; decide), ?_⟩
      | refine ⟨rfl, ?_⟩
      | refine ⟨⟨_, rfl⟩, ?_⟩
      | refine ⟨_, rfl, rfl, trivial, ?_⟩
      | refine ⟨_, _, rfl, ?_⟩))
        refine ite_dec (fun c1 => ?_) (fun c1 => ?_)
        · rw [if_pos (.inl (by omega))] at q
          (repeat (first
      | refine ⟨_, rfl, ?_⟩
      | refine ⟨_, _, rfl, rfl, ?_⟩
      | refine Or.inl ⟨_, rfl, ?_⟩
      | refine Or.inr ⟨_, rfl, ?_⟩
      | refine ⟨Or.inl ⟨by decide, by decide⟩, ?_⟩
      | refine ⟨Or.inr ⟨by decide, by decide⟩, ?_⟩
      | refine ⟨⟨by decide, by decide⟩, ?_⟩
      | refine ⟨⟨by decide, by decide, by decide⟩, ?_⟩
      | refine ⟨by decide, ?_⟩
      | refine ⟨(by show (0 : Int) < _; decide), ?_⟩
      | refine ⟨rfl, ?_⟩
      | refine ⟨⟨_, rfl⟩, ?_⟩
      | refine ⟨_, rfl, rfl, trivial, ?_⟩
      | refine ⟨_, _, rfl, ?_⟩))
          exact q _ _ (sP _) non_rD
        · (repeat (first
      | refine ⟨_, rfl, ?_⟩
      | refine ⟨_, _, rfl, rfl, ?_⟩
      | refine Or.inl ⟨_, rfl, ?_⟩
      | refine Or.inr ⟨_, rfl, ?_⟩
      | refine ⟨Or.inl ⟨by decide, by decide⟩, ?_⟩
      | refine ⟨Or.inr ⟨by decide, by decide⟩, ?_⟩
      | refine ⟨⟨by decide, by decide⟩, ?_⟩
      | refine ⟨⟨by decide, by decide, by decide⟩, ?_⟩
      | refine ⟨by decide, ?_⟩
      | refine ⟨(by show (0 : Int) < _; decide), ?_⟩
      | refine ⟨rfl, ?_⟩
      | refine ⟨⟨_, rfl⟩, ?_⟩
      | refine ⟨_, rfl, rfl, trivial, ?_⟩
      | refine ⟨_, _, rfl, ?_⟩))
          refine ite_nb (fun c2 => ?_) (fun c2 => ?_)
          · have hg : ¬ Nat.gcd t.natAbs d = 1 := fun e => of_decide_eq_false c2 (by rw [Int.natAbs_natCast, e]; rfl)
            rw [if_pos (.inr hg)] at q
            (repeat (first
      | refine ⟨_, rfl, ?_⟩
      | refine ⟨_, _, rfl, rfl, ?_⟩
      | refine Or.inl ⟨_, rfl, ?_⟩
      | refine Or.inr ⟨_, rfl, ?_⟩
      | refine ⟨Or.inl ⟨by decide, by decide⟩, ?_⟩
      | refine ⟨Or.inr ⟨by decide, by decide⟩, ?_⟩
      | refine ⟨⟨by decide, by decide⟩, ?_⟩
      | refine ⟨⟨by decide, by decide, by decide⟩, ?_⟩
      | refine ⟨by decide, ?_⟩
      | refine ⟨(by show (0 : Int) < _; decide), ?_⟩
      | refine ⟨rfl, ?_⟩
      | refine ⟨⟨_, rfl⟩, ?_⟩
      | refine ⟨_, rfl, rfl, trivial, ?_⟩
      | refine ⟨_, _, rfl, ?_⟩))
            exact q _ _ (sP _) non_rD
          · have hg : Nat.gcd t.natAbs d = 1 := by
              have e := V.int.inj (of_decide_eq_true c2)
              rw [Int.natAbs_natCast] at e
              omega
            rw [if_neg (by rw [hg]; omega)] at q
            (repeat (first
      | refine ⟨_, rfl, ?_⟩
      | refine ⟨_, _, rfl, rfl, ?_⟩
      | refine Or.inl ⟨_, rfl, ?_⟩
      | refine Or.inr ⟨_, rfl, ?_⟩
      | refine ⟨Or.inl ⟨by decide, by decide⟩, ?_⟩
      | refine ⟨Or.inr ⟨by decide, by decide⟩, ?_⟩
      | refine ⟨⟨by decide, by decide⟩, ?_⟩
      | refine ⟨⟨by decide, by decide, by decide⟩, ?_⟩
      | refine ⟨by decide, ?_⟩
      | refine ⟨(by show (0 : Int) < _; decide), ?_⟩
      | refine ⟨rfl, ?_⟩
      | refine ⟨⟨_, rfl⟩, ?_⟩
      | refine ⟨_, rfl, rfl, trivial, ?_⟩
      | refine ⟨_, _, rfl, ?_⟩))
            refine ⟨(by show 2 ≤ sizeLine; decide), fun p2 h2 => ?_⟩
            exact q _ _ ((sP _).trans (same_upd h2)) (Nm.rD (Nm.new upd_same))
/-! ### _law_digits -/
def sp_law_digits : Sp := fun vs H Q _ => ∃ (l : List Nat), vs = [.str (S l)] ∧ l.length ≤ 640 ∧ Q (natV (natOf l)) H
theorem ok_law_digits (T : Top K mg) : FnOk P w K mg base CX0 1 T.a_law_digits T.d_law_digits ["text"] sp_law_digits := by
  refine T.F_law_digits.ok sc_law_digits (fun vs H Q E h => ?_) (fun cdv A outer s H vs Q E hr h => ?_)
  · obtain ⟨x, rfl, _⟩ := h
    rfl
  obtain ⟨l, rfl, hl, q⟩ := h
  refine ⟨_, (C8.pss_cut (ps_if (PW.pt (pw_or (pt_cmpR op_eq (pv 0) pe_str (nomark _)) (pw_or1 (PW.pt (pw_and (pt_cmpR op_eq (pe_ix ix_str (pv 0) pe_int (fun _ _ => rfl)) pe_str (nomark _)) (pw_and1 (pt_cmpR op_gt (pe_callB call_len_str (by rfl) T.z_len (by decide +kernel) (pa_cons (pv 0) pa_nil)) pe_int (nomark _))))))))
        (pss_one (ps_ret pe_non))
        pss_nil)
      (pss_cons (ps_for PassesOwn.never rfl (pi_str (pv 0)) (pg_name (i := 1) sc_law_digits.nd rfl (Or.inl rfl))
        (pss_one (ps_if (pt_cmpR op_notIn_sign (pv 1) pe_str (by rfl))
        (pss_one (ps_ret pe_non))
        pss_nil)))
      (pss_one (ps_ret (pe_callTy call_int_str (by rfl) T.z_int (by decide +kernel) (pa_cons (pv 0) pa_nil)))))), ?_⟩
  have bad : canon l = false → Q .non H := fun c => by
    unfold natOf at q
    rw [if_neg (by rw [c]; exact Bool.false_ne_true)] at q
    exact q
  have fin : l ≠ [] → AllDigits l → ¬ (l.head? = some 48 ∧ 1 < l.length) → Q (.int ((digitsVal l : Nat) : Int)) H := fun h1 h2 h3 => by
    have c : canon l = true := by
      unfold canon
      rw [all_dig.mpr h2]
      cases l with
      | nil => exact absurd rfl h1
      | cons d r =>
        by_cases e : d = 48
        · subst e
          have er : r = [] := by
            cases r with
            | nil => rfl
            | cons a b => exact absurd ⟨rfl, by simp⟩ h3
          subst er
          rfl
        · rw [decide_eq_false (show ¬ (d :: r).head? = some 48 from fun q => e (Option.some.inj q))]
          rfl
    unfold natOf at q
    rw [if_pos c] at q
    exact q
  refine ⟨fun σ H' => ∃ y, σ = [some (.str (S l)), y] ∧ H' = H ∧ l ≠ [] ∧ ¬ (l.head? = some 48 ∧ 1 < l.length), ?_, ?_⟩
  · (repeat (first
      | refine ⟨_, rfl, ?_⟩
      | refine ⟨_, _, rfl, rfl, ?_⟩
      | refine Or.inl ⟨_, rfl, ?_⟩
      | refine Or.inr ⟨_, rfl, ?_⟩
      | refine ⟨Or.inl ⟨by decide, by decide⟩, ?_⟩
      | refine ⟨Or.inr ⟨by decide, by decide⟩, ?_⟩
      | refine ⟨⟨by decide, by decide⟩, ?_⟩
      | refine ⟨⟨by decide, by decide, by decide⟩, ?_⟩
      | refine ⟨by decide, ?_⟩
      | refine ⟨(by show (0 : Int) < _; decide), ?_⟩
      | refine ⟨rfl, ?_⟩
      | refine ⟨⟨_, rfl⟩, ?_⟩
      | refine ⟨_, rfl, rfl, trivial, ?_⟩
      | refine ⟨_, _, rfl, ?_⟩))
    refine ite_dec (fun c => ?_) (fun c => ?_)
    · have el : l = [] := by
        have e := congrArg tl (V.str.inj c)
        exact e
      (repeat (first
      | refine ⟨_, rfl, ?_⟩
      | refine ⟨_, _, rfl, rfl, ?_⟩
      | refine Or.inl ⟨_, rfl, ?_⟩
      | refine Or.inr ⟨_, rfl, ?_⟩
      | refine ⟨Or.inl ⟨by decide, by decide⟩, ?_⟩
      | refine ⟨Or.inr ⟨by decide, by decide⟩, ?_⟩
      | refine ⟨⟨by decide, by decide⟩, ?_⟩
      | refine ⟨⟨by decide, by decide, by decide⟩, ?_⟩
      | refine ⟨by decide, ?_⟩
      | refine ⟨(by show (0 : Int) < _; decide), ?_⟩
      | refine ⟨rfl, ?_⟩
      | refine ⟨⟨_, rfl⟩, ?_⟩
      | refine ⟨_, rfl, rfl, trivial, ?_⟩
      | refine ⟨_, _, rfl, ?_⟩))
      exact bad (by rw [el]; rfl)
    · have el : l ≠ [] := fun e => c (by rw [e]; rfl)
      cases l with
      | nil => exact absurd rfl el
      | cons d r =>
        (repeat (first
      | refine ⟨_, rfl, ?_⟩
      | refine ⟨_, _, rfl, rfl, ?_⟩
      | refine Or.inl ⟨_, rfl, ?_⟩
      | refine Or.inr ⟨_, rfl, ?_⟩
      | refine ⟨Or.inl ⟨by decide, by decide⟩, ?_⟩
      | refine ⟨Or.inr ⟨by decide, by decide⟩, ?_⟩
      | refine ⟨⟨by decide, by decide⟩, ?_⟩
      | refine ⟨⟨by decide, by decide, by decide⟩, ?_⟩
      | refine ⟨by decide, ?_⟩
      | refine ⟨(by show (0 : Int) < _; decide), ?_⟩
      | refine ⟨rfl, ?_⟩
      | refine ⟨⟨_, rfl⟩, ?_⟩
      | refine ⟨_, rfl, rfl, trivial, ?_⟩
      | refine ⟨_, _, rfl, ?_⟩))
        refine ⟨_, _, _, rfl, rfl, small (by rw [S_len]; omega), atI_nat (j := 0) rfl, ?_⟩
        (repeat (first
      | refine ⟨_, rfl, ?_⟩
      | refine ⟨_, _, rfl, rfl, ?_⟩
      | refine Or.inl ⟨_, rfl, ?_⟩
      | refine Or.inr ⟨_, rfl, ?_⟩
      | refine ⟨Or.inl ⟨by decide, by decide⟩, ?_⟩
      | refine ⟨Or.inr ⟨by decide, by decide⟩, ?_⟩
      | refine ⟨⟨by decide, by decide⟩, ?_⟩
      | refine ⟨⟨by decide, by decide, by decide⟩, ?_⟩
      | refine ⟨by decide, ?_⟩
      | refine ⟨(by show (0 : Int) < _; decide), ?_⟩
      | refine ⟨rfl, ?_⟩
      | refine ⟨⟨_, rfl⟩, ?_⟩
      | refine ⟨_, rfl, rfl, trivial, ?_⟩
      | refine ⟨_, _, rfl, ?_⟩))
        refine ite_dec (fun c1 => ?_) (fun c1 => ?_)
        · have ed : d = 48 := by
            have e := congrArg tl (V.str.inj c1)
            injection e
          (repeat (first
      | refine ⟨_, rfl, ?_⟩
      | refine ⟨_, _, rfl, rfl, ?_⟩
      | refine Or.inl ⟨_, rfl, ?_⟩
      | refine Or.inr ⟨_, rfl, ?_⟩
      | refine ⟨Or.inl ⟨by decide, by decide⟩, ?_⟩
      | refine ⟨Or.inr ⟨by decide, by decide⟩, ?_⟩
      | refine ⟨⟨by decide, by decide⟩, ?_⟩
      | refine ⟨⟨by decide, by decide, by decide⟩, ?_⟩
      | refine ⟨by decide, ?_⟩
      | refine ⟨(by show (0 : Int) < _; decide), ?_⟩
      | refine ⟨rfl, ?_⟩
      | refine ⟨⟨_, rfl⟩, ?_⟩
      | refine ⟨_, rfl, rfl, trivial, ?_⟩
      | refine ⟨_, _, rfl, ?_⟩))
          refine ⟨small (by rw [S_len]; omega), ?_⟩
          rw [S_len]
          (repeat (first
      | refine ⟨_, rfl, ?_⟩
      | refine ⟨_, _, rfl, rfl, ?_⟩
      | refine Or.inl ⟨_, rfl, ?_⟩
      | refine Or.inr ⟨_, rfl, ?_⟩
      | refine ⟨Or.inl ⟨by decide, by decide⟩, ?_⟩
      | refine ⟨Or.inr ⟨by decide, by decide⟩, ?_⟩
      | refine ⟨⟨by decide, by decide⟩, ?_⟩
      | refine ⟨⟨by decide, by decide, by decide⟩, ?_⟩
      | refine ⟨by decide, ?_⟩
      | refine ⟨(by show (0 : Int) < _; decide), ?_⟩
      | refine ⟨rfl, ?_⟩
      | refine ⟨⟨_, rfl⟩, ?_⟩
      | refine ⟨_, rfl, rfl, trivial, ?_⟩
      | refine ⟨_, _, rfl, ?_⟩))
          refine ite_dec (fun c2 => ?_) (fun c2 => ?_)
          · (repeat (first
      | refine ⟨_, rfl, ?_⟩
      | refine ⟨_, _, rfl, rfl, ?_⟩
      | refine Or.inl ⟨_, rfl, ?_⟩
      | refine Or.inr ⟨_, rfl, ?_⟩
      | refine ⟨Or.inl ⟨by decide, by decide⟩, ?_⟩
      | refine ⟨Or.inr ⟨by decide, by decide⟩, ?_⟩
      | refine ⟨⟨by decide, by decide⟩, ?_⟩
      | refine ⟨⟨by decide, by decide, by decide⟩, ?_⟩
      | refine ⟨by decide, ?_⟩
      | refine ⟨(by show (0 : Int) < _; decide), ?_⟩
      | refine ⟨rfl, ?_⟩
      | refine ⟨⟨_, rfl⟩, ?_⟩
      | refine ⟨_, rfl, rfl, trivial, ?_⟩
      | refine ⟨_, _, rfl, ?_⟩))
            refine bad ?_
            subst ed
            unfold canon
            cases r with
            | nil => exact absurd c2 (by decide)
            | cons a b => simp
          · exact ⟨_, rfl, rfl, el, fun h => c2 (by have := h.2; omega)⟩
        · exact ⟨_, rfl, rfl, el, fun h => c1 (by have e := Option.some.inj h.1; subst e; rfl)⟩
  rintro σ H' ⟨y, rfl, rfl, hne, hno⟩
  (repeat (first
      | refine ⟨_, rfl, ?_⟩
      | refine ⟨_, _, rfl, rfl, ?_⟩
      | refine Or.inl ⟨_, rfl, ?_⟩
      | refine Or.inr ⟨_, rfl, ?_⟩
      | refine ⟨Or.inl ⟨by decide, by decide⟩, ?_⟩
      | refine ⟨Or.inr ⟨by decide, by decide⟩, ?_⟩
      | refine ⟨⟨by decide, by decide⟩, ?_⟩
      | refine ⟨⟨by decide, by decide, by decide⟩, ?_⟩
      | refine ⟨by decide, ?_⟩
      | refine ⟨(by show (0 : Int) < _; decide), ?_⟩
      | refine ⟨rfl, ?_⟩
      | refine ⟨⟨_, rfl⟩, ?_⟩
      | refine ⟨_, rfl, rfl, trivial, ?_⟩
      | refine ⟨_, _, rfl, ?_⟩))
  refine for_its (x := S l) (fun i σ H2 => ∃ y, σ = [some (.str (S l)), y] ∧ H2 = H' ∧ AllDigits (l.take i)) ?_ ?_ ?_
  · exact ⟨_, rfl, rfl, fun c hc => by simp at hc⟩
  · rintro i c σ H2 hc ⟨y, rfl, rfl, hd⟩
    rw [tl_S] at hc
    have hm : c ∈ l := List.mem_of_getElem? hc
    (repeat (first
      | refine ⟨_, rfl, ?_⟩
      | refine ⟨_, _, rfl, rfl, ?_⟩
      | refine Or.inl ⟨_, rfl, ?_⟩
      | refine Or.inr ⟨_, rfl, ?_⟩
      | refine ⟨Or.inl ⟨by decide, by decide⟩, ?_⟩
      | refine ⟨Or.inr ⟨by decide, by decide⟩, ?_⟩
      | refine ⟨⟨by decide, by decide⟩, ?_⟩
      | refine ⟨⟨by decide, by decide, by decide⟩, ?_⟩
      | refine ⟨by decide, ?_⟩
      | refine ⟨(by show (0 : Int) < _; decide), ?_⟩
      | refine ⟨rfl, ?_⟩
      | refine ⟨⟨_, rfl⟩, ?_⟩
      | refine ⟨_, rfl, rfl, trivial, ?_⟩
      | refine ⟨_, _, rfl, ?_⟩))
    refine ite_nb (fun c1 => ?_) (fun c1 => ?_)
    · (repeat (first
      | refine ⟨_, rfl, ?_⟩
      | refine ⟨_, _, rfl, rfl, ?_⟩
      | refine Or.inl ⟨_, rfl, ?_⟩
      | refine Or.inr ⟨_, rfl, ?_⟩
      | refine ⟨Or.inl ⟨by decide, by decide⟩, ?_⟩
      | refine ⟨Or.inr ⟨by decide, by decide⟩, ?_⟩
      | refine ⟨⟨by decide, by decide⟩, ?_⟩
      | refine ⟨⟨by decide, by decide, by decide⟩, ?_⟩
      | refine ⟨by decide, ?_⟩
      | refine ⟨(by show (0 : Int) < _; decide), ?_⟩
      | refine ⟨rfl, ?_⟩
      | refine ⟨⟨_, rfl⟩, ?_⟩
      | refine ⟨_, rfl, rfl, trivial, ?_⟩
      | refine ⟨_, _, rfl, ?_⟩))
      refine bad ?_
      have hn : dig c = false := by
        cases e : dig c with
        | false => rfl
        | true =>
          refine absurd ?_ (of_decide_eq_false c1)
          unfold dig at e
          rw [Bool.and_eq_true] at e
          exact dig_in (of_decide_eq_true e.1) (of_decide_eq_true e.2)
      unfold canon
      have ha : l.all dig = false := by
        cases e : l.all dig with
        | false => rfl
        | true => rw [List.all_eq_true.mp e c hm] at hn; cases hn
      rw [ha, Bool.and_false]
      rfl
    · refine ⟨_, rfl, rfl, ?_⟩
      have hr := in_dig (of_decide_eq_true c1)
      rw [List.take_add_one, hc]
      intro d hd'
      rcases List.mem_append.mp hd' with h | h
      · exact hd d h
      · have e : d = c := by simpa using h
        rw [e]
        exact hr
  · rintro σ H2 ⟨y, rfl, rfl, hd⟩
    rw [tl_S, List.take_length] at hd
    (repeat (first
      | refine ⟨_, rfl, ?_⟩
      | refine ⟨_, _, rfl, rfl, ?_⟩
      | refine Or.inl ⟨_, rfl, ?_⟩
      | refine Or.inr ⟨_, rfl, ?_⟩
      | refine ⟨Or.inl ⟨by decide, by decide⟩, ?_⟩
      | refine ⟨Or.inr ⟨by decide, by decide⟩, ?_⟩
      | refine ⟨⟨by decide, by decide⟩, ?_⟩
      | refine ⟨⟨by decide, by decide, by decide⟩, ?_⟩
      | refine ⟨by decide, ?_⟩
      | refine ⟨(by show (0 : Int) < _; decide), ?_⟩
      | refine ⟨rfl, ?_⟩
      | refine ⟨⟨_, rfl⟩, ?_⟩
      | refine ⟨_, rfl, rfl, trivial, ?_⟩
      | refine ⟨_, _, rfl, ?_⟩))
    refine ⟨_, _, rfl, int_dig hd hne (by omega), by rw [S_len]; exact hl, ?_⟩
    exact fin hne hd hno
end
end My

namespace My
open PySem PySem.Spec PyProof.Rows L2 NumText TL
theorem cut_pre' (x : Str) (h : Nat) : cutS x none (some (h : Int)) = S ((tl x).take h) := by
  by_cases hh : h ≤ x.length
  · exact cut_pre x hh
  · have e : cutS x none (some (h : Int)) = S ((tl x).take x.length) := by
      unfold cutS
      rw [HT.sIx_none, HT.sIx_nat, List.drop_zero, Nat.sub_zero, Nat.min_eq_right (by omega)]
      rfl
    have hl := tl_len x
    rw [e, List.take_of_length_le (by omega), List.take_of_length_le (by omega)]
theorem cut47_bd : ∀ (n : Nat) (l : List Nat), l.length ≤ n → ∀ p ∈ cut47 l, p.length ≤ l.length
  | 0, l, h, p, hp => by
    have e : l = [] := List.length_eq_zero_iff.mp (by omega)
    subst e
    rw [cut47_none (fun _ h => by cases h)] at hp
    rw [List.mem_singleton.mp hp]
    exact Nat.le_refl _
  | n + 1, l, h, p, hp => by
    rcases split47 l with h47 | ⟨a, r, rfl, h47⟩
    · rw [cut47_none h47] at hp
      rw [List.mem_singleton.mp hp]
      exact Nat.le_refl _
    · rw [cut47_one h47] at hp
      rw [List.length_append, List.length_cons] at h ⊢
      rcases List.mem_cons.mp hp with e | hp
      · rw [e]; omega
      · have := cut47_bd n r (by omega) p hp
        omega
theorem split_S (l : List Nat) : Txt.split (S l) (Str.ofString "/") = (cut47 l).map S := by
  refine map_tl_inj ?_
  rw [split_spl _ _ (by decide) (kind_ok (by decide +kernel))]
  show cut47 l = ((cut47 l).map S).map tl
  rw [List.map_map]
  have e : (tl ∘ S) = id := rfl
  rw [e, List.map_id]
section
variable {P : Program} {w : World} {K : PySem.W.Frag} {mg : Str → Option Value} {base : Heap}
theorem ok_law_read (T : Top K mg) : FnOk P w K mg base CX0 2 T.a_law_read T.d_law_read ["text"] (sp_read K 600) := by
  refine T.F_law_read.ok sc_law_read (fun vs H Q E h => ?_) (fun cdv A outer s H vs Q E hr h => ?_)
  · obtain ⟨x, rfl, _⟩ := h
    rfl
  obtain ⟨l, rfl, hl, q⟩ := h
  refine ⟨_, (pss_cons (ps_set (i := 1) sc_law_read.nd rfl (Or.inl rfl) pe_int)
      (pss_cons (ps_set (i := 2) sc_law_read.nd rfl (Or.inl rfl) (pv 0))
      (C8.pss_cut (ps_if (pt_cmpR op_eq (pe_slice sl_str (pv 0) po_none (po_some pe_int)) pe_str (nomark _))
        (pss_cons (ps_set (i := 1) sc_law_read.nd rfl (Or.inl rfl) (pe_un un_neg pe_int))
      (pss_one (ps_set (i := 2) sc_law_read.nd rfl (Or.inl rfl) (pe_slice sl_str (pv 0) (po_some pe_int) po_none))))
        pss_nil)
      (pss_cons (ps_set (i := 3) sc_law_read.nd rfl (Or.inl rfl) (pe_m1 PySem.F.slot_str_split PySem.F.type_str_split mt_split (pv 2) pe_str))
      (pss_cons (ps_set (i := 4) sc_law_read.nd rfl (Or.inl rfl) (pe_call ((ok_law_digits T).mono (by decide)) hr (by rfl) T.m_law_digits T.F_law_digits.kp T.b_law_digits .nil pass0 (pa_cons (pe_ix ix_list (pv 3) pe_int (fun _ _ => rfl)) pa_nil)))
      (C8.pss_cut (ps_if (PW.pt (pw_or (pt_cmpR op_isN (pv 4) pe_non (nomark _)) (pw_or (pt_cmpR op_gt (pe_callB call_len_seq (by rfl) T.z_len (by decide +kernel) (pa_cons (pv 3) pa_nil)) pe_int (nomark _)) (pw_or1 (PW.pt (pw_and (pt_cmpR op_lt (pv 1) pe_int (nomark _)) (pw_and1 (pt_cmpR op_eq (pv 4) pe_int (nomark _)))))))))
        (pss_one (ps_ret pe_non))
        pss_nil)
      (pss_cons (ps_if (pt_cmpR op_eq (pe_callB call_len_seq (by rfl) T.z_len (by decide +kernel) (pa_cons (pv 3) pa_nil)) pe_int (nomark _))
        (pss_one (ps_ret (pe_tup (pa_cons (pe_op op_mul (pv 1) (pv 4)) (pa_cons pe_int pa_nil)))))
        pss_nil)
      (pss_cons (ps_set (i := 5) sc_law_read.nd rfl (Or.inl rfl) (pe_call ((ok_law_digits T).mono (by decide)) hr (by rfl) T.m_law_digits T.F_law_digits.kp T.b_law_digits .nil pass0 (pa_cons (pe_ix ix_list (pv 3) pe_int (fun _ _ => rfl)) pa_nil)))
      (pss_cons (ps_if (PW.pt (pw_or (pt_cmpR op_isN (pv 5) pe_non (nomark _)) (pw_or (pt_cmpR op_lt (pv 5) pe_int (nomark _)) (pw_or1 (pt_cmpR op_ne (pe_call ((ok_law_common T).mono (by decide)) hr (by rfl) T.m_law_common T.F_law_common.kp T.b_law_common .nil pass0 (pa_cons (pv 4) (pa_cons (pv 5) pa_nil))) pe_int (nomark _))))))
        (pss_one (ps_ret pe_non))
        pss_nil)
      (pss_one (ps_ret (pe_tup (pa_cons (pe_op op_mul (pv 1) (pv 4)) (pa_cons (pv 5) pa_nil)))))))))))))), ?_⟩
  (repeat (first
      | refine ⟨_, rfl, ?_⟩
      | refine ⟨_, _, rfl, rfl, ?_⟩
      | refine Or.inl ⟨_, rfl, ?_⟩
      | refine Or.inr ⟨_, rfl, ?_⟩
      | refine ⟨Or.inl ⟨by decide, by decide⟩, ?_⟩
      | refine ⟨Or.inr ⟨by decide, by decide⟩, ?_⟩
      | refine ⟨⟨by decide, by decide⟩, ?_⟩
      | refine ⟨⟨by decide, by decide, by decide⟩, ?_⟩
      | refine ⟨by decide, ?_⟩
      | refine ⟨(by show (0 : Int) < _; decide), ?_⟩
      | refine ⟨rfl, ?_⟩
      | refine ⟨⟨_, rfl⟩, ?_⟩
      | refine ⟨_, rfl, rfl, trivial, ?_⟩
      | refine ⟨_, _, rfl, ?_⟩))
  refine ⟨fun σ H' => ∃ (sg : Bool) (b : List Nat) (y3 y4 y5 : Option V), σ = [some (.str (S l)), some (.int (if sg = true then -1 else 1)), some (.str (S b)), y3, y4, y5] ∧ H' = H ∧ ratOf l = lawOf sg b ∧ b.length ≤ 600, ?_, ?_⟩
  · (repeat (first
      | refine ⟨_, rfl, ?_⟩
      | refine ⟨_, _, rfl, rfl, ?_⟩
      | refine Or.inl ⟨_, rfl, ?_⟩
      | refine Or.inr ⟨_, rfl, ?_⟩
      | refine ⟨Or.inl ⟨by decide, by decide⟩, ?_⟩
      | refine ⟨Or.inr ⟨by decide, by decide⟩, ?_⟩
      | refine ⟨⟨by decide, by decide⟩, ?_⟩
      | refine ⟨⟨by decide, by decide, by decide⟩, ?_⟩
      | refine ⟨by decide, ?_⟩
      | refine ⟨(by show (0 : Int) < _; decide), ?_⟩
      | refine ⟨rfl, ?_⟩
      | refine ⟨⟨_, rfl⟩, ?_⟩
      | refine ⟨_, rfl, rfl, trivial, ?_⟩
      | refine ⟨_, _, rfl, ?_⟩))
    refine ⟨small (by rw [S_len]; omega), ?_⟩
    have e1 : cutS (S l) none (some 1) = S (l.take 1) := cut_pre' (S l) 1
    rw [e1]
    (repeat (first
      | refine ⟨_, rfl, ?_⟩
      | refine ⟨_, _, rfl, rfl, ?_⟩
      | refine Or.inl ⟨_, rfl, ?_⟩
      | refine Or.inr ⟨_, rfl, ?_⟩
      | refine ⟨Or.inl ⟨by decide, by decide⟩, ?_⟩
      | refine ⟨Or.inr ⟨by decide, by decide⟩, ?_⟩
      | refine ⟨⟨by decide, by decide⟩, ?_⟩
      | refine ⟨⟨by decide, by decide, by decide⟩, ?_⟩
      | refine ⟨by decide, ?_⟩
      | refine ⟨(by show (0 : Int) < _; decide), ?_⟩
      | refine ⟨rfl, ?_⟩
      | refine ⟨⟨_, rfl⟩, ?_⟩
      | refine ⟨_, rfl, rfl, trivial, ?_⟩
      | refine ⟨_, _, rfl, ?_⟩))
    refine ite_dec (fun c => ?_) (fun c => ?_)
    · have hh : l.head? = some 45 := by
        have e := congrArg tl (V.str.inj c)
        rw [tl_S, show tl (Str.ofString "-") = [45] from rfl] at e
        cases l with
        | nil => cases e
        | cons d r =>
          injection e with e
          rw [e]
          rfl
      (repeat (first
      | refine ⟨_, rfl, ?_⟩
      | refine ⟨_, _, rfl, rfl, ?_⟩
      | refine Or.inl ⟨_, rfl, ?_⟩
      | refine Or.inr ⟨_, rfl, ?_⟩
      | refine ⟨Or.inl ⟨by decide, by decide⟩, ?_⟩
      | refine ⟨Or.inr ⟨by decide, by decide⟩, ?_⟩
      | refine ⟨⟨by decide, by decide⟩, ?_⟩
      | refine ⟨⟨by decide, by decide, by decide⟩, ?_⟩
      | refine ⟨by decide, ?_⟩
      | refine ⟨(by show (0 : Int) < _; decide), ?_⟩
      | refine ⟨rfl, ?_⟩
      | refine ⟨⟨_, rfl⟩, ?_⟩
      | refine ⟨_, rfl, rfl, trivial, ?_⟩
      | refine ⟨_, _, rfl, ?_⟩))
      refine ⟨small (by rw [S_len]; omega), ?_⟩
      have e2 : cutS (S l) (some 1) none = S l.tail := by
        have e := cut_from (S l) 1
        rw [tl_S, List.drop_one] at e
        exact e
      rw [e2]
      exact ⟨true, l.tail, _, _, _, rfl, rfl, by rw [law_same, if_pos hh], by rw [List.length_tail]; omega⟩
    · have hh : ¬ l.head? = some 45 := fun h => c (by
        cases l with
        | nil => cases h
        | cons d r =>
          have e := Option.some.inj h
          subst e
          rfl)
      exact ⟨false, l, _, _, _, rfl, rfl, by rw [law_same, if_neg hh], hl⟩
  rintro σ H' ⟨sg, b, y3, y4, y5, rfl, rfl, hlaw, hb⟩
  rw [hlaw] at q
  unfold lawOf at q
  have hbd := cut47_bd _ b (Nat.le_refl _)
  have hsg : (sg = true → (if sg = true then (-1 : Int) else 1) = -1) ∧ (sg = false → (if sg = true then (-1 : Int) else 1) = 1) := by
    cases sg <;> decide
  have hsm : ∀ t : Nat, (if sg = true then (-1 : Int) else 1) * (t : Int) = if sg = true then -(t : Int) else t := fun t => by
    cases sg
    · exact Int.one_mul _
    · exact Int.neg_one_mul _
  have hsb : CMul (if sg = true then (-1 : Int) else 1) 0 := by cases sg <;> exact .inl ⟨by decide, by decide⟩
  have hsc : ∀ j : Int, CMul (if sg = true then (-1 : Int) else 1) j := fun j => by cases sg <;> exact .inl ⟨by decide, by decide⟩
  generalize hsv : (if sg = true then (-1 : Int) else 1) = sv at *
  (repeat (first
      | refine ⟨_, rfl, ?_⟩
      | refine ⟨_, _, rfl, rfl, ?_⟩
      | refine Or.inl ⟨_, rfl, ?_⟩
      | refine Or.inr ⟨_, rfl, ?_⟩
      | refine ⟨Or.inl ⟨by decide, by decide⟩, ?_⟩
      | refine ⟨Or.inr ⟨by decide, by decide⟩, ?_⟩
      | refine ⟨⟨by decide, by decide⟩, ?_⟩
      | refine ⟨⟨by decide, by decide, by decide⟩, ?_⟩
      | refine ⟨by decide, ?_⟩
      | refine ⟨(by show (0 : Int) < _; decide), ?_⟩
      | refine ⟨rfl, ?_⟩
      | refine ⟨⟨_, rfl⟩, ?_⟩
      | refine ⟨_, rfl, rfl, trivial, ?_⟩
      | refine ⟨_, _, rfl, ?_⟩))
  refine ⟨by rw [S_len]; exact small (by omega), fun p hp => ?_⟩
  rw [split_S]
  have sP : ∀ o, L2.Same H' (upd H' p o) := fun o => same_upd hp
  have hP : ∀ o : HO, (upd H' p o) p = some o := fun o => upd_same
  cases hc : cut47 b with
  | nil =>
    have := cut47_len b
    rw [hc] at this
    exact absurd this (by decide)
  | cons p0 rest =>
  rw [hc] at q hbd
  have l0 : p0.length ≤ 600 := Nat.le_trans (hbd p0 List.mem_cons_self) hb
  simp only [List.headD_cons, List.length_cons] at q
  have hS : SqL K (upd H' p (.lst (List.map V.str (List.map S (p0 :: rest))))) p (List.map V.str (List.map S (p0 :: rest))) := SqL.of upd_same
  generalize hH : upd H' p (.lst (List.map V.str (List.map S (p0 :: rest)))) = H1 at *
  have s1 : L2.Same H' H1 := by rw [← hH]; exact sP _
  (repeat (first
      | refine ⟨_, rfl, ?_⟩
      | refine ⟨_, _, rfl, rfl, ?_⟩
      | refine Or.inl ⟨_, rfl, ?_⟩
      | refine Or.inr ⟨_, rfl, ?_⟩
      | refine ⟨Or.inl ⟨by decide, by decide⟩, ?_⟩
      | refine ⟨Or.inr ⟨by decide, by decide⟩, ?_⟩
      | refine ⟨⟨by decide, by decide⟩, ?_⟩
      | refine ⟨⟨by decide, by decide, by decide⟩, ?_⟩
      | refine ⟨by decide, ?_⟩
      | refine ⟨(by show (0 : Int) < _; decide), ?_⟩
      | refine ⟨rfl, ?_⟩
      | refine ⟨⟨_, rfl⟩, ?_⟩
      | refine ⟨_, rfl, rfl, trivial, ?_⟩
      | refine ⟨_, _, rfl, ?_⟩))
  refine ⟨p, _, _, _, rfl, rfl, hS, atI_nat (j := 0) rfl, ?_⟩
  refine ⟨p0, rfl, by omega, ?_⟩
  (repeat (first
      | refine ⟨_, rfl, ?_⟩
      | refine ⟨_, _, rfl, rfl, ?_⟩
      | refine Or.inl ⟨_, rfl, ?_⟩
      | refine Or.inr ⟨_, rfl, ?_⟩
      | refine ⟨Or.inl ⟨by decide, by decide⟩, ?_⟩
      | refine ⟨Or.inr ⟨by decide, by decide⟩, ?_⟩
      | refine ⟨⟨by decide, by decide⟩, ?_⟩
      | refine ⟨⟨by decide, by decide, by decide⟩, ?_⟩
      | refine ⟨by decide, ?_⟩
      | refine ⟨(by show (0 : Int) < _; decide), ?_⟩
      | refine ⟨rfl, ?_⟩
      | refine ⟨⟨_, rfl⟩, ?_⟩
      | refine ⟨_, rfl, rfl, trivial, ?_⟩
      | refine ⟨_, _, rfl, ?_⟩))
  refine ⟨fun σ H'' => ∃ (t : Nat), σ = [some (.str (S l)), some (.int sv), some (.str (S b)), some (.ref p), some (.int (t : Int)), y5] ∧ H'' = H1 ∧ natOf p0 = some t ∧ ¬ (2 < rest.length + 1 ∨ (sg = true ∧ t = 0)), ?_, ?_⟩
  · cases hn : natOf p0 with
    | none =>
      rw [hn] at q
      (repeat (first
      | refine ⟨_, rfl, ?_⟩
      | refine ⟨_, _, rfl, rfl, ?_⟩
      | refine Or.inl ⟨_, rfl, ?_⟩
      | refine Or.inr ⟨_, rfl, ?_⟩
      | refine ⟨Or.inl ⟨by decide, by decide⟩, ?_⟩
      | refine ⟨Or.inr ⟨by decide, by decide⟩, ?_⟩
      | refine ⟨⟨by decide, by decide⟩, ?_⟩
      | refine ⟨⟨by decide, by decide, by decide⟩, ?_⟩
      | refine ⟨by decide, ?_⟩
      | refine ⟨(by show (0 : Int) < _; decide), ?_⟩
      | refine ⟨rfl, ?_⟩
      | refine ⟨⟨_, rfl⟩, ?_⟩
      | refine ⟨_, rfl, rfl, trivial, ?_⟩
      | refine ⟨_, _, rfl, ?_⟩))
      exact q _ _ s1 non_rD
    | some t =>
    rw [hn] at q
    simp only at q
    have hsg' : sv < 0 ↔ sg = true := by
      rw [← hsv]
      cases sg <;> decide
    (repeat (first
      | refine ⟨_, rfl, ?_⟩
      | refine ⟨_, _, rfl, rfl, ?_⟩
      | refine Or.inl ⟨_, rfl, ?_⟩
      | refine Or.inr ⟨_, rfl, ?_⟩
      | refine ⟨Or.inl ⟨by decide, by decide⟩, ?_⟩
      | refine ⟨Or.inr ⟨by decide, by decide⟩, ?_⟩
      | refine ⟨⟨by decide, by decide⟩, ?_⟩
      | refine ⟨⟨by decide, by decide, by decide⟩, ?_⟩
      | refine ⟨by decide, ?_⟩
      | refine ⟨(by show (0 : Int) < _; decide), ?_⟩
      | refine ⟨rfl, ?_⟩
      | refine ⟨⟨_, rfl⟩, ?_⟩
      | refine ⟨_, rfl, rfl, trivial, ?_⟩
      | refine ⟨_, _, rfl, ?_⟩))
    refine ⟨p, _, rfl, .inl hS, ?_⟩
    (repeat (first
      | refine ⟨_, rfl, ?_⟩
      | refine ⟨_, _, rfl, rfl, ?_⟩
      | refine Or.inl ⟨_, rfl, ?_⟩
      | refine Or.inr ⟨_, rfl, ?_⟩
      | refine ⟨Or.inl ⟨by decide, by decide⟩, ?_⟩
      | refine ⟨Or.inr ⟨by decide, by decide⟩, ?_⟩
      | refine ⟨⟨by decide, by decide⟩, ?_⟩
      | refine ⟨⟨by decide, by decide, by decide⟩, ?_⟩
      | refine ⟨by decide, ?_⟩
      | refine ⟨(by show (0 : Int) < _; decide), ?_⟩
      | refine ⟨rfl, ?_⟩
      | refine ⟨⟨_, rfl⟩, ?_⟩
      | refine ⟨_, rfl, rfl, trivial, ?_⟩
      | refine ⟨_, _, rfl, ?_⟩))
    rw [List.length_map, List.length_map, List.length_cons]
    refine ite_dec (fun c => ?_) (fun c => ?_)
    · rw [if_pos (.inl (by omega))] at q
      (repeat (first
      | refine ⟨_, rfl, ?_⟩
      | refine ⟨_, _, rfl, rfl, ?_⟩
      | refine Or.inl ⟨_, rfl, ?_⟩
      | refine Or.inr ⟨_, rfl, ?_⟩
      | refine ⟨Or.inl ⟨by decide, by decide⟩, ?_⟩
      | refine ⟨Or.inr ⟨by decide, by decide⟩, ?_⟩
      | refine ⟨⟨by decide, by decide⟩, ?_⟩
      | refine ⟨⟨by decide, by decide, by decide⟩, ?_⟩
      | refine ⟨by decide, ?_⟩
      | refine ⟨(by show (0 : Int) < _; decide), ?_⟩
      | refine ⟨rfl, ?_⟩
      | refine ⟨⟨_, rfl⟩, ?_⟩
      | refine ⟨_, rfl, rfl, trivial, ?_⟩
      | refine ⟨_, _, rfl, ?_⟩))
      exact q _ _ s1 non_rD
    (repeat (first
      | refine ⟨_, rfl, ?_⟩
      | refine ⟨_, _, rfl, rfl, ?_⟩
      | refine Or.inl ⟨_, rfl, ?_⟩
      | refine Or.inr ⟨_, rfl, ?_⟩
      | refine ⟨Or.inl ⟨by decide, by decide⟩, ?_⟩
      | refine ⟨Or.inr ⟨by decide, by decide⟩, ?_⟩
      | refine ⟨⟨by decide, by decide⟩, ?_⟩
      | refine ⟨⟨by decide, by decide, by decide⟩, ?_⟩
      | refine ⟨by decide, ?_⟩
      | refine ⟨(by show (0 : Int) < _; decide), ?_⟩
      | refine ⟨rfl, ?_⟩
      | refine ⟨⟨_, rfl⟩, ?_⟩
      | refine ⟨_, rfl, rfl, trivial, ?_⟩
      | refine ⟨_, _, rfl, ?_⟩))
    refine ite_dec (fun c1 => ?_) (fun c1 => ?_)
    · (repeat (first
      | refine ⟨_, rfl, ?_⟩
      | refine ⟨_, _, rfl, rfl, ?_⟩
      | refine Or.inl ⟨_, rfl, ?_⟩
      | refine Or.inr ⟨_, rfl, ?_⟩
      | refine ⟨Or.inl ⟨by decide, by decide⟩, ?_⟩
      | refine ⟨Or.inr ⟨by decide, by decide⟩, ?_⟩
      | refine ⟨⟨by decide, by decide⟩, ?_⟩
      | refine ⟨⟨by decide, by decide, by decide⟩, ?_⟩
      | refine ⟨by decide, ?_⟩
      | refine ⟨(by show (0 : Int) < _; decide), ?_⟩
      | refine ⟨rfl, ?_⟩
      | refine ⟨⟨_, rfl⟩, ?_⟩
      | refine ⟨_, rfl, rfl, trivial, ?_⟩
      | refine ⟨_, _, rfl, ?_⟩))
      refine ite_dec (fun c2 => ?_) (fun c2 => ?_)
      · have e0 : t = 0 := by have := V.int.inj c2; omega
        rw [if_pos (.inr ⟨hsg'.mp c1, e0⟩)] at q
        (repeat (first
      | refine ⟨_, rfl, ?_⟩
      | refine ⟨_, _, rfl, rfl, ?_⟩
      | refine Or.inl ⟨_, rfl, ?_⟩
      | refine Or.inr ⟨_, rfl, ?_⟩
      | refine ⟨Or.inl ⟨by decide, by decide⟩, ?_⟩
      | refine ⟨Or.inr ⟨by decide, by decide⟩, ?_⟩
      | refine ⟨⟨by decide, by decide⟩, ?_⟩
      | refine ⟨⟨by decide, by decide, by decide⟩, ?_⟩
      | refine ⟨by decide, ?_⟩
      | refine ⟨(by show (0 : Int) < _; decide), ?_⟩
      | refine ⟨rfl, ?_⟩
      | refine ⟨⟨_, rfl⟩, ?_⟩
      | refine ⟨_, rfl, rfl, trivial, ?_⟩
      | refine ⟨_, _, rfl, ?_⟩))
        exact q _ _ s1 non_rD
      · exact ⟨t, rfl, rfl, rfl, fun h => by
          rcases h with h | h
          · omega
          · exact c2 (by rw [h.2]; rfl)⟩
    · exact ⟨t, rfl, rfl, rfl, fun h => by
        rcases h with h | h
        · omega
        · exact c1 (hsg'.mpr h.1)⟩
  rintro σ H'' ⟨t, rfl, rfl, hn, hno⟩
  rw [hn] at q
  simp only at q
  rw [if_neg hno] at q
  (repeat (first
      | refine ⟨_, rfl, ?_⟩
      | refine ⟨_, _, rfl, rfl, ?_⟩
      | refine Or.inl ⟨_, rfl, ?_⟩
      | refine Or.inr ⟨_, rfl, ?_⟩
      | refine ⟨Or.inl ⟨by decide, by decide⟩, ?_⟩
      | refine ⟨Or.inr ⟨by decide, by decide⟩, ?_⟩
      | refine ⟨⟨by decide, by decide⟩, ?_⟩
      | refine ⟨⟨by decide, by decide, by decide⟩, ?_⟩
      | refine ⟨by decide, ?_⟩
      | refine ⟨(by show (0 : Int) < _; decide), ?_⟩
      | refine ⟨rfl, ?_⟩
      | refine ⟨⟨_, rfl⟩, ?_⟩
      | refine ⟨_, rfl, rfl, trivial, ?_⟩
      | refine ⟨_, _, rfl, ?_⟩))
  refine ⟨p, _, rfl, .inl hS, ?_⟩
  (repeat (first
      | refine ⟨_, rfl, ?_⟩
      | refine ⟨_, _, rfl, rfl, ?_⟩
      | refine Or.inl ⟨_, rfl, ?_⟩
      | refine Or.inr ⟨_, rfl, ?_⟩
      | refine ⟨Or.inl ⟨by decide, by decide⟩, ?_⟩
      | refine ⟨Or.inr ⟨by decide, by decide⟩, ?_⟩
      | refine ⟨⟨by decide, by decide⟩, ?_⟩
      | refine ⟨⟨by decide, by decide, by decide⟩, ?_⟩
      | refine ⟨by decide, ?_⟩
      | refine ⟨(by show (0 : Int) < _; decide), ?_⟩
      | refine ⟨rfl, ?_⟩
      | refine ⟨⟨_, rfl⟩, ?_⟩
      | refine ⟨_, rfl, rfl, trivial, ?_⟩
      | refine ⟨_, _, rfl, ?_⟩))
  rw [List.length_map, List.length_map, List.length_cons]
  refine ite_dec (fun c => ?_) (fun c => ?_)
  · have e1 : rest.length + 1 = 1 := by have := V.int.inj c; omega
    rw [if_pos e1] at q
    (repeat (first
      | refine ⟨_, rfl, ?_⟩
      | refine ⟨_, _, rfl, rfl, ?_⟩
      | refine Or.inl ⟨_, rfl, ?_⟩
      | refine Or.inr ⟨_, rfl, ?_⟩
      | refine ⟨Or.inl ⟨by decide, by decide⟩, ?_⟩
      | refine ⟨Or.inr ⟨by decide, by decide⟩, ?_⟩
      | refine ⟨⟨by decide, by decide⟩, ?_⟩
      | refine ⟨⟨by decide, by decide, by decide⟩, ?_⟩
      | refine ⟨by decide, ?_⟩
      | refine ⟨(by show (0 : Int) < _; decide), ?_⟩
      | refine ⟨rfl, ?_⟩
      | refine ⟨⟨_, rfl⟩, ?_⟩
      | refine ⟨_, rfl, rfl, trivial, ?_⟩
      | refine ⟨_, _, rfl, ?_⟩))
    refine ⟨hsc _, ?_⟩
    (repeat (first
      | refine ⟨_, rfl, ?_⟩
      | refine ⟨_, _, rfl, rfl, ?_⟩
      | refine Or.inl ⟨_, rfl, ?_⟩
      | refine Or.inr ⟨_, rfl, ?_⟩
      | refine ⟨Or.inl ⟨by decide, by decide⟩, ?_⟩
      | refine ⟨Or.inr ⟨by decide, by decide⟩, ?_⟩
      | refine ⟨⟨by decide, by decide⟩, ?_⟩
      | refine ⟨⟨by decide, by decide, by decide⟩, ?_⟩
      | refine ⟨by decide, ?_⟩
      | refine ⟨(by show (0 : Int) < _; decide), ?_⟩
      | refine ⟨rfl, ?_⟩
      | refine ⟨⟨_, rfl⟩, ?_⟩
      | refine ⟨_, rfl, rfl, trivial, ?_⟩
      | refine ⟨_, _, rfl, ?_⟩))
    refine ⟨(by show 2 ≤ sizeLine; decide), fun p2 h2 => ?_⟩
    exact q _ _ (s1.trans (same_upd h2)) (Nm.rD (x := (if sg = true then -(t : Int) else t, 1)) (Nm.new (by rw [← hsm]; exact upd_same)))
  have e1 : ¬ rest.length + 1 = 1 := fun e => c (by rw [e]; rfl)
  rw [if_neg e1] at q
  cases rest with
  | nil => exact absurd rfl e1
  | cons p1 rest =>
  have l1 : p1.length ≤ 600 := Nat.le_trans (hbd p1 (List.mem_cons_of_mem _ List.mem_cons_self)) hb
  simp only [List.getD_cons_succ, List.getD_cons_zero] at q
  (repeat (first
      | refine ⟨_, rfl, ?_⟩
      | refine ⟨_, _, rfl, rfl, ?_⟩
      | refine Or.inl ⟨_, rfl, ?_⟩
      | refine Or.inr ⟨_, rfl, ?_⟩
      | refine ⟨Or.inl ⟨by decide, by decide⟩, ?_⟩
      | refine ⟨Or.inr ⟨by decide, by decide⟩, ?_⟩
      | refine ⟨⟨by decide, by decide⟩, ?_⟩
      | refine ⟨⟨by decide, by decide, by decide⟩, ?_⟩
      | refine ⟨by decide, ?_⟩
      | refine ⟨(by show (0 : Int) < _; decide), ?_⟩
      | refine ⟨rfl, ?_⟩
      | refine ⟨⟨_, rfl⟩, ?_⟩
      | refine ⟨_, rfl, rfl, trivial, ?_⟩
      | refine ⟨_, _, rfl, ?_⟩))
  refine ⟨p, _, _, _, rfl, rfl, hS, atI_nat (j := 1) rfl, ?_⟩
  refine ⟨p1, rfl, by omega, ?_⟩
  cases hd : natOf p1 with
  | none =>
    rw [hd] at q
    (repeat (first
      | refine ⟨_, rfl, ?_⟩
      | refine ⟨_, _, rfl, rfl, ?_⟩
      | refine Or.inl ⟨_, rfl, ?_⟩
      | refine Or.inr ⟨_, rfl, ?_⟩
      | refine ⟨Or.inl ⟨by decide, by decide⟩, ?_⟩
      | refine ⟨Or.inr ⟨by decide, by decide⟩, ?_⟩
      | refine ⟨⟨by decide, by decide⟩, ?_⟩
      | refine ⟨⟨by decide, by decide, by decide⟩, ?_⟩
      | refine ⟨by decide, ?_⟩
      | refine ⟨(by show (0 : Int) < _; decide), ?_⟩
      | refine ⟨rfl, ?_⟩
      | refine ⟨⟨_, rfl⟩, ?_⟩
      | refine ⟨_, rfl, rfl, trivial, ?_⟩
      | refine ⟨_, _, rfl, ?_⟩))
    exact q _ _ s1 non_rD
  | some d =>
  rw [hd] at q
  simp only at q
  have hdb : d < 2 ^ 10000 := by
    obtain ⟨ad, _, ev⟩ := natOf_some hd
    rw [ev]
    exact Nat.lt_of_lt_of_le (dv_lt ad) (Nat.le_trans (Nat.pow_le_pow_right (by decide) l1) (by decide +kernel))
  (repeat (first
      | refine ⟨_, rfl, ?_⟩
      | refine ⟨_, _, rfl, rfl, ?_⟩
      | refine Or.inl ⟨_, rfl, ?_⟩
      | refine Or.inr ⟨_, rfl, ?_⟩
      | refine ⟨Or.inl ⟨by decide, by decide⟩, ?_⟩
      | refine ⟨Or.inr ⟨by decide, by decide⟩, ?_⟩
      | refine ⟨⟨by decide, by decide⟩, ?_⟩
      | refine ⟨⟨by decide, by decide, by decide⟩, ?_⟩
      | refine ⟨by decide, ?_⟩
      | refine ⟨(by show (0 : Int) < _; decide), ?_⟩
      | refine ⟨rfl, ?_⟩
      | refine ⟨⟨_, rfl⟩, ?_⟩
      | refine ⟨_, rfl, rfl, trivial, ?_⟩
      | refine ⟨_, _, rfl, ?_⟩))
  refine ite_dec (fun c1 => ?_) (fun c1 => ?_)
  · rw [if_pos (.inl (by omega))] at q
    (repeat (first
      | refine ⟨_, rfl, ?_⟩
      | refine ⟨_, _, rfl, rfl, ?_⟩
      | refine Or.inl ⟨_, rfl, ?_⟩
      | refine Or.inr ⟨_, rfl, ?_⟩
      | refine ⟨Or.inl ⟨by decide, by decide⟩, ?_⟩
      | refine ⟨Or.inr ⟨by decide, by decide⟩, ?_⟩
      | refine ⟨⟨by decide, by decide⟩, ?_⟩
      | refine ⟨⟨by decide, by decide, by decide⟩, ?_⟩
      | refine ⟨by decide, ?_⟩
      | refine ⟨(by show (0 : Int) < _; decide), ?_⟩
      | refine ⟨rfl, ?_⟩
      | refine ⟨⟨_, rfl⟩, ?_⟩
      | refine ⟨_, rfl, rfl, trivial, ?_⟩
      | refine ⟨_, _, rfl, ?_⟩))
    exact q _ _ s1 non_rD
  (repeat (first
      | refine ⟨_, rfl, ?_⟩
      | refine ⟨_, _, rfl, rfl, ?_⟩
      | refine Or.inl ⟨_, rfl, ?_⟩
      | refine Or.inr ⟨_, rfl, ?_⟩
      | refine ⟨Or.inl ⟨by decide, by decide⟩, ?_⟩
      | refine ⟨Or.inr ⟨by decide, by decide⟩, ?_⟩
      | refine ⟨⟨by decide, by decide⟩, ?_⟩
      | refine ⟨⟨by decide, by decide, by decide⟩, ?_⟩
      | refine ⟨by decide, ?_⟩
      | refine ⟨(by show (0 : Int) < _; decide), ?_⟩
      | refine ⟨rfl, ?_⟩
      | refine ⟨⟨_, rfl⟩, ?_⟩
      | refine ⟨_, rfl, rfl, trivial, ?_⟩
      | refine ⟨_, _, rfl, ?_⟩))
  refine ⟨hdb, ?_⟩
  (repeat (first
      | refine ⟨_, rfl, ?_⟩
      | refine ⟨_, _, rfl, rfl, ?_⟩
      | refine Or.inl ⟨_, rfl, ?_⟩
      | refine Or.inr ⟨_, rfl, ?_⟩
      | refine ⟨Or.inl ⟨by decide, by decide⟩, ?_⟩
      | refine ⟨Or.inr ⟨by decide, by decide⟩, ?_⟩
      | refine ⟨⟨by decide, by decide⟩, ?_⟩
      | refine ⟨⟨by decide, by decide, by decide⟩, ?_⟩
      | refine ⟨by decide, ?_⟩
      | refine ⟨(by show (0 : Int) < _; decide), ?_⟩
      | refine ⟨rfl, ?_⟩
      | refine ⟨⟨_, rfl⟩, ?_⟩
      | refine ⟨_, rfl, rfl, trivial, ?_⟩
      | refine ⟨_, _, rfl, ?_⟩))
  refine ite_nb (fun c2 => ?_) (fun c2 => ?_)
  · have hg : ¬ Nat.gcd t d = 1 := fun e => of_decide_eq_false c2 (by rw [e]; rfl)
    rw [if_pos (.inr hg)] at q
    (repeat (first
      | refine ⟨_, rfl, ?_⟩
      | refine ⟨_, _, rfl, rfl, ?_⟩
      | refine Or.inl ⟨_, rfl, ?_⟩
      | refine Or.inr ⟨_, rfl, ?_⟩
      | refine ⟨Or.inl ⟨by decide, by decide⟩, ?_⟩
      | refine ⟨Or.inr ⟨by decide, by decide⟩, ?_⟩
      | refine ⟨⟨by decide, by decide⟩, ?_⟩
      | refine ⟨⟨by decide, by decide, by decide⟩, ?_⟩
      | refine ⟨by decide, ?_⟩
      | refine ⟨(by show (0 : Int) < _; decide), ?_⟩
      | refine ⟨rfl, ?_⟩
      | refine ⟨⟨_, rfl⟩, ?_⟩
      | refine ⟨_, rfl, rfl, trivial, ?_⟩
      | refine ⟨_, _, rfl, ?_⟩))
    exact q _ _ s1 non_rD
  · have hg : Nat.gcd t d = 1 := by have e := V.int.inj (of_decide_eq_true c2); omega
    rw [if_neg (by rw [hg]; omega)] at q
    (repeat (first
      | refine ⟨_, rfl, ?_⟩
      | refine ⟨_, _, rfl, rfl, ?_⟩
      | refine Or.inl ⟨_, rfl, ?_⟩
      | refine Or.inr ⟨_, rfl, ?_⟩
      | refine ⟨Or.inl ⟨by decide, by decide⟩, ?_⟩
      | refine ⟨Or.inr ⟨by decide, by decide⟩, ?_⟩
      | refine ⟨⟨by decide, by decide⟩, ?_⟩
      | refine ⟨⟨by decide, by decide, by decide⟩, ?_⟩
      | refine ⟨by decide, ?_⟩
      | refine ⟨(by show (0 : Int) < _; decide), ?_⟩
      | refine ⟨rfl, ?_⟩
      | refine ⟨⟨_, rfl⟩, ?_⟩
      | refine ⟨_, rfl, rfl, trivial, ?_⟩
      | refine ⟨_, _, rfl, ?_⟩))
    refine ⟨hsc _, ?_⟩
    (repeat (first
      | refine ⟨_, rfl, ?_⟩
      | refine ⟨_, _, rfl, rfl, ?_⟩
      | refine Or.inl ⟨_, rfl, ?_⟩
      | refine Or.inr ⟨_, rfl, ?_⟩
      | refine ⟨Or.inl ⟨by decide, by decide⟩, ?_⟩
      | refine ⟨Or.inr ⟨by decide, by decide⟩, ?_⟩
      | refine ⟨⟨by decide, by decide⟩, ?_⟩
      | refine ⟨⟨by decide, by decide, by decide⟩, ?_⟩
      | refine ⟨by decide, ?_⟩
      | refine ⟨(by show (0 : Int) < _; decide), ?_⟩
      | refine ⟨rfl, ?_⟩
      | refine ⟨⟨_, rfl⟩, ?_⟩
      | refine ⟨_, rfl, rfl, trivial, ?_⟩
      | refine ⟨_, _, rfl, ?_⟩))
    refine ⟨(by show 2 ≤ sizeLine; decide), fun p2 h2 => ?_⟩
    exact q _ _ (s1.trans (same_upd h2)) (Nm.rD (x := (if sg = true then -(t : Int) else t, (d : Int))) (Nm.new (by rw [← hsm]; exact upd_same)))
end
end My

namespace My
open PySem PySem.Spec PyProof.Rows L2 NumText TL
theorem joinL_nil : ∀ ps : List (List Nat), joinL [] ps = ps.flatten
  | [] => rfl
  | [p] => by simp [joinL]
  | p :: q :: r => by
    show p ++ ([] ++ joinL [] (q :: r)) = _
    rw [joinL_nil (q :: r)]
    simp
theorem join_S (ls : List (List Nat)) : Txt.join (Str.ofString "") (ls.map S) = S ls.flatten := by
  refine ext_tl ?_
  rw [join_eq, tl_join, tl_S]
  have e : (ls.map S).map tl = ls := by
    rw [List.map_map]
    have e : (tl ∘ S) = id := rfl
    rw [e, List.map_id]
  rw [e, show tl (Str.ofString "") = [] from rfl, joinL_nil]
theorem zfill_num {r : Nat} (h : r < 10 ^ 64) : Txt.zfill (S (numL r)) 64 = S (dg 64 r) := by
  have hl := numL_le (k := 64) (by decide) h
  rw [dg_pad 64 r (by decide) h]
  unfold Txt.zfill
  rw [S_len]
  by_cases h64 : (numL r).length = 64
  · rw [if_pos (by omega), h64]
    rfl
  · rw [if_neg (by omega)]
    have e : (64 : Int).toNat - (numL r).length = 64 - (numL r).length := rfl
    rw [e]
    unfold zfilled
    have hd : ∀ c, (S (numL r)).cps[0]? = some c → 48 ≤ c := fun c hc => by
      have h1 : (numL r)[0]? = some c := by
        rw [← hc]
        exact (List.getElem?_toArray).symm
      exact (numL_digits r c (List.mem_of_getElem? h1)).1
    have fin : Builtin.Str.padded (S (numL r)) (64 - (numL r).length) 0 48 = S (List.replicate (64 - (numL r).length) 48 ++ numL r) := by
      refine ext_tl ?_
      unfold Builtin.Str.padded S tl
      simp
    split
    · rename_i h43
      exact absurd (hd _ h43) (by decide)
    · rename_i h45
      exact absurd (hd _ h45) (by decide)
    · exact fin
theorem sum_S : ∀ ls : List (List Nat), ((ls.map S).map (·.length)).sum = ls.flatten.length
  | [] => rfl
  | l :: r => by
    rw [List.map_cons, List.map_cons, List.sum_cons, sum_S r, List.flatten_cons, List.length_append, S_len]
theorem dg_len : ∀ k r, (dg k r).length = k
  | 0, _ => rfl
  | k + 1, r => by
    show (dg k (r / 10) ++ [48 + r % 10]).length = _
    rw [List.length_append, dg_len k]
    rfl
theorem divP (x : Int) : CDivP x ((10 : Int) ^ (64 : Int).toNat) := by
  refine ⟨by decide +kernel, ?_⟩
  unfold Builtin.divisionGoesByPylong
  have e : (decide ((if ((10 : Int) ^ (64 : Int).toNat == 0) = true then 0 else ((10 : Int) ^ (64 : Int).toNat).natAbs.log2 / 30 + 1) > 300)) = false := by decide +kernel
  show (decide ((if ((10 : Int) ^ (64 : Int).toNat == 0) = true then 0 else ((10 : Int) ^ (64 : Int).toNat).natAbs.log2 / 30 + 1) > 300) && _) = false
  rw [e]
  rfl
theorem log_of {n k : Nat} (h : n < 2 ^ k) (hk : 0 < k) : n.log2 < k := by
  by_cases h0 : n = 0
  · subst h0
    exact hk
  · exact (Nat.log2_lt h0).mpr h
section
variable {P : Program} {w : World} {K : PySem.W.Frag} {mg : Str → Option Value} {base : Heap}
def sp_write_natural : Sp := fun vs H Q _ => ∃ (n : Nat), vs = [.int (n : Int)] ∧ n < 10 ^ 1000 ∧ ∀ H', L2.Same H H' → Q (.str (S (numL n))) H'
theorem ok_write_natural (T : Top K mg) : FnOk P w K mg base CX0 1 T.a_write_natural T.d_write_natural ["value"] sp_write_natural := by
  refine T.F_write_natural.ok sc_write_natural (fun vs H Q E h => ?_) (fun cdv A outer s H vs Q E hr h => ?_)
  · obtain ⟨x, rfl, _⟩ := h
    rfl
  obtain ⟨n, rfl, hn, q⟩ := h
  have hnl := numL_le (k := 1000) (by decide) hn
  refine ⟨_, (pss_cons (ps_set (i := 1) sc_write_natural.nd rfl (Or.inl rfl) (pe_lst pa_nil))
      (pss_cons (ps_while PassesOwn.never (pt_cmpR op_ge (pv 0) (pe_op op_pow pe_int pe_int) (nomark _))
        (pss_cons (ps_asg (pe_callB call_divmodW (by rfl) T.z_divmod (by decide +kernel) (pa_cons (pv 0) (pa_cons (pe_op op_pow pe_int pe_int) pa_nil))) (pg_tup (by rfl) (pgs_cons (pg_name (i := 0) sc_write_natural.nd rfl (Or.inl rfl)) (pgs_cons (pg_name (i := 2) sc_write_natural.nd rfl (Or.inl rfl)) pgs_nil))))
      (pss_one (ps_expr (pe_bm PySem.F.plainAttrs_list PySem.F.slot_list_append PySem.F.type_list_append mt_append (pv 1) (pa_cons (pe_m1 PySem.F.slot_str_zfill PySem.F.type_str_zfill mt_zfill (pe_callTy call_str_int (by rfl) T.z_str (by decide +kernel) (pa_cons (pv 2) pa_nil)) pe_int) pa_nil))))))
      (pss_cons (ps_expr (pe_bm PySem.F.plainAttrs_list PySem.F.slot_list_append PySem.F.type_list_append mt_append (pv 1) (pa_cons (pe_callTy call_str_int (by rfl) T.z_str (by decide +kernel) (pa_cons (pv 0) pa_nil)) pa_nil)))
      (pss_one (ps_ret (pe_m1 PySem.F.slot_str_join PySem.F.type_str_join mt_join pe_str (pe_revL (pv 1)))))))), ?_⟩
  refine ⟨Nat.zero_le _, fun p hp => ?_⟩
  have e64 : ((10 : Int) ^ (64 : Int).toNat) = ((10 ^ 64 : Nat) : Int) := by decide +kernel
  refine ⟨fun m σ H' => ∃ (v : Nat) (ls : List (List Nat)) (y2 : Option V), m = v ∧ σ = [some (.int (v : Int)), some (.ref p), y2] ∧ L2.Same H H' ∧ H' p = some (.lst ((ls.map S).map V.str)) ∧ numL v ++ ls.reverse.flatten = numL n ∧ (∀ l ∈ ls, l.length = 64) ∧ (numL v).length + 64 * ls.length ≤ 1000, ⟨n, n, [], _, rfl, rfl, same_upd hp, upd_same, by simp, (fun _ h => by cases h), by simpa using hnl⟩, ?_⟩
  rintro m σ H' ⟨v, ls, y2, rfl, rfl, sm, hl, hnum, h64, hlen⟩
  have hpos : 1 ≤ (numL m).length := by
    cases e : numL m with
    | nil => exact absurd e (numL_ne m)
    | cons _ _ => simp
  (repeat (first
      | refine ⟨_, rfl, ?_⟩
      | refine ⟨_, _, rfl, rfl, ?_⟩
      | refine Or.inl ⟨_, rfl, ?_⟩
      | refine Or.inr ⟨_, rfl, ?_⟩
      | refine ⟨Or.inl ⟨by decide, by decide⟩, ?_⟩
      | refine ⟨Or.inr ⟨by decide, by decide⟩, ?_⟩
      | refine ⟨⟨by decide, by decide⟩, ?_⟩
      | refine ⟨⟨by decide, by decide, by decide⟩, ?_⟩
      | refine ⟨by decide, ?_⟩
      | refine ⟨(by show (0 : Int) < _; decide), ?_⟩
      | refine ⟨rfl, ?_⟩
      | refine ⟨⟨_, rfl⟩, ?_⟩
      | refine ⟨_, rfl, rfl, trivial, ?_⟩
      | refine ⟨_, _, rfl, ?_⟩))
  rw [e64]
  refine ite_dec (fun c => ?_) (fun c => ?_)
  · have hge : 10 ^ 64 ≤ m := by omega
    refine ⟨fun σ H'' => ∃ (ls' : List (List Nat)) (y2 : Option V), σ = [some (.int ((m / 10 ^ 64 : Nat) : Int)), some (.ref p), y2] ∧ L2.Same H H'' ∧ H'' p = some (.lst ((ls'.map S).map V.str)) ∧ numL (m / 10 ^ 64) ++ ls'.reverse.flatten = numL n ∧ (∀ l ∈ ls', l.length = 64) ∧ (numL (m / 10 ^ 64)).length + 64 * ls'.length ≤ 1000, ?_, ?_⟩
    · rintro σ' H'' ⟨ls', y2, rfl, sm', hl', hn', h64', hlen'⟩
      exact ⟨m / 10 ^ 64, Nat.div_lt_self (by omega) (by decide), _, ls', y2, rfl, rfl, sm', hl', hn', h64', hlen'⟩
    · have hr : m % 10 ^ 64 < 10 ^ 64 := Nat.mod_lt _ (by decide)
      have hq : 1 ≤ m / 10 ^ 64 := Nat.div_pos hge (by decide)
      have hsplit : numL m = numL (m / 10 ^ 64) ++ dg 64 (m % 10 ^ 64) := by
        have e := numL_grp 64 (m / 10 ^ 64) (m % 10 ^ 64) hq hr
        rw [Nat.div_add_mod' m (10 ^ 64)] at e
        exact e
      (repeat (first
      | refine ⟨_, rfl, ?_⟩
      | refine ⟨_, _, rfl, rfl, ?_⟩
      | refine Or.inl ⟨_, rfl, ?_⟩
      | refine Or.inr ⟨_, rfl, ?_⟩
      | refine ⟨Or.inl ⟨by decide, by decide⟩, ?_⟩
      | refine ⟨Or.inr ⟨by decide, by decide⟩, ?_⟩
      | refine ⟨⟨by decide, by decide⟩, ?_⟩
      | refine ⟨⟨by decide, by decide, by decide⟩, ?_⟩
      | refine ⟨by decide, ?_⟩
      | refine ⟨(by show (0 : Int) < _; decide), ?_⟩
      | refine ⟨rfl, ?_⟩
      | refine ⟨⟨_, rfl⟩, ?_⟩
      | refine ⟨_, rfl, rfl, trivial, ?_⟩
      | refine ⟨_, _, rfl, ?_⟩))
      refine ⟨divP _, fun t ht => ?_⟩
      have hpt : p ≠ t := ne_of_none hl ht
      have e1 : ((m : Int) / ((10 : Int) ^ (64 : Int).toNat)) = ((m / 10 ^ 64 : Nat) : Int) := by rw [e64]; rfl
      have e2 : ((m : Int) % ((10 : Int) ^ (64 : Int).toNat)) = ((m % 10 ^ 64 : Nat) : Int) := by rw [e64]; rfl
      rw [e1, e2]
      refine ⟨t, _, rfl, SqT.of upd_same, rfl, _, _, rfl, _, _, rfl, rfl, ?_⟩
      (repeat (first
      | refine ⟨_, rfl, ?_⟩
      | refine ⟨_, _, rfl, rfl, ?_⟩
      | refine Or.inl ⟨_, rfl, ?_⟩
      | refine Or.inr ⟨_, rfl, ?_⟩
      | refine ⟨Or.inl ⟨by decide, by decide⟩, ?_⟩
      | refine ⟨Or.inr ⟨by decide, by decide⟩, ?_⟩
      | refine ⟨⟨by decide, by decide⟩, ?_⟩
      | refine ⟨⟨by decide, by decide, by decide⟩, ?_⟩
      | refine ⟨by decide, ?_⟩
      | refine ⟨(by show (0 : Int) < _; decide), ?_⟩
      | refine ⟨rfl, ?_⟩
      | refine ⟨⟨_, rfl⟩, ?_⟩
      | refine ⟨_, rfl, rfl, trivial, ?_⟩
      | refine ⟨_, _, rfl, ?_⟩))
      refine ⟨.inl ⟨rfl, _, SqL.of (by rw [upd_ne hpt]; exact hl)⟩, ?_⟩
      (repeat (first
      | refine ⟨_, rfl, ?_⟩
      | refine ⟨_, _, rfl, rfl, ?_⟩
      | refine Or.inl ⟨_, rfl, ?_⟩
      | refine Or.inr ⟨_, rfl, ?_⟩
      | refine ⟨Or.inl ⟨by decide, by decide⟩, ?_⟩
      | refine ⟨Or.inr ⟨by decide, by decide⟩, ?_⟩
      | refine ⟨⟨by decide, by decide⟩, ?_⟩
      | refine ⟨⟨by decide, by decide, by decide⟩, ?_⟩
      | refine ⟨by decide, ?_⟩
      | refine ⟨(by show (0 : Int) < _; decide), ?_⟩
      | refine ⟨rfl, ?_⟩
      | refine ⟨⟨_, rfl⟩, ?_⟩
      | refine ⟨_, rfl, rfl, trivial, ?_⟩
      | refine ⟨_, _, rfl, ?_⟩))
      refine ⟨by rw [Int.natAbs_natCast]; exact log_of (Nat.lt_trans hr (by decide +kernel)) (by decide), ?_⟩
      rw [S_num]
      (repeat (first
      | refine ⟨_, rfl, ?_⟩
      | refine ⟨_, _, rfl, rfl, ?_⟩
      | refine Or.inl ⟨_, rfl, ?_⟩
      | refine Or.inr ⟨_, rfl, ?_⟩
      | refine ⟨Or.inl ⟨by decide, by decide⟩, ?_⟩
      | refine ⟨Or.inr ⟨by decide, by decide⟩, ?_⟩
      | refine ⟨⟨by decide, by decide⟩, ?_⟩
      | refine ⟨⟨by decide, by decide, by decide⟩, ?_⟩
      | refine ⟨by decide, ?_⟩
      | refine ⟨(by show (0 : Int) < _; decide), ?_⟩
      | refine ⟨rfl, ?_⟩
      | refine ⟨⟨_, rfl⟩, ?_⟩
      | refine ⟨_, rfl, rfl, trivial, ?_⟩
      | refine ⟨_, _, rfl, ?_⟩))
      rw [zfill_num hr]
      refine ⟨p, _, _, rfl, rfl, by rw [upd_ne hpt]; exact hl, smallL (by rw [List.length_map, List.length_map]; omega), ?_⟩
      refine ⟨ls ++ [dg 64 (m % 10 ^ 64)], _, rfl, ?_, ?_, ?_, ?_, ?_⟩
      · exact same_upd2 hp (sm.trans (same_upd ht))
      · rw [upd_same, List.map_append, List.map_append]
        rfl
      · rw [List.reverse_append, List.flatten_append, ← hnum, hsplit]
        simp
      · intro l h
        rcases List.mem_append.mp h with h | h
        · exact h64 l h
        · rw [List.mem_singleton.mp h]
          exact dg_len _ _
      · have hh := congrArg List.length hsplit
        rw [List.length_append, dg_len] at hh
        rw [List.length_append]
        simp only [List.length_singleton]
        omega
  · have hlt : m < 10 ^ 64 := by omega
    have hpH : H p = none := hp
    (repeat (first
      | refine ⟨_, rfl, ?_⟩
      | refine ⟨_, _, rfl, rfl, ?_⟩
      | refine Or.inl ⟨_, rfl, ?_⟩
      | refine Or.inr ⟨_, rfl, ?_⟩
      | refine ⟨Or.inl ⟨by decide, by decide⟩, ?_⟩
      | refine ⟨Or.inr ⟨by decide, by decide⟩, ?_⟩
      | refine ⟨⟨by decide, by decide⟩, ?_⟩
      | refine ⟨⟨by decide, by decide, by decide⟩, ?_⟩
      | refine ⟨by decide, ?_⟩
      | refine ⟨(by show (0 : Int) < _; decide), ?_⟩
      | refine ⟨rfl, ?_⟩
      | refine ⟨⟨_, rfl⟩, ?_⟩
      | refine ⟨_, rfl, rfl, trivial, ?_⟩
      | refine ⟨_, _, rfl, ?_⟩))
    refine ⟨.inl ⟨rfl, _, SqL.of hl⟩, ?_⟩
    (repeat (first
      | refine ⟨_, rfl, ?_⟩
      | refine ⟨_, _, rfl, rfl, ?_⟩
      | refine Or.inl ⟨_, rfl, ?_⟩
      | refine Or.inr ⟨_, rfl, ?_⟩
      | refine ⟨Or.inl ⟨by decide, by decide⟩, ?_⟩
      | refine ⟨Or.inr ⟨by decide, by decide⟩, ?_⟩
      | refine ⟨⟨by decide, by decide⟩, ?_⟩
      | refine ⟨⟨by decide, by decide, by decide⟩, ?_⟩
      | refine ⟨by decide, ?_⟩
      | refine ⟨(by show (0 : Int) < _; decide), ?_⟩
      | refine ⟨rfl, ?_⟩
      | refine ⟨⟨_, rfl⟩, ?_⟩
      | refine ⟨_, rfl, rfl, trivial, ?_⟩
      | refine ⟨_, _, rfl, ?_⟩))
    refine ⟨by rw [Int.natAbs_natCast]; exact log_of (Nat.lt_trans hlt (by decide +kernel)) (by decide), ?_⟩
    rw [S_num]
    refine ⟨p, _, _, rfl, rfl, hl, smallL (by rw [List.length_map, List.length_map]; omega), ?_⟩
    (repeat (first
      | refine ⟨_, rfl, ?_⟩
      | refine ⟨_, _, rfl, rfl, ?_⟩
      | refine Or.inl ⟨_, rfl, ?_⟩
      | refine Or.inr ⟨_, rfl, ?_⟩
      | refine ⟨Or.inl ⟨by decide, by decide⟩, ?_⟩
      | refine ⟨Or.inr ⟨by decide, by decide⟩, ?_⟩
      | refine ⟨⟨by decide, by decide⟩, ?_⟩
      | refine ⟨⟨by decide, by decide, by decide⟩, ?_⟩
      | refine ⟨by decide, ?_⟩
      | refine ⟨(by show (0 : Int) < _; decide), ?_⟩
      | refine ⟨rfl, ?_⟩
      | refine ⟨⟨_, rfl⟩, ?_⟩
      | refine ⟨_, rfl, rfl, trivial, ?_⟩
      | refine ⟨_, _, rfl, ?_⟩))
    refine ⟨p, _, rfl, SqL.of upd_same, fun p2 h2 => ?_⟩
    have er : (((ls.map S).map V.str) ++ [V.str (S (numL m))]).reverse = ((numL m :: ls.reverse).map S).map V.str := by
      rw [List.reverse_append]
      simp
    refine ⟨_, p2, (numL m :: ls.reverse).map S, rfl, rfl, .inl (SqL.of (by rw [upd_same, er])), ?_, ?_⟩
    · rw [sum_S, List.flatten_cons, hnum]
      show (numL n).length + _ * 0 ≤ _
      omega
    · rw [join_S, List.flatten_cons, hnum]
      exact q _ (same_upd2 (same_upd2 hp sm |>.free h2) (same_upd2 hp sm))
/-! ### write_number -/
def sp_write_number (K : PySem.W.Frag) : Sp := fun vs H Q _ => ∃ (p : Addr) (x : Q2), vs = [.ref p] ∧ Nm K H p x ∧ 0 < x.2 ∧ x.1.natAbs < 10 ^ 1000 ∧ x.2.natAbs < 10 ^ 1000 ∧ ∀ H', L2.Same H H' → Q (.str (S (ratL x))) H'
theorem ratL_len {x : Q2} (h1 : x.1.natAbs < 10 ^ 1000) (h2 : x.2.natAbs < 10 ^ 1000) : (intL x.1).length ≤ 1001 ∧ (ratL x).length ≤ 2002 := by
  have a := numL_le (k := 1000) (by decide) h1
  have b := numL_le (k := 1000) (by decide) h2
  have c : (intL x.1).length ≤ 1001 := by
    unfold intL
    split
    · rw [List.length_cons]; omega
    · omega
  refine ⟨c, ?_⟩
  unfold ratL
  rw [List.length_append]
  split
  · simp only [List.length_nil]; omega
  · rw [List.length_cons]; omega
theorem ok_write_number (T : Top K mg) : FnOk P w K mg base CX0 2 T.a_write_number T.d_write_number ["pair"] (sp_write_number K) := by
  refine T.F_write_number.ok sc_write_number (fun vs H Q E h => ?_) (fun cdv A outer s H vs Q E hr h => ?_)
  · obtain ⟨p, x, rfl, _⟩ := h
    rfl
  obtain ⟨p, ⟨t, b⟩, rfl, hp, hb, h1, h2, q⟩ := h
  simp only at hb h1 h2
  obtain ⟨l1, l2⟩ := ratL_len (x := (t, b)) h1 h2
  have l1 : (intL t).length ≤ 1001 := l1
  have a1 := numL_le (k := 1000) (by decide) h1
  have b1 := numL_le (k := 1000) (by decide) h2
  refine ⟨_, (pss_cons (ps_asg (pv 0) (pg_tup (by rfl) (pgs_cons (pg_name (i := 1) sc_write_number.nd rfl (Or.inl rfl)) (pgs_cons (pg_name (i := 2) sc_write_number.nd rfl (Or.inl rfl)) pgs_nil))))
      (pss_cons (ps_set (i := 3) sc_write_number.nd rfl (Or.inl rfl) (pe_call ((ok_write_natural T).mono (by decide)) hr (by rfl) T.m_write_natural T.F_write_natural.kp T.b_write_natural .nil pass0 (pa_cons (pe_callB call_abs (by rfl) T.z_abs (by decide +kernel) (pa_cons (pv 1) pa_nil)) pa_nil)))
      (C8.pss_cut (ps_if (pt_cmpR op_lt (pv 1) pe_int (nomark _))
        (pss_one (ps_set (i := 3) sc_write_number.nd rfl (Or.inl rfl) (pe_op op_add_str pe_str (pv 3))))
        pss_nil)
      (C8.pss_cut (ps_if (pt_cmpR op_gt (pv 2) pe_int (nomark _))
        (pss_one (ps_set (i := 3) sc_write_number.nd rfl (Or.inl rfl) (pe_op op_add_str (pe_op op_add_str (pv 3) pe_str) (pe_call ((ok_write_natural T).mono (by decide)) hr (by rfl) T.m_write_natural T.F_write_natural.kp T.b_write_natural .nil pass0 (pa_cons (pv 2) pa_nil)))))
        pss_nil)
      (pss_one (ps_ret (pv 3))))))), ?_⟩
  refine ⟨_, rfl, p, _, rfl, hp, rfl, _, _, rfl, _, _, rfl, rfl, ?_⟩
  (repeat (first
      | refine ⟨_, rfl, ?_⟩
      | refine ⟨_, _, rfl, rfl, ?_⟩
      | refine Or.inl ⟨_, rfl, ?_⟩
      | refine Or.inr ⟨_, rfl, ?_⟩
      | refine ⟨Or.inl ⟨by decide, by decide⟩, ?_⟩
      | refine ⟨Or.inr ⟨by decide, by decide⟩, ?_⟩
      | refine ⟨⟨by decide, by decide⟩, ?_⟩
      | refine ⟨⟨by decide, by decide, by decide⟩, ?_⟩
      | refine ⟨by decide, ?_⟩
      | refine ⟨(by show (0 : Int) < _; decide), ?_⟩
      | refine ⟨rfl, ?_⟩
      | refine ⟨⟨_, rfl⟩, ?_⟩
      | refine ⟨_, rfl, rfl, trivial, ?_⟩
      | refine ⟨_, _, rfl, ?_⟩))
  have ea : (if t < 0 then -t else t) = ((t.natAbs : Nat) : Int) := by split <;> omega
  rw [ea]
  refine ⟨t.natAbs, rfl, h1, fun H1 s1 => ?_⟩
  refine ⟨fun σ H' => σ = [some (.ref p), some (.int t), some (.int b), some (.str (S (intL t)))] ∧ H' = H1, ?_, ?_⟩
  · (repeat (first
      | refine ⟨_, rfl, ?_⟩
      | refine ⟨_, _, rfl, rfl, ?_⟩
      | refine Or.inl ⟨_, rfl, ?_⟩
      | refine Or.inr ⟨_, rfl, ?_⟩
      | refine ⟨Or.inl ⟨by decide, by decide⟩, ?_⟩
      | refine ⟨Or.inr ⟨by decide, by decide⟩, ?_⟩
      | refine ⟨⟨by decide, by decide⟩, ?_⟩
      | refine ⟨⟨by decide, by decide, by decide⟩, ?_⟩
      | refine ⟨by decide, ?_⟩
      | refine ⟨(by show (0 : Int) < _; decide), ?_⟩
      | refine ⟨rfl, ?_⟩
      | refine ⟨⟨_, rfl⟩, ?_⟩
      | refine ⟨_, rfl, rfl, trivial, ?_⟩
      | refine ⟨_, _, rfl, ?_⟩))
    refine ite_dec (fun c => ?_) (fun c => ?_)
    · (repeat (first
      | refine ⟨_, rfl, ?_⟩
      | refine ⟨_, _, rfl, rfl, ?_⟩
      | refine Or.inl ⟨_, rfl, ?_⟩
      | refine Or.inr ⟨_, rfl, ?_⟩
      | refine ⟨Or.inl ⟨by decide, by decide⟩, ?_⟩
      | refine ⟨Or.inr ⟨by decide, by decide⟩, ?_⟩
      | refine ⟨⟨by decide, by decide⟩, ?_⟩
      | refine ⟨⟨by decide, by decide, by decide⟩, ?_⟩
      | refine ⟨by decide, ?_⟩
      | refine ⟨(by show (0 : Int) < _; decide), ?_⟩
      | refine ⟨rfl, ?_⟩
      | refine ⟨⟨_, rfl⟩, ?_⟩
      | refine ⟨_, rfl, rfl, trivial, ?_⟩
      | refine ⟨_, _, rfl, ?_⟩))
      refine ⟨small (by rw [S_len]; show 1 + _ ≤ _; omega), ?_⟩
      refine ⟨?_, rfl⟩
      have e : Str.ofString "-" ++ S (numL t.natAbs) = S (intL t) := by
        unfold intL
        rw [if_pos c]
        exact S_app [45] _
      rw [e]
      rfl
    · refine ⟨?_, rfl⟩
      unfold intL
      rw [if_neg c]
      rfl
  rintro σ H' ⟨rfl, rfl⟩
  refine ⟨fun σ H2 => ∃ y0 y1 y2, σ = [y0, y1, y2, some (.str (S (ratL (t, b))))] ∧ L2.Same H H2, ?_, ?_⟩
  · (repeat (first
      | refine ⟨_, rfl, ?_⟩
      | refine ⟨_, _, rfl, rfl, ?_⟩
      | refine Or.inl ⟨_, rfl, ?_⟩
      | refine Or.inr ⟨_, rfl, ?_⟩
      | refine ⟨Or.inl ⟨by decide, by decide⟩, ?_⟩
      | refine ⟨Or.inr ⟨by decide, by decide⟩, ?_⟩
      | refine ⟨⟨by decide, by decide⟩, ?_⟩
      | refine ⟨⟨by decide, by decide, by decide⟩, ?_⟩
      | refine ⟨by decide, ?_⟩
      | refine ⟨(by show (0 : Int) < _; decide), ?_⟩
      | refine ⟨rfl, ?_⟩
      | refine ⟨⟨_, rfl⟩, ?_⟩
      | refine ⟨_, rfl, rfl, trivial, ?_⟩
      | refine ⟨_, _, rfl, ?_⟩))
    refine ite_dec (fun c => ?_) (fun c => ?_)
    · (repeat (first
      | refine ⟨_, rfl, ?_⟩
      | refine ⟨_, _, rfl, rfl, ?_⟩
      | refine Or.inl ⟨_, rfl, ?_⟩
      | refine Or.inr ⟨_, rfl, ?_⟩
      | refine ⟨Or.inl ⟨by decide, by decide⟩, ?_⟩
      | refine ⟨Or.inr ⟨by decide, by decide⟩, ?_⟩
      | refine ⟨⟨by decide, by decide⟩, ?_⟩
      | refine ⟨⟨by decide, by decide, by decide⟩, ?_⟩
      | refine ⟨by decide, ?_⟩
      | refine ⟨(by show (0 : Int) < _; decide), ?_⟩
      | refine ⟨rfl, ?_⟩
      | refine ⟨⟨_, rfl⟩, ?_⟩
      | refine ⟨_, rfl, rfl, trivial, ?_⟩
      | refine ⟨_, _, rfl, ?_⟩))
      refine ⟨small (by rw [S_len]; show _ + 1 ≤ _; omega), ?_⟩
      have eb : b = ((b.natAbs : Nat) : Int) := by omega
      refine ⟨_, rfl, b.natAbs, by rw [← eb]; rfl, h2, fun H2 s2 => ?_⟩
      have e1 : S (intL t) ++ Str.ofString "/" = S (intL t ++ [47]) := S_app _ [47]
      rw [e1]
      refine ⟨_, _, rfl, rfl, small (by rw [S_len, S_len, List.length_append]; show _ + 1 + _ ≤ _; omega), ?_⟩
      rw [S_app]
      have e2 : intL t ++ [47] ++ numL b.natAbs = ratL (t, b) := by
        unfold ratL
        rw [if_neg (by show ¬ b = 1; omega)]
        simp
      rw [e2]
      exact ⟨_, _, _, rfl, s1.trans s2⟩
    · have hb1 : b = 1 := by omega
      have e2 : ratL (t, b) = intL t := by
        unfold ratL
        rw [if_pos hb1, List.append_nil]
      rw [e2]
      exact ⟨_, _, _, rfl, s1⟩
  rintro σ H2 ⟨y0, y1, y2, rfl, s2⟩
  (repeat (first
      | refine ⟨_, rfl, ?_⟩
      | refine ⟨_, _, rfl, rfl, ?_⟩
      | refine Or.inl ⟨_, rfl, ?_⟩
      | refine Or.inr ⟨_, rfl, ?_⟩
      | refine ⟨Or.inl ⟨by decide, by decide⟩, ?_⟩
      | refine ⟨Or.inr ⟨by decide, by decide⟩, ?_⟩
      | refine ⟨⟨by decide, by decide⟩, ?_⟩
      | refine ⟨⟨by decide, by decide, by decide⟩, ?_⟩
      | refine ⟨by decide, ?_⟩
      | refine ⟨(by show (0 : Int) < _; decide), ?_⟩
      | refine ⟨rfl, ?_⟩
      | refine ⟨⟨_, rfl⟩, ?_⟩
      | refine ⟨_, rfl, rfl, trivial, ?_⟩
      | refine ⟨_, _, rfl, ?_⟩))
  exact q _ s2
/-! ### _law_text -/
def sp_law_text (K : PySem.W.Frag) : Sp := fun vs H Q _ => ∃ (p : Addr) (x : Q2), vs = [.ref p] ∧ Nm K H p x ∧ 0 < x.2 ∧ x.1.natAbs < 2 ^ 1900 ∧ x.2.natAbs < 2 ^ 1900 ∧ Q (.str (S (ratL x))) H
theorem p1900 {n : Nat} (h : n < 2 ^ 1900) : n < 10 ^ 1000 := Nat.lt_trans h (by decide +kernel)
theorem ok_law_text (T : Top K mg) : FnOk P w K mg base CX0 1 T.a_law_text T.d_law_text ["pair"] (sp_law_text K) := by
  refine T.F_law_text.ok sc_law_text (fun vs H Q E h => ?_) (fun cdv A outer s H vs Q E hr h => ?_)
  · obtain ⟨p, x, rfl, _⟩ := h
    rfl
  obtain ⟨p, ⟨t, b⟩, rfl, hp, hb, h1, h2, q⟩ := h
  simp only at hb h1 h2
  obtain ⟨l1, l2⟩ := ratL_len (x := (t, b)) (p1900 h1) (p1900 h2)
  have l1 : (intL t).length ≤ 1001 := l1
  refine ⟨_, (pss_cons (ps_if (pt_cmpR op_eq (pe_ix ix_tup (pv 0) pe_int (fun _ _ => rfl)) pe_int (nomark _))
        (pss_one (ps_ret (pe_callTy call_str_int (by rfl) T.z_str (by decide +kernel) (pa_cons (pe_ix ix_tup (pv 0) pe_int (fun _ _ => rfl)) pa_nil))))
        pss_nil)
      (pss_one (ps_ret (pe_op op_add_str (pe_op op_add_str (pe_callTy call_str_int (by rfl) T.z_str (by decide +kernel) (pa_cons (pe_ix ix_tup (pv 0) pe_int (fun _ _ => rfl)) pa_nil)) pe_str) (pe_callTy call_str_int (by rfl) T.z_str (by decide +kernel) (pa_cons (pe_ix ix_tup (pv 0) pe_int (fun _ _ => rfl)) pa_nil)))))), ?_⟩
  (repeat (first
      | refine ⟨_, rfl, ?_⟩
      | refine ⟨_, _, rfl, rfl, ?_⟩
      | refine Or.inl ⟨_, rfl, ?_⟩
      | refine Or.inr ⟨_, rfl, ?_⟩
      | refine ⟨Or.inl ⟨by decide, by decide⟩, ?_⟩
      | refine ⟨Or.inr ⟨by decide, by decide⟩, ?_⟩
      | refine ⟨⟨by decide, by decide⟩, ?_⟩
      | refine ⟨⟨by decide, by decide, by decide⟩, ?_⟩
      | refine ⟨by decide, ?_⟩
      | refine ⟨(by show (0 : Int) < _; decide), ?_⟩
      | refine ⟨rfl, ?_⟩
      | refine ⟨⟨_, rfl⟩, ?_⟩
      | refine ⟨_, rfl, rfl, trivial, ?_⟩
      | refine ⟨_, _, rfl, ?_⟩))
  refine ⟨p, _, _, _, rfl, rfl, hp, atI_nat (j := 1) rfl, ?_⟩
  (repeat (first
      | refine ⟨_, rfl, ?_⟩
      | refine ⟨_, _, rfl, rfl, ?_⟩
      | refine Or.inl ⟨_, rfl, ?_⟩
      | refine Or.inr ⟨_, rfl, ?_⟩
      | refine ⟨Or.inl ⟨by decide, by decide⟩, ?_⟩
      | refine ⟨Or.inr ⟨by decide, by decide⟩, ?_⟩
      | refine ⟨⟨by decide, by decide⟩, ?_⟩
      | refine ⟨⟨by decide, by decide, by decide⟩, ?_⟩
      | refine ⟨by decide, ?_⟩
      | refine ⟨(by show (0 : Int) < _; decide), ?_⟩
      | refine ⟨rfl, ?_⟩
      | refine ⟨⟨_, rfl⟩, ?_⟩
      | refine ⟨_, rfl, rfl, trivial, ?_⟩
      | refine ⟨_, _, rfl, ?_⟩))
  refine ite_dec (fun c => ?_) (fun c => ?_)
  · have hb1 : b = 1 := V.int.inj c
    (repeat (first
      | refine ⟨_, rfl, ?_⟩
      | refine ⟨_, _, rfl, rfl, ?_⟩
      | refine Or.inl ⟨_, rfl, ?_⟩
      | refine Or.inr ⟨_, rfl, ?_⟩
      | refine ⟨Or.inl ⟨by decide, by decide⟩, ?_⟩
      | refine ⟨Or.inr ⟨by decide, by decide⟩, ?_⟩
      | refine ⟨⟨by decide, by decide⟩, ?_⟩
      | refine ⟨⟨by decide, by decide, by decide⟩, ?_⟩
      | refine ⟨by decide, ?_⟩
      | refine ⟨(by show (0 : Int) < _; decide), ?_⟩
      | refine ⟨rfl, ?_⟩
      | refine ⟨⟨_, rfl⟩, ?_⟩
      | refine ⟨_, rfl, rfl, trivial, ?_⟩
      | refine ⟨_, _, rfl, ?_⟩))
    refine ⟨p, _, _, _, rfl, rfl, hp, atI_nat (j := 0) rfl, ?_⟩
    refine ⟨_, rfl, log_of (Nat.lt_trans h1 (by decide +kernel)) (by decide), ?_⟩
    rw [S_int]
    unfold ratL at q
    rw [if_pos hb1, List.append_nil] at q
    exact q
  · have hb1 : ¬ b = 1 := fun e => c (by rw [e])
    (repeat (first
      | refine ⟨_, rfl, ?_⟩
      | refine ⟨_, _, rfl, rfl, ?_⟩
      | refine Or.inl ⟨_, rfl, ?_⟩
      | refine Or.inr ⟨_, rfl, ?_⟩
      | refine ⟨Or.inl ⟨by decide, by decide⟩, ?_⟩
      | refine ⟨Or.inr ⟨by decide, by decide⟩, ?_⟩
      | refine ⟨⟨by decide, by decide⟩, ?_⟩
      | refine ⟨⟨by decide, by decide, by decide⟩, ?_⟩
      | refine ⟨by decide, ?_⟩
      | refine ⟨(by show (0 : Int) < _; decide), ?_⟩
      | refine ⟨rfl, ?_⟩
      | refine ⟨⟨_, rfl⟩, ?_⟩
      | refine ⟨_, rfl, rfl, trivial, ?_⟩
      | refine ⟨_, _, rfl, ?_⟩))
    refine ⟨p, _, _, _, rfl, rfl, hp, atI_nat (j := 0) rfl, ?_⟩
    refine ⟨_, rfl, log_of (Nat.lt_trans h1 (by decide +kernel)) (by decide), ?_⟩
    rw [S_int]
    refine ⟨_, _, rfl, rfl, small (by rw [S_len]; show _ + 1 ≤ _; omega), ?_⟩
    have e1 : S (intL t) ++ Str.ofString "/" = S (intL t ++ [47]) := S_app _ [47]
    rw [e1]
    (repeat (first
      | refine ⟨_, rfl, ?_⟩
      | refine ⟨_, _, rfl, rfl, ?_⟩
      | refine Or.inl ⟨_, rfl, ?_⟩
      | refine Or.inr ⟨_, rfl, ?_⟩
      | refine ⟨Or.inl ⟨by decide, by decide⟩, ?_⟩
      | refine ⟨Or.inr ⟨by decide, by decide⟩, ?_⟩
      | refine ⟨⟨by decide, by decide⟩, ?_⟩
      | refine ⟨⟨by decide, by decide, by decide⟩, ?_⟩
      | refine ⟨by decide, ?_⟩
      | refine ⟨(by show (0 : Int) < _; decide), ?_⟩
      | refine ⟨rfl, ?_⟩
      | refine ⟨⟨_, rfl⟩, ?_⟩
      | refine ⟨_, rfl, rfl, trivial, ?_⟩
      | refine ⟨_, _, rfl, ?_⟩))
    refine ⟨p, _, _, _, rfl, rfl, hp, atI_nat (j := 1) rfl, ?_⟩
    refine ⟨_, rfl, log_of (Nat.lt_trans h2 (by decide +kernel)) (by decide), ?_⟩
    have eb : b = ((b.natAbs : Nat) : Int) := by omega
    have es : Str.ofString (toString b) = S (numL b.natAbs) := by
      have e := S_num b.natAbs
      rw [← eb] at e
      exact e
    have e2 : intL t ++ [47] ++ numL b.natAbs = ratL (t, b) := by
      unfold ratL
      rw [if_neg (by show ¬ b = 1; exact hb1)]
      simp
    have l3 : (intL t ++ [47] ++ numL b.natAbs).length ≤ 2002 := by rw [e2]; exact l2
    rw [List.length_append] at l3
    rw [es]
    refine ⟨_, _, rfl, rfl, small (by rw [S_len, S_len]; omega), ?_⟩
    rw [S_app, e2]
    exact q
end
end My

namespace My
open PySem PySem.Spec PyProof.Rows L2 NumText TL
theorem str_len {t : Int} {k : Nat} (hk : 0 < k) (h : t.natAbs < 10 ^ k) : (Str.ofString (toString t)).length ≤ k + 1 := by
  rw [S_int, S_len]
  have a := numL_le hk h
  unfold intL
  split
  · rw [List.length_cons]; omega
  · omega
section
variable {P : Program} {w : World} {K : PySem.W.Frag} {mg : Str → Option Value} {base : Heap}
def sp_law_long : Sp := fun vs H Q _ => ∃ (st : Addr) (n : Nat) (g : Int), vs = [.ref st, .int g] ∧ St H st n ∧ n < 2 ^ 40 ∧ 0 ≤ g ∧ g ≤ 3 ∧ ∀ v n' H', SX st H H' → St H' st n' → n' ≤ n + 3 → 0 ≤ v → v < 1000000000 → Q (.int v) H'
theorem ok_law_long (T : Top K mg) : FnOk P w K mg base CX0 3 T.a_law_long T.d_law_long ["state", "groups"] sp_law_long := by
  refine T.F_law_long.ok sc_law_long (fun vs H Q E h => ?_) (fun cdv A outer s H vs Q E hr h => ?_)
  · obtain ⟨st, n, g, rfl, _⟩ := h
    rfl
  obtain ⟨st, n, g, rfl, hs, hn, g0, g3, q⟩ := h
  refine ⟨_, (pss_cons (ps_set (i := 2) sc_law_long.nd rfl (Or.inl rfl) pe_int)
      (pss_cons (ps_for PassesOwn.never rfl (pi_range1 (by rfl) T.z_range (pa_cons (pv 1) pa_nil)) (pg_name (i := 3) sc_law_long.nd rfl (Or.inl rfl))
        (pss_one (ps_set (i := 2) sc_law_long.nd rfl (Or.inl rfl) (pe_op op_add (pe_op op_mul (pv 2) pe_int) (pe_call ((ok_law_take T).mono (by decide)) hr (by rfl) T.m_law_take T.F_law_take.kp T.b_law_take .nil pass0 (pa_cons (pv 0) (pa_cons pe_int pa_nil)))))))
      (pss_one (ps_ret (pv 2))))), ?_⟩
  (repeat (first
      | refine ⟨_, rfl, ?_⟩
      | refine ⟨_, _, rfl, rfl, ?_⟩
      | refine Or.inl ⟨_, rfl, ?_⟩
      | refine Or.inr ⟨_, rfl, ?_⟩
      | refine ⟨Or.inl ⟨by decide, by decide⟩, ?_⟩
      | refine ⟨Or.inr ⟨by decide, by decide⟩, ?_⟩
      | refine ⟨⟨by decide, by decide⟩, ?_⟩
      | refine ⟨⟨by decide, by decide, by decide⟩, ?_⟩
      | refine ⟨by decide, ?_⟩
      | refine ⟨(by show (0 : Int) < _; decide), ?_⟩
      | refine ⟨rfl, ?_⟩
      | refine ⟨⟨_, rfl⟩, ?_⟩
      | refine ⟨_, rfl, rfl, trivial, ?_⟩
      | refine ⟨_, _, rfl, ?_⟩))
  refine ⟨by omega, by omega, ?_⟩
  refine for_range (lo := 0) (n := g.toNat) (fun j σ H' => ∃ (v : Int) (n' : Nat) (y3 : Option V), σ = [some (.ref st), some (.int g), some (.int v), y3] ∧ SX st H H' ∧ St H' st n' ∧ n' ≤ n + j ∧ 0 ≤ v ∧ v < 1000 ^ j) ?_ ?_ ?_
  · exact ⟨0, n, _, rfl, SX.refl _ _, hs, by omega, by decide, by decide⟩
  · rintro j σ H' hj ⟨v, n', y3, rfl, sx, hs', hn', v0, v1⟩
    (repeat (first
      | refine ⟨_, rfl, ?_⟩
      | refine ⟨_, _, rfl, rfl, ?_⟩
      | refine Or.inl ⟨_, rfl, ?_⟩
      | refine Or.inr ⟨_, rfl, ?_⟩
      | refine ⟨Or.inl ⟨by decide, by decide⟩, ?_⟩
      | refine ⟨Or.inr ⟨by decide, by decide⟩, ?_⟩
      | refine ⟨⟨by decide, by decide⟩, ?_⟩
      | refine ⟨⟨by decide, by decide, by decide⟩, ?_⟩
      | refine ⟨by decide, ?_⟩
      | refine ⟨(by show (0 : Int) < _; decide), ?_⟩
      | refine ⟨rfl, ?_⟩
      | refine ⟨⟨_, rfl⟩, ?_⟩
      | refine ⟨_, rfl, rfl, trivial, ?_⟩
      | refine ⟨_, _, rfl, ?_⟩))
    refine ⟨st, n', 1000, rfl, hs', by omega, by decide, fun u H2 u0 u1 x2 s2 => ?_⟩
    refine ⟨_, _, rfl, rfl, v * 1000 + u, n' + 1, _, rfl, sx.trans x2, s2, by omega, by omega, ?_⟩
    rw [Int.pow_succ]
    omega
  · rintro σ H' ⟨v, n', y3, rfl, sx, hs', hn', v0, v1⟩
    refine ⟨_, rfl, q v n' H' sx hs' (by omega) v0 (Int.lt_of_lt_of_le v1 ?_)⟩
    have h3 : g.toNat = 0 ∨ g.toNat = 1 ∨ g.toNat = 2 ∨ g.toNat = 3 := by omega
    rcases h3 with e | e | e | e <;> rw [e] <;> decide
def sp_law_changed (K : PySem.W.Frag) : Sp := fun vs H Q _ => ∃ (st p : Addr) (x : Str) (y : Q2) (n : Nat), vs = [.ref st, .str x, .ref p] ∧ St H st n ∧ n < 2 ^ 40 ∧ x.length ≤ 100 ∧ Nm K H p y ∧ bd2 60 y ∧
  ∀ z n' H', SX st H H' → St H' st n' → n' ≤ n + 5 → Str.length z ≤ 300 → Q (.str z) H'
theorem ok_law_changed (T : Top K mg) : FnOk P w K mg base CX0 3 T.a_law_changed T.d_law_changed ["state", "text", "pair"] (sp_law_changed K) := by
  refine T.F_law_changed.ok sc_law_changed (fun vs H Q E h => ?_) (fun cdv A outer s H vs Q E hr h => ?_)
  · obtain ⟨st, p, x, y, n, rfl, _⟩ := h
    rfl
  obtain ⟨st, p, x, y, n, rfl, hs, hn, hx, hp, hy, q⟩ := h
  refine ⟨_, (pss_cons (ps_set (i := 3) sc_law_changed.nd rfl (Or.inl rfl) (pe_call ((ok_law_take T).mono (by decide)) hr (by rfl) T.m_law_take T.F_law_take.kp T.b_law_take .nil pass0 (pa_cons (pv 0) (pa_cons pe_int pa_nil))))
      (pss_cons (ps_if (pt_cmpR op_lt (pv 3) pe_int (nomark _))
        (pss_one (ps_ret (pe_op op_add_str (pe_ix ix_list (pe_lst (pa_cons pe_str (pa_cons pe_str (pa_cons pe_str pa_nil)))) (pv 3) (fun _ _ => rfl)) (pv 1))))
        pss_nil)
      (pss_cons (ps_if (pt_cmpR op_lt (pv 3) pe_int (nomark _))
        (pss_one (ps_ret (pe_op op_add_str (pv 1) (pe_ix ix_list (pe_lst (pa_cons pe_str (pa_cons pe_str pa_nil))) (pe_op op_sub (pv 3) pe_int) (fun _ _ => rfl)))))
        pss_nil)
      (pss_cons (ps_if (pt_cmpR op_eq (pv 3) pe_int (nomark _))
        (pss_cons (ps_set (i := 4) sc_law_changed.nd rfl (Or.inl rfl) (pe_op op_add pe_int (pe_call ((ok_law_take T).mono (by decide)) hr (by rfl) T.m_law_take T.F_law_take.kp T.b_law_take .nil pass0 (pa_cons (pv 0) (pa_cons pe_int pa_nil)))))
      (pss_one (ps_ret (pe_op op_add_str (pe_op op_add_str (pe_callTy call_str_int (by rfl) T.z_str (by decide +kernel) (pa_cons (pe_op op_mul (pe_ix ix_tup (pv 2) pe_int (fun _ _ => rfl)) (pv 4)) pa_nil)) pe_str) (pe_callTy call_str_int (by rfl) T.z_str (by decide +kernel) (pa_cons (pe_op op_mul (pe_ix ix_tup (pv 2) pe_int (fun _ _ => rfl)) (pv 4)) pa_nil))))))
        pss_nil)
      (pss_cons (ps_set (i := 5) sc_law_changed.nd rfl (Or.inl rfl) (pe_call ((ok_law_take T).mono (by decide)) hr (by rfl) T.m_law_take T.F_law_take.kp T.b_law_take .nil pass0 (pa_cons (pv 0) (pa_cons (pe_op op_add (pe_callB call_len_str (by rfl) T.z_len (by decide +kernel) (pa_cons (pv 1) pa_nil)) pe_int) pa_nil))))
      (pss_cons (ps_set (i := 6) sc_law_changed.nd rfl (Or.inl rfl) (pe_ix ix_str pe_str (pe_call ((ok_law_take T).mono (by decide)) hr (by rfl) T.m_law_take T.F_law_take.kp T.b_law_take .nil pass0 (pa_cons (pv 0) (pa_cons pe_int pa_nil))) (fun _ _ => rfl)))
      (pss_one (ps_ret (pe_op op_add_str (pe_op op_add_str (pe_slice sl_str (pv 1) po_none (po_some (pv 5))) (pe_ix ix_list (pe_lst (pa_cons (pv 6) (pa_cons (pv 6) (pa_cons pe_str pa_nil)))) (pe_call ((ok_law_take T).mono (by decide)) hr (by rfl) T.m_law_take T.F_law_take.kp T.b_law_take .nil pass0 (pa_cons (pv 0) (pa_cons pe_int pa_nil))) (fun _ _ => rfl))) (pe_slice sl_str (pv 1) (po_some (pe_op op_add (pv 5) (pe_callTy call_int1 (by rfl) T.z_int (by decide +kernel) (pa_cons (pe_cmpR op_gt (pv 3) pe_int (nomark _)) pa_nil)))) po_none)))))))))), ?_⟩
  (repeat (first
      | refine ⟨_, rfl, ?_⟩
      | refine ⟨_, _, rfl, rfl, ?_⟩
      | refine Or.inl ⟨_, rfl, ?_⟩
      | refine Or.inr ⟨_, rfl, ?_⟩
      | refine ⟨Or.inl ⟨by decide, by decide⟩, ?_⟩
      | refine ⟨Or.inr ⟨by decide, by decide⟩, ?_⟩
      | refine ⟨⟨by decide, by decide⟩, ?_⟩
      | refine ⟨⟨by decide, by decide, by decide⟩, ?_⟩
      | refine ⟨by decide, ?_⟩
      | refine ⟨(by show (0 : Int) < _; decide), ?_⟩
      | refine ⟨rfl, ?_⟩
      | refine ⟨⟨_, rfl⟩, ?_⟩
      | refine ⟨_, rfl, rfl, trivial, ?_⟩
      | refine ⟨_, _, rfl, ?_⟩))
  refine ⟨st, n, 10, rfl, hs, by omega, by decide, fun way H1 w0 w1 x1 s1 => ?_⟩
  (repeat (first
      | refine ⟨_, rfl, ?_⟩
      | refine ⟨_, _, rfl, rfl, ?_⟩
      | refine Or.inl ⟨_, rfl, ?_⟩
      | refine Or.inr ⟨_, rfl, ?_⟩
      | refine ⟨Or.inl ⟨by decide, by decide⟩, ?_⟩
      | refine ⟨Or.inr ⟨by decide, by decide⟩, ?_⟩
      | refine ⟨⟨by decide, by decide⟩, ?_⟩
      | refine ⟨⟨by decide, by decide, by decide⟩, ?_⟩
      | refine ⟨by decide, ?_⟩
      | refine ⟨(by show (0 : Int) < _; decide), ?_⟩
      | refine ⟨rfl, ?_⟩
      | refine ⟨⟨_, rfl⟩, ?_⟩
      | refine ⟨_, rfl, rfl, trivial, ?_⟩
      | refine ⟨_, _, rfl, ?_⟩))
  refine ite_dec (fun c => ?_) (fun c => ?_)
  · (repeat (first
      | refine ⟨_, rfl, ?_⟩
      | refine ⟨_, _, rfl, rfl, ?_⟩
      | refine Or.inl ⟨_, rfl, ?_⟩
      | refine Or.inr ⟨_, rfl, ?_⟩
      | refine ⟨Or.inl ⟨by decide, by decide⟩, ?_⟩
      | refine ⟨Or.inr ⟨by decide, by decide⟩, ?_⟩
      | refine ⟨⟨by decide, by decide⟩, ?_⟩
      | refine ⟨⟨by decide, by decide, by decide⟩, ?_⟩
      | refine ⟨by decide, ?_⟩
      | refine ⟨(by show (0 : Int) < _; decide), ?_⟩
      | refine ⟨rfl, ?_⟩
      | refine ⟨⟨_, rfl⟩, ?_⟩
      | refine ⟨_, rfl, rfl, trivial, ?_⟩
      | refine ⟨_, _, rfl, ?_⟩))
    intro l hl
    have hw : ∃ z : Str, atI [V.str (Str.ofString "+"), V.str (Str.ofString "-"), V.str (Str.ofString "0")] way = some (.str z) ∧ z.length ≤ 2 := by
      have h3 : way = 0 ∨ way = 1 ∨ way = 2 := by omega
      rcases h3 with e | e | e <;> subst e <;> exact ⟨_, rfl, by decide⟩
    obtain ⟨z, hz, lz⟩ := hw
    refine ⟨_, rfl, l, _, _, _, rfl, rfl, SqL.of upd_same, hz, ?_⟩
    refine ⟨_, rfl, z, x, rfl, rfl, small (by omega), ?_⟩
    exact q _ _ _ (x1.trans (SX.new hl)) (s1.new hl) (by omega) (by rw [len_tl, tl_append, List.length_append, ← len_tl, ← len_tl]; omega)
  (repeat (first
      | refine ⟨_, rfl, ?_⟩
      | refine ⟨_, _, rfl, rfl, ?_⟩
      | refine Or.inl ⟨_, rfl, ?_⟩
      | refine Or.inr ⟨_, rfl, ?_⟩
      | refine ⟨Or.inl ⟨by decide, by decide⟩, ?_⟩
      | refine ⟨Or.inr ⟨by decide, by decide⟩, ?_⟩
      | refine ⟨⟨by decide, by decide⟩, ?_⟩
      | refine ⟨⟨by decide, by decide, by decide⟩, ?_⟩
      | refine ⟨by decide, ?_⟩
      | refine ⟨(by show (0 : Int) < _; decide), ?_⟩
      | refine ⟨rfl, ?_⟩
      | refine ⟨⟨_, rfl⟩, ?_⟩
      | refine ⟨_, rfl, rfl, trivial, ?_⟩
      | refine ⟨_, _, rfl, ?_⟩))
  refine ite_dec (fun c2 => ?_) (fun c2 => ?_)
  · (repeat (first
      | refine ⟨_, rfl, ?_⟩
      | refine ⟨_, _, rfl, rfl, ?_⟩
      | refine Or.inl ⟨_, rfl, ?_⟩
      | refine Or.inr ⟨_, rfl, ?_⟩
      | refine ⟨Or.inl ⟨by decide, by decide⟩, ?_⟩
      | refine ⟨Or.inr ⟨by decide, by decide⟩, ?_⟩
      | refine ⟨⟨by decide, by decide⟩, ?_⟩
      | refine ⟨⟨by decide, by decide, by decide⟩, ?_⟩
      | refine ⟨by decide, ?_⟩
      | refine ⟨(by show (0 : Int) < _; decide), ?_⟩
      | refine ⟨rfl, ?_⟩
      | refine ⟨⟨_, rfl⟩, ?_⟩
      | refine ⟨_, rfl, rfl, trivial, ?_⟩
      | refine ⟨_, _, rfl, ?_⟩))
    intro l hl
    have hw : ∃ z : Str, atI [V.str (Str.ofString "/1"), V.str (Str.ofString "/7")] (way - 3) = some (.str z) ∧ z.length ≤ 2 := by
      have h3 : way = 3 ∨ way = 4 := by omega
      rcases h3 with e | e <;> subst e <;> exact ⟨_, rfl, by decide⟩
    obtain ⟨z, hz, lz⟩ := hw
    (repeat (first
      | refine ⟨_, rfl, ?_⟩
      | refine ⟨_, _, rfl, rfl, ?_⟩
      | refine Or.inl ⟨_, rfl, ?_⟩
      | refine Or.inr ⟨_, rfl, ?_⟩
      | refine ⟨Or.inl ⟨by decide, by decide⟩, ?_⟩
      | refine ⟨Or.inr ⟨by decide, by decide⟩, ?_⟩
      | refine ⟨⟨by decide, by decide⟩, ?_⟩
      | refine ⟨⟨by decide, by decide, by decide⟩, ?_⟩
      | refine ⟨by decide, ?_⟩
      | refine ⟨(by show (0 : Int) < _; decide), ?_⟩
      | refine ⟨rfl, ?_⟩
      | refine ⟨⟨_, rfl⟩, ?_⟩
      | refine ⟨_, rfl, rfl, trivial, ?_⟩
      | refine ⟨_, _, rfl, ?_⟩))
    refine ⟨l, _, _, _, rfl, rfl, SqL.of upd_same, hz, ?_⟩
    refine ⟨x, z, rfl, rfl, small (by omega), ?_⟩
    exact q _ _ _ (x1.trans (SX.new hl)) (s1.new hl) (by omega) (by rw [len_tl, tl_append, List.length_append, ← len_tl, ← len_tl]; omega)
  (repeat (first
      | refine ⟨_, rfl, ?_⟩
      | refine ⟨_, _, rfl, rfl, ?_⟩
      | refine Or.inl ⟨_, rfl, ?_⟩
      | refine Or.inr ⟨_, rfl, ?_⟩
      | refine ⟨Or.inl ⟨by decide, by decide⟩, ?_⟩
      | refine ⟨Or.inr ⟨by decide, by decide⟩, ?_⟩
      | refine ⟨⟨by decide, by decide⟩, ?_⟩
      | refine ⟨⟨by decide, by decide, by decide⟩, ?_⟩
      | refine ⟨by decide, ?_⟩
      | refine ⟨(by show (0 : Int) < _; decide), ?_⟩
      | refine ⟨rfl, ?_⟩
      | refine ⟨⟨_, rfl⟩, ?_⟩
      | refine ⟨_, rfl, rfl, trivial, ?_⟩
      | refine ⟨_, _, rfl, ?_⟩))
  refine ite_dec (fun c3 => ?_) (fun c3 => ?_)
  · (repeat (first
      | refine ⟨_, rfl, ?_⟩
      | refine ⟨_, _, rfl, rfl, ?_⟩
      | refine Or.inl ⟨_, rfl, ?_⟩
      | refine Or.inr ⟨_, rfl, ?_⟩
      | refine ⟨Or.inl ⟨by decide, by decide⟩, ?_⟩
      | refine ⟨Or.inr ⟨by decide, by decide⟩, ?_⟩
      | refine ⟨⟨by decide, by decide⟩, ?_⟩
      | refine ⟨⟨by decide, by decide, by decide⟩, ?_⟩
      | refine ⟨by decide, ?_⟩
      | refine ⟨(by show (0 : Int) < _; decide), ?_⟩
      | refine ⟨rfl, ?_⟩
      | refine ⟨⟨_, rfl⟩, ?_⟩
      | refine ⟨_, rfl, rfl, trivial, ?_⟩
      | refine ⟨_, _, rfl, ?_⟩))
    refine ⟨st, n + 1, 5, rfl, s1, by omega, by decide, fun u H2 u0 u1 x2 s2 => ?_⟩
    have hp2 := Nm.sx (x1.trans x2) hp
    have b1 : (y.1 * (1 + u)).natAbs < 2 ^ (60 + 3) := wide_lt hy.1 (by omega)
    have b2 : (y.2 * (1 + u)).natAbs < 2 ^ (60 + 3) := wide_lt hy.2 (by omega)
    have k1 := hy.1
    have k2 := hy.2
    have t1 : (y.1 * (1 + u)).natAbs < 10 ^ 30 := Nat.lt_trans b1 (by decide +kernel)
    have t2 : (y.2 * (1 + u)).natAbs < 10 ^ 30 := Nat.lt_trans b2 (by decide +kernel)
    have m1 := str_len (k := 30) (by decide) t1
    have m2 := str_len (k := 30) (by decide) t2
    (repeat (first
      | refine ⟨_, rfl, ?_⟩
      | refine ⟨_, _, rfl, rfl, ?_⟩
      | refine Or.inl ⟨_, rfl, ?_⟩
      | refine Or.inr ⟨_, rfl, ?_⟩
      | refine ⟨Or.inl ⟨by decide, by decide⟩, ?_⟩
      | refine ⟨Or.inr ⟨by decide, by decide⟩, ?_⟩
      | refine ⟨⟨by decide, by decide⟩, ?_⟩
      | refine ⟨⟨by decide, by decide, by decide⟩, ?_⟩
      | refine ⟨by decide, ?_⟩
      | refine ⟨(by show (0 : Int) < _; decide), ?_⟩
      | refine ⟨rfl, ?_⟩
      | refine ⟨⟨_, rfl⟩, ?_⟩
      | refine ⟨_, rfl, rfl, trivial, ?_⟩
      | refine ⟨_, _, rfl, ?_⟩))
    refine ⟨p, _, _, _, rfl, rfl, hp2, atI_nat (j := 0) rfl, ?_⟩
    (repeat (first
      | refine ⟨_, rfl, ?_⟩
      | refine ⟨_, _, rfl, rfl, ?_⟩
      | refine Or.inl ⟨_, rfl, ?_⟩
      | refine Or.inr ⟨_, rfl, ?_⟩
      | refine ⟨Or.inl ⟨by decide, by decide⟩, ?_⟩
      | refine ⟨Or.inr ⟨by decide, by decide⟩, ?_⟩
      | refine ⟨⟨by decide, by decide⟩, ?_⟩
      | refine ⟨⟨by decide, by decide, by decide⟩, ?_⟩
      | refine ⟨by decide, ?_⟩
      | refine ⟨(by show (0 : Int) < _; decide), ?_⟩
      | refine ⟨rfl, ?_⟩
      | refine ⟨⟨_, rfl⟩, ?_⟩
      | refine ⟨_, rfl, rfl, trivial, ?_⟩
      | refine ⟨_, _, rfl, ?_⟩))
    refine ⟨.inl ⟨by omega, by omega⟩, ?_⟩
    refine ⟨_, rfl, log_of (Nat.lt_trans b1 (by decide +kernel)) (by decide), ?_⟩
    refine ⟨_, _, rfl, rfl, small (by show _ + 1 ≤ _; omega), ?_⟩
    (repeat (first
      | refine ⟨_, rfl, ?_⟩
      | refine ⟨_, _, rfl, rfl, ?_⟩
      | refine Or.inl ⟨_, rfl, ?_⟩
      | refine Or.inr ⟨_, rfl, ?_⟩
      | refine ⟨Or.inl ⟨by decide, by decide⟩, ?_⟩
      | refine ⟨Or.inr ⟨by decide, by decide⟩, ?_⟩
      | refine ⟨⟨by decide, by decide⟩, ?_⟩
      | refine ⟨⟨by decide, by decide, by decide⟩, ?_⟩
      | refine ⟨by decide, ?_⟩
      | refine ⟨(by show (0 : Int) < _; decide), ?_⟩
      | refine ⟨rfl, ?_⟩
      | refine ⟨⟨_, rfl⟩, ?_⟩
      | refine ⟨_, rfl, rfl, trivial, ?_⟩
      | refine ⟨_, _, rfl, ?_⟩))
    refine ⟨p, _, _, _, rfl, rfl, hp2, atI_nat (j := 1) rfl, ?_⟩
    (repeat (first
      | refine ⟨_, rfl, ?_⟩
      | refine ⟨_, _, rfl, rfl, ?_⟩
      | refine Or.inl ⟨_, rfl, ?_⟩
      | refine Or.inr ⟨_, rfl, ?_⟩
      | refine ⟨Or.inl ⟨by decide, by decide⟩, ?_⟩
      | refine ⟨Or.inr ⟨by decide, by decide⟩, ?_⟩
      | refine ⟨⟨by decide, by decide⟩, ?_⟩
      | refine ⟨⟨by decide, by decide, by decide⟩, ?_⟩
      | refine ⟨by decide, ?_⟩
      | refine ⟨(by show (0 : Int) < _; decide), ?_⟩
      | refine ⟨rfl, ?_⟩
      | refine ⟨⟨_, rfl⟩, ?_⟩
      | refine ⟨_, rfl, rfl, trivial, ?_⟩
      | refine ⟨_, _, rfl, ?_⟩))
    refine ⟨.inl ⟨by omega, by omega⟩, ?_⟩
    refine ⟨_, rfl, log_of (Nat.lt_trans b2 (by decide +kernel)) (by decide), ?_⟩
    have ml : (Str.ofString (toString (y.1 * (1 + u))) ++ Str.ofString "/").length ≤ 32 := by
      rw [len_tl, tl_append, List.length_append, ← len_tl, ← len_tl]
      show _ + 1 ≤ _
      omega
    refine ⟨_, _, rfl, rfl, small (by omega), ?_⟩
    exact q _ _ _ (x1.trans x2) s2 (by omega) (by rw [len_tl, tl_append, List.length_append, ← len_tl, ← len_tl]; omega)
  (repeat (first
      | refine ⟨_, rfl, ?_⟩
      | refine ⟨_, _, rfl, rfl, ?_⟩
      | refine Or.inl ⟨_, rfl, ?_⟩
      | refine Or.inr ⟨_, rfl, ?_⟩
      | refine ⟨Or.inl ⟨by decide, by decide⟩, ?_⟩
      | refine ⟨Or.inr ⟨by decide, by decide⟩, ?_⟩
      | refine ⟨⟨by decide, by decide⟩, ?_⟩
      | refine ⟨⟨by decide, by decide, by decide⟩, ?_⟩
      | refine ⟨by decide, ?_⟩
      | refine ⟨(by show (0 : Int) < _; decide), ?_⟩
      | refine ⟨rfl, ?_⟩
      | refine ⟨⟨_, rfl⟩, ?_⟩
      | refine ⟨_, rfl, rfl, trivial, ?_⟩
      | refine ⟨_, _, rfl, ?_⟩))
  refine ⟨small (by omega), ?_⟩
  (repeat (first
      | refine ⟨_, rfl, ?_⟩
      | refine ⟨_, _, rfl, rfl, ?_⟩
      | refine Or.inl ⟨_, rfl, ?_⟩
      | refine Or.inr ⟨_, rfl, ?_⟩
      | refine ⟨Or.inl ⟨by decide, by decide⟩, ?_⟩
      | refine ⟨Or.inr ⟨by decide, by decide⟩, ?_⟩
      | refine ⟨⟨by decide, by decide⟩, ?_⟩
      | refine ⟨⟨by decide, by decide, by decide⟩, ?_⟩
      | refine ⟨by decide, ?_⟩
      | refine ⟨(by show (0 : Int) < _; decide), ?_⟩
      | refine ⟨rfl, ?_⟩
      | refine ⟨⟨_, rfl⟩, ?_⟩
      | refine ⟨_, rfl, rfl, trivial, ?_⟩
      | refine ⟨_, _, rfl, ?_⟩))
  refine ⟨st, n + 1, _, rfl, s1, by omega, by omega, fun at_ H2 a0 a1 x2 s2 => ?_⟩
  (repeat (first
      | refine ⟨_, rfl, ?_⟩
      | refine ⟨_, _, rfl, rfl, ?_⟩
      | refine Or.inl ⟨_, rfl, ?_⟩
      | refine Or.inr ⟨_, rfl, ?_⟩
      | refine ⟨Or.inl ⟨by decide, by decide⟩, ?_⟩
      | refine ⟨Or.inr ⟨by decide, by decide⟩, ?_⟩
      | refine ⟨⟨by decide, by decide⟩, ?_⟩
      | refine ⟨⟨by decide, by decide, by decide⟩, ?_⟩
      | refine ⟨by decide, ?_⟩
      | refine ⟨(by show (0 : Int) < _; decide), ?_⟩
      | refine ⟨rfl, ?_⟩
      | refine ⟨⟨_, rfl⟩, ?_⟩
      | refine ⟨_, rfl, rfl, trivial, ?_⟩
      | refine ⟨_, _, rfl, ?_⟩))
  refine ⟨st, n + 1 + 1, 20, rfl, s2, by omega, by decide, fun ci H3 c0 c1 x3 s3 => ?_⟩
  have hci : ∃ d, atI (Str.ofString "0123456789/-+ ._eE,x").cps.toList ci = some d := by
    have e : ci = ((ci.toNat : Nat) : Int) := by omega
    have hl : (Str.ofString "0123456789/-+ ._eE,x").cps.toList.length = 20 := by decide +kernel
    rw [e]
    exact ⟨_, atI_nat (List.getElem?_eq_getElem (by omega))⟩
  obtain ⟨d, hd⟩ := hci
  refine ⟨_, _, _, rfl, rfl, by decide +kernel, hd, ?_⟩
  (repeat (first
      | refine ⟨_, rfl, ?_⟩
      | refine ⟨_, _, rfl, rfl, ?_⟩
      | refine Or.inl ⟨_, rfl, ?_⟩
      | refine Or.inr ⟨_, rfl, ?_⟩
      | refine ⟨Or.inl ⟨by decide, by decide⟩, ?_⟩
      | refine ⟨Or.inr ⟨by decide, by decide⟩, ?_⟩
      | refine ⟨⟨by decide, by decide⟩, ?_⟩
      | refine ⟨⟨by decide, by decide, by decide⟩, ?_⟩
      | refine ⟨by decide, ?_⟩
      | refine ⟨(by show (0 : Int) < _; decide), ?_⟩
      | refine ⟨rfl, ?_⟩
      | refine ⟨⟨_, rfl⟩, ?_⟩
      | refine ⟨_, rfl, rfl, trivial, ?_⟩
      | refine ⟨_, _, rfl, ?_⟩))
  refine ⟨small (by omega), ?_⟩
  have q1 := cut_le x none (some at_)
  (repeat (first
      | refine ⟨_, rfl, ?_⟩
      | refine ⟨_, _, rfl, rfl, ?_⟩
      | refine Or.inl ⟨_, rfl, ?_⟩
      | refine Or.inr ⟨_, rfl, ?_⟩
      | refine ⟨Or.inl ⟨by decide, by decide⟩, ?_⟩
      | refine ⟨Or.inr ⟨by decide, by decide⟩, ?_⟩
      | refine ⟨⟨by decide, by decide⟩, ?_⟩
      | refine ⟨⟨by decide, by decide, by decide⟩, ?_⟩
      | refine ⟨by decide, ?_⟩
      | refine ⟨(by show (0 : Int) < _; decide), ?_⟩
      | refine ⟨rfl, ?_⟩
      | refine ⟨⟨_, rfl⟩, ?_⟩
      | refine ⟨_, rfl, rfl, trivial, ?_⟩
      | refine ⟨_, _, rfl, ?_⟩))
  refine ⟨by show 3 ≤ sizeLine; decide, fun l hl => ?_⟩
  have s4 := s3.new (o := .lst [.str ⟨#[d]⟩, .str ⟨#[d]⟩, .str (Str.ofString "")]) hl
  (repeat (first
      | refine ⟨_, rfl, ?_⟩
      | refine ⟨_, _, rfl, rfl, ?_⟩
      | refine Or.inl ⟨_, rfl, ?_⟩
      | refine Or.inr ⟨_, rfl, ?_⟩
      | refine ⟨Or.inl ⟨by decide, by decide⟩, ?_⟩
      | refine ⟨Or.inr ⟨by decide, by decide⟩, ?_⟩
      | refine ⟨⟨by decide, by decide⟩, ?_⟩
      | refine ⟨⟨by decide, by decide, by decide⟩, ?_⟩
      | refine ⟨by decide, ?_⟩
      | refine ⟨(by show (0 : Int) < _; decide), ?_⟩
      | refine ⟨rfl, ?_⟩
      | refine ⟨⟨_, rfl⟩, ?_⟩
      | refine ⟨_, rfl, rfl, trivial, ?_⟩
      | refine ⟨_, _, rfl, ?_⟩))
  refine ⟨st, _, 3, rfl, s4, by omega, by decide, fun k H4 k0 k1 x5 s5 => ?_⟩
  have hw : ∃ z : Str, atI [V.str ⟨#[d]⟩, V.str ⟨#[d]⟩, V.str (Str.ofString "")] k = some (.str z) ∧ z.length ≤ 1 := by
    have h3 : k = 0 ∨ k = 1 ∨ k = 2 := by omega
    rcases h3 with e | e | e <;> subst e <;> exact ⟨_, rfl, by first | decide | exact Nat.le_refl 1⟩
  obtain ⟨z, hz, lz⟩ := hw
  have hl4 : H4 l = some (.lst [.str ⟨#[d]⟩, .str ⟨#[d]⟩, .str (Str.ofString "")]) := x5 _ _ upd_same fun e => by
    obtain ⟨xs, hxs⟩ := s3.isL
    rw [e, hxs] at hl
    cases hl
  refine ⟨l, _, _, _, rfl, rfl, SqL.of hl4, hz, ?_⟩
  refine ⟨_, z, rfl, rfl, small (by omega), ?_⟩
  have q2 : (cutS x none (some at_) ++ z).length ≤ 101 := by
    rw [len_tl, tl_append, List.length_append, ← len_tl, ← len_tl]
    omega
  (repeat (first
      | refine ⟨_, rfl, ?_⟩
      | refine ⟨_, _, rfl, rfl, ?_⟩
      | refine Or.inl ⟨_, rfl, ?_⟩
      | refine Or.inr ⟨_, rfl, ?_⟩
      | refine ⟨Or.inl ⟨by decide, by decide⟩, ?_⟩
      | refine ⟨Or.inr ⟨by decide, by decide⟩, ?_⟩
      | refine ⟨⟨by decide, by decide⟩, ?_⟩
      | refine ⟨⟨by decide, by decide, by decide⟩, ?_⟩
      | refine ⟨by decide, ?_⟩
      | refine ⟨(by show (0 : Int) < _; decide), ?_⟩
      | refine ⟨rfl, ?_⟩
      | refine ⟨⟨_, rfl⟩, ?_⟩
      | refine ⟨_, rfl, rfl, trivial, ?_⟩
      | refine ⟨_, _, rfl, ?_⟩))
  refine ⟨small (by omega), ?_⟩
  have q3 := cut_le x (some (at_ + (if decide (7 < way) = true then 1 else 0))) none
  refine ⟨_, _, rfl, rfl, small (by omega), ?_⟩
  exact q _ _ _ (((x1.trans x2).trans x3).trans ((SX.new hl).trans x5)) s5 (by omega) (by rw [len_tl, tl_append, List.length_append, ← len_tl, ← len_tl]; omega)
end
end My

namespace My
open PySem PySem.Spec PyProof.Rows L2 NumText TL
section
variable {P : Program} {w : World} {K : PySem.W.Frag} {mg : Str → Option Value} {base : Heap}
def spLaw (K : PySem.W.Frag) : Sp := fun vs H Q _ => ∃ (a : Addr) (ns : List Int), vs = [.ref a] ∧ SqL K H a (ns.map V.int) ∧ ns.length ≤ 63 ∧ ∀ H', Q (.bl true) H'
theorem hbound {h : Int} {b : Nat} (hb : h.natAbs < 2 ^ b) : (h * (1 + (if h < 0 then -h else h))).natAbs < 2 ^ (2 * b) := by
  rw [Int.natAbs_mul]
  have e : (1 + (if h < 0 then -h else h)).natAbs = 1 + h.natAbs := by split <;> omega
  rw [e, Nat.two_mul, Nat.pow_add]
  have p := Nat.two_pow_pos b
  by_cases h0 : h.natAbs = 0
  · rw [h0, Nat.zero_mul]
    exact Nat.mul_pos p p
  · have m1 : h.natAbs * (1 + h.natAbs) ≤ h.natAbs * 2 ^ b := Nat.mul_le_mul_left _ (by omega)
    have m2 : h.natAbs * 2 ^ b < 2 ^ b * 2 ^ b := Nat.mul_lt_mul_of_pos_right hb p
    omega
theorem bd2_mono' {x : Q2} (h : bd2 30 x) : bd2 60 x := ⟨Nat.lt_of_lt_of_le h.1 (Nat.pow_le_pow_right (by decide) (by decide)), Nat.lt_of_lt_of_le h.2 (Nat.pow_le_pow_right (by decide) (by decide))⟩
theorem up_bd' {a : Int} {m n : Nat} (ha : a.natAbs < 2 ^ m) (h : m ≤ n) : a.natAbs < 2 ^ n := Nat.lt_of_lt_of_le ha (Nat.pow_le_pow_right (by decide) h)
theorem ratL_one (h : Int) : ratL (h, 1) = intL h := by
  unfold ratL
  rw [if_pos rfl, List.append_nil]
theorem ok2_one (h : Int) : ok2 (h, 1) := ⟨by show (0 : Int) < 1; decide, Nat.gcd_one_right _⟩
theorem ok_law (T : Top K mg) : FnOk P w K mg base CX0 10 T.a_law T.d_law ["script"] (spLaw K) := by
  refine T.F_law.ok sc_law (fun vs H Q E h => ?_) (fun cdv A outer s H vs Q E hr h => ?_)
  · obtain ⟨a, ns, rfl, _⟩ := h
    rfl
  obtain ⟨a, ns, rfl, hS, h63, q⟩ := h
  have G_law_equal : FnOk P w K mg base CX0 9 T.a_law_equal T.d_law_equal ["actual", "due"] (sp_law_equal K 1) := (ok_law_equal T 1).mono (by decide)
  refine ⟨_, (pss_cons (ps_set (i := 1) sc_law.nd rfl (Or.inl rfl) (pe_lst (pa_cons (pe_call ((ok_law_tape T).mono (by decide)) hr (by rfl) T.m_law_tape T.F_law_tape.kp T.b_law_tape .nil pass0 (pa_cons (pv 0) pa_nil)) (pa_cons pe_int pa_nil))))
      (pss_cons (ps_set (i := 2) sc_law.nd rfl (Or.inl rfl) (pe_op op_add pe_int (pe_call ((ok_law_take T).mono (by decide)) hr (by rfl) T.m_law_take T.F_law_take.kp T.b_law_take .nil pass0 (pa_cons (pv 1) (pa_cons pe_int pa_nil)))))
      (pss_cons (ps_set (i := 3) sc_law.nd rfl (Or.inl rfl) (pe_call ((ok_law_pair T).mono (by decide)) hr (by rfl) T.m_law_pair T.F_law_pair.kp T.b_law_pair .nil pass0 (pa_cons (pe_call ((ok_law_long T).mono (by decide)) hr (by rfl) T.m_law_long T.F_law_long.kp T.b_law_long .nil pass0 (pa_cons (pv 1) (pa_cons (pv 2) pa_nil))) (pa_cons (pe_callB (call_max2 rfl) (by rfl) T.z_max (by decide +kernel) (pa_cons pe_int (pa_cons (pe_call ((ok_law_long T).mono (by decide)) hr (by rfl) T.m_law_long T.F_law_long.kp T.b_law_long .nil pass0 (pa_cons (pv 1) (pa_cons (pv 2) pa_nil))) pa_nil))) pa_nil))))
      (C8.pss_cut (ps_if (pt_cmpR op_eq (pe_call ((ok_law_take T).mono (by decide)) hr (by rfl) T.m_law_take T.F_law_take.kp T.b_law_take .nil pass0 (pa_cons (pv 1) (pa_cons pe_int pa_nil))) pe_int (nomark _))
        (pss_one (ps_set (i := 3) sc_law.nd rfl (Or.inl rfl) (pe_tup (pa_cons (pe_ix ix_tup (pv 3) pe_int (fun _ _ => rfl)) (pa_cons pe_int pa_nil)))))
        pss_nil)
      (C8.pss_cut (ps_if (pt_cmpR op_eq (pe_call ((ok_law_take T).mono (by decide)) hr (by rfl) T.m_law_take T.F_law_take.kp T.b_law_take .nil pass0 (pa_cons (pv 1) (pa_cons pe_int pa_nil))) pe_int (nomark _))
        (pss_one (ps_set (i := 3) sc_law.nd rfl (Or.inl rfl) (pe_tup (pa_cons (pe_op op_sub pe_int (pe_ix ix_tup (pv 3) pe_int (fun _ _ => rfl))) (pa_cons (pe_ix ix_tup (pv 3) pe_int (fun _ _ => rfl)) pa_nil)))))
        pss_nil)
      (pss_cons (ps_set (i := 4) sc_law.nd rfl (Or.inl rfl) (pe_call ((ok_law_text T).mono (by decide)) hr (by rfl) T.m_law_text T.F_law_text.kp T.b_law_text .nil pass0 (pa_cons (pv 3) pa_nil)))
      (pss_cons (ps_if (PW.pt (pw_or (pt_not (pt_val (pe_call G_law_equal hr (by rfl) T.m_law_equal T.F_law_equal.kp T.b_law_equal .nil pass0 (pa_cons (pe_call ((ok_write_number T).mono (by decide)) hr (by rfl) T.m_write_number T.F_write_number.kp T.b_write_number .nil pass0 (pa_cons (pv 3) pa_nil)) (pa_cons (pv 4) pa_nil))))) (pw_or1 (pt_not (pt_val (pe_call G_law_equal hr (by rfl) T.m_law_equal T.F_law_equal.kp T.b_law_equal .nil pass0 (pa_cons (pe_call ((ok_read_number T).mono (by decide)) hr (by rfl) T.m_read_number T.F_read_number.kp T.b_read_number .nil pass0 (pa_cons (pv 4) pa_nil)) (pa_cons (pv 3) pa_nil))))))))
        (pss_one (ps_ret pe_bl))
        pss_nil)
      (pss_cons (ps_for PassesOwn.never rfl (pi_range1 (by rfl) T.z_range (pa_cons pe_int pa_nil)) (pg_name (i := 5) sc_law.nd rfl (Or.inl rfl))
        (pss_cons (ps_set (i := 6) sc_law.nd rfl (Or.inl rfl) (pe_call ((ok_law_changed T).mono (by decide)) hr (by rfl) T.m_law_changed T.F_law_changed.kp T.b_law_changed .nil pass0 (pa_cons (pv 1) (pa_cons (pv 4) (pa_cons (pv 3) pa_nil)))))
      (pss_one (ps_if (pt_not (pt_val (pe_call G_law_equal hr (by rfl) T.m_law_equal T.F_law_equal.kp T.b_law_equal .nil pass0 (pa_cons (pe_call ((ok_read_number T).mono (by decide)) hr (by rfl) T.m_read_number T.F_read_number.kp T.b_read_number .nil pass0 (pa_cons (pv 6) pa_nil)) (pa_cons (pe_call ((ok_law_read T).mono (by decide)) hr (by rfl) T.m_law_read T.F_law_read.kp T.b_law_read .nil pass0 (pa_cons (pv 6) pa_nil)) pa_nil)))))
        (pss_one (ps_ret pe_bl))
        pss_nil))))
      (pss_cons (ps_set (i := 7) sc_law.nd rfl (Or.inl rfl) (pe_tup (pa_cons (pe_op op_add (pe_op op_mulW (pe_ix ix_tup (pv 3) pe_int (fun _ _ => rfl)) (pe_op op_pow pe_int pe_int)) (pe_ix ix_tup (pv 3) pe_int (fun _ _ => rfl))) (pa_cons pe_int pa_nil))))
      (pss_cons (ps_for PassesOwn.never rfl (pi_range1 (by rfl) T.z_range (pa_cons (pe_call ((ok_law_take T).mono (by decide)) hr (by rfl) T.m_law_take T.F_law_take.kp T.b_law_take .nil pass0 (pa_cons (pv 1) (pa_cons pe_int pa_nil))) pa_nil)) (pg_name (i := 5) sc_law.nd rfl (Or.inl rfl))
        (pss_one (ps_set (i := 7) sc_law.nd rfl (Or.inl rfl) (pe_tup (pa_cons (pe_op op_mulW (pe_ix ix_tup (pv 7) pe_int (fun _ _ => rfl)) (pe_op op_add pe_int (pe_callB call_abs (by rfl) T.z_abs (by decide +kernel) (pa_cons (pe_ix ix_tup (pv 7) pe_int (fun _ _ => rfl)) pa_nil)))) (pa_cons pe_int pa_nil))))))
      (pss_cons (ps_set (i := 8) sc_law.nd rfl (Or.inl rfl) (pe_call ((ok_write_number T).mono (by decide)) hr (by rfl) T.m_write_number T.F_write_number.kp T.b_write_number .nil pass0 (pa_cons (pv 7) pa_nil)))
      (pss_one (ps_ret (pe_and (pe_call G_law_equal hr (by rfl) T.m_law_equal T.F_law_equal.kp T.b_law_equal .nil pass0 (pa_cons (pv 8) (pa_cons (pe_callTy (call_str_big rfl T.x_dig) (by rfl) T.z_str (by decide +kernel) (pa_cons (pe_ix ix_tup (pv 7) pe_int (fun _ _ => rfl)) pa_nil)) pa_nil))) (pe_one (pe_call G_law_equal hr (by rfl) T.m_law_equal T.F_law_equal.kp T.b_law_equal .nil pass0 (pa_cons (pe_call ((ok_read_number T).mono (by decide)) hr (by rfl) T.m_read_number T.F_read_number.kp T.b_read_number .nil pass0 (pa_cons (pv 8) pa_nil)) (pa_cons (pv 7) pa_nil)))))))))))))))))), ?_⟩
  (repeat (first
      | refine ⟨_, rfl, ?_⟩
      | refine ⟨_, _, rfl, rfl, ?_⟩
      | refine Or.inl ⟨_, rfl, ?_⟩
      | refine Or.inr ⟨_, rfl, ?_⟩
      | refine ⟨Or.inl ⟨by decide, by decide⟩, ?_⟩
      | refine ⟨Or.inr ⟨by decide, by decide⟩, ?_⟩
      | refine ⟨⟨by decide, by decide⟩, ?_⟩
      | refine ⟨⟨by decide, by decide, by decide⟩, ?_⟩
      | refine ⟨by decide, ?_⟩
      | refine ⟨(by show (0 : Int) < _; decide), ?_⟩
      | refine ⟨rfl, ?_⟩
      | refine ⟨⟨_, rfl⟩, ?_⟩
      | refine ⟨_, rfl, rfl, trivial, ?_⟩
      | refine ⟨_, _, rfl, ?_⟩))
  refine ⟨a, ns, rfl, hS, h63, fun H1 tp ts s1 f1 e1 b1 l1 => ?_⟩
  (repeat (first
      | refine ⟨_, rfl, ?_⟩
      | refine ⟨_, _, rfl, rfl, ?_⟩
      | refine Or.inl ⟨_, rfl, ?_⟩
      | refine Or.inr ⟨_, rfl, ?_⟩
      | refine ⟨Or.inl ⟨by decide, by decide⟩, ?_⟩
      | refine ⟨Or.inr ⟨by decide, by decide⟩, ?_⟩
      | refine ⟨⟨by decide, by decide⟩, ?_⟩
      | refine ⟨⟨by decide, by decide, by decide⟩, ?_⟩
      | refine ⟨by decide, ?_⟩
      | refine ⟨(by show (0 : Int) < _; decide), ?_⟩
      | refine ⟨rfl, ?_⟩
      | refine ⟨⟨_, rfl⟩, ?_⟩
      | refine ⟨_, rfl, rfl, trivial, ?_⟩
      | refine ⟨_, _, rfl, ?_⟩))
  refine ⟨by show 2 ≤ sizeLine; decide, fun st hst => ?_⟩
  have S2 : St (upd H1 st (.lst [.ref tp, .int 0])) st 0 := ⟨tp, ts, upd_same, ne_of_none e1 hst, by rw [upd_ne (ne_of_none e1 hst)]; exact e1, l1, b1⟩
  generalize upd H1 st (.lst [.ref tp, .int 0]) = H2 at S2 ⊢
  (repeat (first
      | refine ⟨_, rfl, ?_⟩
      | refine ⟨_, _, rfl, rfl, ?_⟩
      | refine Or.inl ⟨_, rfl, ?_⟩
      | refine Or.inr ⟨_, rfl, ?_⟩
      | refine ⟨Or.inl ⟨by decide, by decide⟩, ?_⟩
      | refine ⟨Or.inr ⟨by decide, by decide⟩, ?_⟩
      | refine ⟨⟨by decide, by decide⟩, ?_⟩
      | refine ⟨⟨by decide, by decide, by decide⟩, ?_⟩
      | refine ⟨by decide, ?_⟩
      | refine ⟨(by show (0 : Int) < _; decide), ?_⟩
      | refine ⟨rfl, ?_⟩
      | refine ⟨⟨_, rfl⟩, ?_⟩
      | refine ⟨_, rfl, rfl, trivial, ?_⟩
      | refine ⟨_, _, rfl, ?_⟩))
  refine ⟨st, 0, 3, rfl, S2, by decide, by decide, fun g H3 g0 g1 x3 S3 => ?_⟩
  (repeat (first
      | refine ⟨_, rfl, ?_⟩
      | refine ⟨_, _, rfl, rfl, ?_⟩
      | refine Or.inl ⟨_, rfl, ?_⟩
      | refine Or.inr ⟨_, rfl, ?_⟩
      | refine ⟨Or.inl ⟨by decide, by decide⟩, ?_⟩
      | refine ⟨Or.inr ⟨by decide, by decide⟩, ?_⟩
      | refine ⟨⟨by decide, by decide⟩, ?_⟩
      | refine ⟨⟨by decide, by decide, by decide⟩, ?_⟩
      | refine ⟨by decide, ?_⟩
      | refine ⟨(by show (0 : Int) < _; decide), ?_⟩
      | refine ⟨rfl, ?_⟩
      | refine ⟨⟨_, rfl⟩, ?_⟩
      | refine ⟨_, rfl, rfl, trivial, ?_⟩
      | refine ⟨_, _, rfl, ?_⟩))
  refine ⟨st, _, _, rfl, S3, by decide, by omega, by omega, fun u n4 H4 x4 S4 hn4 u0 u1 => ?_⟩
  (repeat (first
      | refine ⟨_, rfl, ?_⟩
      | refine ⟨_, _, rfl, rfl, ?_⟩
      | refine Or.inl ⟨_, rfl, ?_⟩
      | refine Or.inr ⟨_, rfl, ?_⟩
      | refine ⟨Or.inl ⟨by decide, by decide⟩, ?_⟩
      | refine ⟨Or.inr ⟨by decide, by decide⟩, ?_⟩
      | refine ⟨⟨by decide, by decide⟩, ?_⟩
      | refine ⟨⟨by decide, by decide, by decide⟩, ?_⟩
      | refine ⟨by decide, ?_⟩
      | refine ⟨(by show (0 : Int) < _; decide), ?_⟩
      | refine ⟨rfl, ?_⟩
      | refine ⟨⟨_, rfl⟩, ?_⟩
      | refine ⟨_, rfl, rfl, trivial, ?_⟩
      | refine ⟨_, _, rfl, ?_⟩))
  refine ⟨st, _, _, rfl, S4, by omega, by omega, by omega, fun v n5 H5 x5 S5 hn5 v0 v1 => ?_⟩
  (repeat (first
      | refine ⟨_, rfl, ?_⟩
      | refine ⟨_, _, rfl, rfl, ?_⟩
      | refine Or.inl ⟨_, rfl, ?_⟩
      | refine Or.inr ⟨_, rfl, ?_⟩
      | refine ⟨Or.inl ⟨by decide, by decide⟩, ?_⟩
      | refine ⟨Or.inr ⟨by decide, by decide⟩, ?_⟩
      | refine ⟨⟨by decide, by decide⟩, ?_⟩
      | refine ⟨⟨by decide, by decide, by decide⟩, ?_⟩
      | refine ⟨by decide, ?_⟩
      | refine ⟨(by show (0 : Int) < _; decide), ?_⟩
      | refine ⟨rfl, ?_⟩
      | refine ⟨⟨_, rfl⟩, ?_⟩
      | refine ⟨_, rfl, rfl, trivial, ?_⟩
      | refine ⟨_, _, rfl, ?_⟩))
  generalize hm : (if v > 1 then v else 1) = d
  have hd : 0 < d ∧ d < 1000000000 := by
    rw [← hm]
    split <;> omega
  refine ⟨hd.1, by have := hd.2; exact Nat.lt_of_lt_of_le (show _ < 2 ^ 30 by omega) (Nat.pow_le_pow_right (by decide) (by decide)), fun p hp => ?_⟩
  have S6 := S5.new (o := .tup [.int (red u d).1, .int (red u d).2]) hp
  have gx : ok2 (red u d) ∧ bd2 30 (red u d) := ⟨red_ok hd.1, red_bd hd.1 (by omega) (by omega)⟩
  have nx : Nm K (upd H5 p (.tup [.int (red u d).1, .int (red u d).2])) p (red u d) := Nm.new upd_same
  generalize (upd H5 p (.tup [.int (red u d).1, .int (red u d).2])) = H6 at S6 nx ⊢
  generalize red u d = x at gx nx ⊢
  -- if _law_take(state, 3) == 0: pair = (pair[0], 1)
  refine ⟨fun σ H' => ∃ (p : Addr) (x : Q2) (n : Nat) (y2 : Option V), σ = [some (.ref a), some (.ref st), y2, some (.ref p), none, none, none, none, none] ∧ St H' st n ∧ n ≤ 20 ∧ Nm K H' p x ∧ ok2 x ∧ bd2 30 x, ?_, ?_⟩
  · (repeat (first
      | refine ⟨_, rfl, ?_⟩
      | refine ⟨_, _, rfl, rfl, ?_⟩
      | refine Or.inl ⟨_, rfl, ?_⟩
      | refine Or.inr ⟨_, rfl, ?_⟩
      | refine ⟨Or.inl ⟨by decide, by decide⟩, ?_⟩
      | refine ⟨Or.inr ⟨by decide, by decide⟩, ?_⟩
      | refine ⟨⟨by decide, by decide⟩, ?_⟩
      | refine ⟨⟨by decide, by decide, by decide⟩, ?_⟩
      | refine ⟨by decide, ?_⟩
      | refine ⟨(by show (0 : Int) < _; decide), ?_⟩
      | refine ⟨rfl, ?_⟩
      | refine ⟨⟨_, rfl⟩, ?_⟩
      | refine ⟨_, rfl, rfl, trivial, ?_⟩
      | refine ⟨_, _, rfl, ?_⟩))
    refine ⟨st, _, 3, rfl, S6, by omega, by decide, fun c H7 c0 c1 x7 S7 => ?_⟩
    have nx7 := Nm.sx x7 nx
    (repeat (first
      | refine ⟨_, rfl, ?_⟩
      | refine ⟨_, _, rfl, rfl, ?_⟩
      | refine Or.inl ⟨_, rfl, ?_⟩
      | refine Or.inr ⟨_, rfl, ?_⟩
      | refine ⟨Or.inl ⟨by decide, by decide⟩, ?_⟩
      | refine ⟨Or.inr ⟨by decide, by decide⟩, ?_⟩
      | refine ⟨⟨by decide, by decide⟩, ?_⟩
      | refine ⟨⟨by decide, by decide, by decide⟩, ?_⟩
      | refine ⟨by decide, ?_⟩
      | refine ⟨(by show (0 : Int) < _; decide), ?_⟩
      | refine ⟨rfl, ?_⟩
      | refine ⟨⟨_, rfl⟩, ?_⟩
      | refine ⟨_, rfl, rfl, trivial, ?_⟩
      | refine ⟨_, _, rfl, ?_⟩))
    refine ite_dec (fun c => ?_) (fun c => ?_)
    · (repeat (first
      | refine ⟨_, rfl, ?_⟩
      | refine ⟨_, _, rfl, rfl, ?_⟩
      | refine Or.inl ⟨_, rfl, ?_⟩
      | refine Or.inr ⟨_, rfl, ?_⟩
      | refine ⟨Or.inl ⟨by decide, by decide⟩, ?_⟩
      | refine ⟨Or.inr ⟨by decide, by decide⟩, ?_⟩
      | refine ⟨⟨by decide, by decide⟩, ?_⟩
      | refine ⟨⟨by decide, by decide, by decide⟩, ?_⟩
      | refine ⟨by decide, ?_⟩
      | refine ⟨(by show (0 : Int) < _; decide), ?_⟩
      | refine ⟨rfl, ?_⟩
      | refine ⟨⟨_, rfl⟩, ?_⟩
      | refine ⟨_, rfl, rfl, trivial, ?_⟩
      | refine ⟨_, _, rfl, ?_⟩))
      refine ⟨p, _, _, _, rfl, rfl, nx7, atI_nat (j := 0) rfl, ?_⟩
      refine ⟨by show 2 ≤ sizeLine; decide, fun p2 h2 => ?_⟩
      exact ⟨p2, (x.1, 1), _, _, rfl, S7.new h2, by omega, Nm.new upd_same, ok2_one _, gx.2.1, by show 1 < 2 ^ 30; decide⟩
    · exact ⟨p, x, _, _, rfl, S7, by omega, nx7, gx⟩
  rintro σ H7 ⟨p, x, n, y2, rfl, hs, hn, nx, ox, bx⟩
  refine ⟨fun σ H' => ∃ (p : Addr) (x : Q2) (n : Nat) (y2 : Option V), σ = [some (.ref a), some (.ref st), y2, some (.ref p), none, none, none, none, none] ∧ St H' st n ∧ n ≤ 30 ∧ Nm K H' p x ∧ ok2 x ∧ bd2 30 x, ?_, ?_⟩
  · (repeat (first
      | refine ⟨_, rfl, ?_⟩
      | refine ⟨_, _, rfl, rfl, ?_⟩
      | refine Or.inl ⟨_, rfl, ?_⟩
      | refine Or.inr ⟨_, rfl, ?_⟩
      | refine ⟨Or.inl ⟨by decide, by decide⟩, ?_⟩
      | refine ⟨Or.inr ⟨by decide, by decide⟩, ?_⟩
      | refine ⟨⟨by decide, by decide⟩, ?_⟩
      | refine ⟨⟨by decide, by decide, by decide⟩, ?_⟩
      | refine ⟨by decide, ?_⟩
      | refine ⟨(by show (0 : Int) < _; decide), ?_⟩
      | refine ⟨rfl, ?_⟩
      | refine ⟨⟨_, rfl⟩, ?_⟩
      | refine ⟨_, rfl, rfl, trivial, ?_⟩
      | refine ⟨_, _, rfl, ?_⟩))
    refine ⟨st, _, 2, rfl, hs, by omega, by decide, fun c H8 c0 c1 x8 S8 => ?_⟩
    have nx8 := Nm.sx x8 nx
    (repeat (first
      | refine ⟨_, rfl, ?_⟩
      | refine ⟨_, _, rfl, rfl, ?_⟩
      | refine Or.inl ⟨_, rfl, ?_⟩
      | refine Or.inr ⟨_, rfl, ?_⟩
      | refine ⟨Or.inl ⟨by decide, by decide⟩, ?_⟩
      | refine ⟨Or.inr ⟨by decide, by decide⟩, ?_⟩
      | refine ⟨⟨by decide, by decide⟩, ?_⟩
      | refine ⟨⟨by decide, by decide, by decide⟩, ?_⟩
      | refine ⟨by decide, ?_⟩
      | refine ⟨(by show (0 : Int) < _; decide), ?_⟩
      | refine ⟨rfl, ?_⟩
      | refine ⟨⟨_, rfl⟩, ?_⟩
      | refine ⟨_, rfl, rfl, trivial, ?_⟩
      | refine ⟨_, _, rfl, ?_⟩))
    refine ite_dec (fun c => ?_) (fun c => ?_)
    · (repeat (first
      | refine ⟨_, rfl, ?_⟩
      | refine ⟨_, _, rfl, rfl, ?_⟩
      | refine Or.inl ⟨_, rfl, ?_⟩
      | refine Or.inr ⟨_, rfl, ?_⟩
      | refine ⟨Or.inl ⟨by decide, by decide⟩, ?_⟩
      | refine ⟨Or.inr ⟨by decide, by decide⟩, ?_⟩
      | refine ⟨⟨by decide, by decide⟩, ?_⟩
      | refine ⟨⟨by decide, by decide, by decide⟩, ?_⟩
      | refine ⟨by decide, ?_⟩
      | refine ⟨(by show (0 : Int) < _; decide), ?_⟩
      | refine ⟨rfl, ?_⟩
      | refine ⟨⟨_, rfl⟩, ?_⟩
      | refine ⟨_, rfl, rfl, trivial, ?_⟩
      | refine ⟨_, _, rfl, ?_⟩))
      refine ⟨p, _, _, _, rfl, rfl, nx8, atI_nat (j := 0) rfl, ?_⟩
      (repeat (first
      | refine ⟨_, rfl, ?_⟩
      | refine ⟨_, _, rfl, rfl, ?_⟩
      | refine Or.inl ⟨_, rfl, ?_⟩
      | refine Or.inr ⟨_, rfl, ?_⟩
      | refine ⟨Or.inl ⟨by decide, by decide⟩, ?_⟩
      | refine ⟨Or.inr ⟨by decide, by decide⟩, ?_⟩
      | refine ⟨⟨by decide, by decide⟩, ?_⟩
      | refine ⟨⟨by decide, by decide, by decide⟩, ?_⟩
      | refine ⟨by decide, ?_⟩
      | refine ⟨(by show (0 : Int) < _; decide), ?_⟩
      | refine ⟨rfl, ?_⟩
      | refine ⟨⟨_, rfl⟩, ?_⟩
      | refine ⟨_, rfl, rfl, trivial, ?_⟩
      | refine ⟨_, _, rfl, ?_⟩))
      refine ⟨p, _, _, _, rfl, rfl, nx8, atI_nat (j := 1) rfl, ?_⟩
      refine ⟨by show 2 ≤ sizeLine; decide, fun p2 h2 => ?_⟩
      have ea : (0 - x.1).natAbs = x.1.natAbs := by omega
      exact ⟨p2, (0 - x.1, x.2), _, _, rfl, S8.new h2, by omega, Nm.new upd_same, ⟨ox.1, by rw [ea]; exact ox.2⟩, by rw [ea]; exact bx.1, bx.2⟩
    · exact ⟨p, x, _, _, rfl, S8, by omega, nx8, ox, bx⟩
  rintro σ H8 ⟨p, x, n, y2, rfl, hs, hn, nx, ox, bx⟩
  have hl1 := ratL_len (x := x) (Nat.lt_trans bx.1 (by decide +kernel)) (Nat.lt_trans bx.2 (by decide +kernel))
  have hl2 : (ratL x).length ≤ 30 := by
    have a := numL_le (k := 10) (by decide) (Nat.lt_trans bx.1 (by decide +kernel))
    have b := numL_le (k := 10) (by decide) (Nat.lt_trans bx.2 (by decide +kernel))
    unfold ratL intL
    rw [List.length_append]
    split <;> split <;> simp only [List.length_cons, List.length_nil] <;> omega
  (repeat (first
      | refine ⟨_, rfl, ?_⟩
      | refine ⟨_, _, rfl, rfl, ?_⟩
      | refine Or.inl ⟨_, rfl, ?_⟩
      | refine Or.inr ⟨_, rfl, ?_⟩
      | refine ⟨Or.inl ⟨by decide, by decide⟩, ?_⟩
      | refine ⟨Or.inr ⟨by decide, by decide⟩, ?_⟩
      | refine ⟨⟨by decide, by decide⟩, ?_⟩
      | refine ⟨⟨by decide, by decide, by decide⟩, ?_⟩
      | refine ⟨by decide, ?_⟩
      | refine ⟨(by show (0 : Int) < _; decide), ?_⟩
      | refine ⟨rfl, ?_⟩
      | refine ⟨⟨_, rfl⟩, ?_⟩
      | refine ⟨_, rfl, rfl, trivial, ?_⟩
      | refine ⟨_, _, rfl, ?_⟩))
  refine ⟨p, x, rfl, nx, ox.1, Nat.lt_trans bx.1 (by decide +kernel), Nat.lt_trans bx.2 (by decide +kernel), ?_⟩
  (repeat (first
      | refine ⟨_, rfl, ?_⟩
      | refine ⟨_, _, rfl, rfl, ?_⟩
      | refine Or.inl ⟨_, rfl, ?_⟩
      | refine Or.inr ⟨_, rfl, ?_⟩
      | refine ⟨Or.inl ⟨by decide, by decide⟩, ?_⟩
      | refine ⟨Or.inr ⟨by decide, by decide⟩, ?_⟩
      | refine ⟨⟨by decide, by decide⟩, ?_⟩
      | refine ⟨⟨by decide, by decide, by decide⟩, ?_⟩
      | refine ⟨by decide, ?_⟩
      | refine ⟨(by show (0 : Int) < _; decide), ?_⟩
      | refine ⟨rfl, ?_⟩
      | refine ⟨⟨_, rfl⟩, ?_⟩
      | refine ⟨_, rfl, rfl, trivial, ?_⟩
      | refine ⟨_, _, rfl, ?_⟩))
  refine ⟨p, x, rfl, nx, ox.1, Nat.lt_trans bx.1 (by decide +kernel), Nat.lt_trans bx.2 (by decide +kernel), fun H9 s9 => ?_⟩
  (repeat (first
      | refine ⟨_, rfl, ?_⟩
      | refine ⟨_, _, rfl, rfl, ?_⟩
      | refine Or.inl ⟨_, rfl, ?_⟩
      | refine Or.inr ⟨_, rfl, ?_⟩
      | refine ⟨Or.inl ⟨by decide, by decide⟩, ?_⟩
      | refine ⟨Or.inr ⟨by decide, by decide⟩, ?_⟩
      | refine ⟨⟨by decide, by decide⟩, ?_⟩
      | refine ⟨⟨by decide, by decide, by decide⟩, ?_⟩
      | refine ⟨by decide, ?_⟩
      | refine ⟨(by show (0 : Int) < _; decide), ?_⟩
      | refine ⟨rfl, ?_⟩
      | refine ⟨⟨_, rfl⟩, ?_⟩
      | refine ⟨_, rfl, rfl, trivial, ?_⟩
      | refine ⟨_, _, rfl, ?_⟩))
  refine ⟨_, _, .str _, rfl, .str _, .str _, True.intro, ?_⟩
  have nx9 := Nm.same s9 nx
  have hs9 := hs.same s9
  (repeat (first
      | refine ⟨_, rfl, ?_⟩
      | refine ⟨_, _, rfl, rfl, ?_⟩
      | refine Or.inl ⟨_, rfl, ?_⟩
      | refine Or.inr ⟨_, rfl, ?_⟩
      | refine ⟨Or.inl ⟨by decide, by decide⟩, ?_⟩
      | refine ⟨Or.inr ⟨by decide, by decide⟩, ?_⟩
      | refine ⟨⟨by decide, by decide⟩, ?_⟩
      | refine ⟨⟨by decide, by decide, by decide⟩, ?_⟩
      | refine ⟨by decide, ?_⟩
      | refine ⟨(by show (0 : Int) < _; decide), ?_⟩
      | refine ⟨rfl, ?_⟩
      | refine ⟨⟨_, rfl⟩, ?_⟩
      | refine ⟨_, rfl, rfl, trivial, ?_⟩
      | refine ⟨_, _, rfl, ?_⟩))
  refine ⟨by omega, fun rv H10 s10 d10 => ?_⟩
  rw [ratOf_text ox] at d10
  have nx10 := Nm.same s10 nx9
  (repeat (first
      | refine ⟨_, rfl, ?_⟩
      | refine ⟨_, _, rfl, rfl, ?_⟩
      | refine Or.inl ⟨_, rfl, ?_⟩
      | refine Or.inr ⟨_, rfl, ?_⟩
      | refine ⟨Or.inl ⟨by decide, by decide⟩, ?_⟩
      | refine ⟨Or.inr ⟨by decide, by decide⟩, ?_⟩
      | refine ⟨⟨by decide, by decide⟩, ?_⟩
      | refine ⟨⟨by decide, by decide, by decide⟩, ?_⟩
      | refine ⟨by decide, ?_⟩
      | refine ⟨(by show (0 : Int) < _; decide), ?_⟩
      | refine ⟨rfl, ?_⟩
      | refine ⟨⟨_, rfl⟩, ?_⟩
      | refine ⟨_, rfl, rfl, trivial, ?_⟩
      | refine ⟨_, _, rfl, ?_⟩))
  refine ⟨_, _, rD (some x), rfl, d10, Nm.rD nx10, sh_rD _, ?_⟩
  (repeat (first
      | refine ⟨_, rfl, ?_⟩
      | refine ⟨_, _, rfl, rfl, ?_⟩
      | refine Or.inl ⟨_, rfl, ?_⟩
      | refine Or.inr ⟨_, rfl, ?_⟩
      | refine ⟨Or.inl ⟨by decide, by decide⟩, ?_⟩
      | refine ⟨Or.inr ⟨by decide, by decide⟩, ?_⟩
      | refine ⟨⟨by decide, by decide⟩, ?_⟩
      | refine ⟨⟨by decide, by decide, by decide⟩, ?_⟩
      | refine ⟨by decide, ?_⟩
      | refine ⟨(by show (0 : Int) < _; decide), ?_⟩
      | refine ⟨rfl, ?_⟩
      | refine ⟨⟨_, rfl⟩, ?_⟩
      | refine ⟨_, rfl, rfl, trivial, ?_⟩
      | refine ⟨_, _, rfl, ?_⟩))
  -- for k in range(4)
  refine for_range (lo := 0) (n := 4) (fun j σ H' => ∃ (n : Nat) (y2 y5 y6 y7 y8 : Option V), σ = [some (.ref a), some (.ref st), y2, some (.ref p), some (.str (S (ratL x))), y5, y6, y7, y8] ∧ St H' st n ∧ n ≤ 40 + 5 * j ∧ Nm K H' p x) ?_ ?_ ?_
  · exact ⟨n, _, _, _, _, _, rfl, hs9.same s10, by omega, nx10⟩
  · rintro j σ H' hj ⟨n, y2, y5, y6, y7, y8, rfl, hs, hn, nx⟩
    (repeat (first
      | refine ⟨_, rfl, ?_⟩
      | refine ⟨_, _, rfl, rfl, ?_⟩
      | refine Or.inl ⟨_, rfl, ?_⟩
      | refine Or.inr ⟨_, rfl, ?_⟩
      | refine ⟨Or.inl ⟨by decide, by decide⟩, ?_⟩
      | refine ⟨Or.inr ⟨by decide, by decide⟩, ?_⟩
      | refine ⟨⟨by decide, by decide⟩, ?_⟩
      | refine ⟨⟨by decide, by decide, by decide⟩, ?_⟩
      | refine ⟨by decide, ?_⟩
      | refine ⟨(by show (0 : Int) < _; decide), ?_⟩
      | refine ⟨rfl, ?_⟩
      | refine ⟨⟨_, rfl⟩, ?_⟩
      | refine ⟨_, rfl, rfl, trivial, ?_⟩
      | refine ⟨_, _, rfl, ?_⟩))
    refine ⟨st, p, S (ratL x), x, n, rfl, hs, by omega, by rw [S_len]; omega, nx, bd2_mono' bx, fun z n' H11 x11 s11 hn11 lz => ?_⟩
    have nx11 := Nm.sx x11 nx
    (repeat (first
      | refine ⟨_, rfl, ?_⟩
      | refine ⟨_, _, rfl, rfl, ?_⟩
      | refine Or.inl ⟨_, rfl, ?_⟩
      | refine Or.inr ⟨_, rfl, ?_⟩
      | refine ⟨Or.inl ⟨by decide, by decide⟩, ?_⟩
      | refine ⟨Or.inr ⟨by decide, by decide⟩, ?_⟩
      | refine ⟨⟨by decide, by decide⟩, ?_⟩
      | refine ⟨⟨by decide, by decide, by decide⟩, ?_⟩
      | refine ⟨by decide, ?_⟩
      | refine ⟨(by show (0 : Int) < _; decide), ?_⟩
      | refine ⟨rfl, ?_⟩
      | refine ⟨⟨_, rfl⟩, ?_⟩
      | refine ⟨_, rfl, rfl, trivial, ?_⟩
      | refine ⟨_, _, rfl, ?_⟩))
    refine ⟨by show (tl z).length ≤ _; rw [tl_len]; omega, fun r1 H12 s12 d12 => ?_⟩
    (repeat (first
      | refine ⟨_, rfl, ?_⟩
      | refine ⟨_, _, rfl, rfl, ?_⟩
      | refine Or.inl ⟨_, rfl, ?_⟩
      | refine Or.inr ⟨_, rfl, ?_⟩
      | refine ⟨Or.inl ⟨by decide, by decide⟩, ?_⟩
      | refine ⟨Or.inr ⟨by decide, by decide⟩, ?_⟩
      | refine ⟨⟨by decide, by decide⟩, ?_⟩
      | refine ⟨⟨by decide, by decide, by decide⟩, ?_⟩
      | refine ⟨by decide, ?_⟩
      | refine ⟨(by show (0 : Int) < _; decide), ?_⟩
      | refine ⟨rfl, ?_⟩
      | refine ⟨⟨_, rfl⟩, ?_⟩
      | refine ⟨_, rfl, rfl, trivial, ?_⟩
      | refine ⟨_, _, rfl, ?_⟩))
    refine ⟨by show (tl z).length ≤ _; rw [tl_len]; omega, fun r2 H13 s13 d13 => ?_⟩
    refine ⟨r1, r2, rD (ratOf (tl z)), rfl, Dp.same s13 d12, d13, sh_rD _, ?_⟩
    (repeat (first
      | refine ⟨_, rfl, ?_⟩
      | refine ⟨_, _, rfl, rfl, ?_⟩
      | refine Or.inl ⟨_, rfl, ?_⟩
      | refine Or.inr ⟨_, rfl, ?_⟩
      | refine ⟨Or.inl ⟨by decide, by decide⟩, ?_⟩
      | refine ⟨Or.inr ⟨by decide, by decide⟩, ?_⟩
      | refine ⟨⟨by decide, by decide⟩, ?_⟩
      | refine ⟨⟨by decide, by decide, by decide⟩, ?_⟩
      | refine ⟨by decide, ?_⟩
      | refine ⟨(by show (0 : Int) < _; decide), ?_⟩
      | refine ⟨rfl, ?_⟩
      | refine ⟨⟨_, rfl⟩, ?_⟩
      | refine ⟨_, rfl, rfl, trivial, ?_⟩
      | refine ⟨_, _, rfl, ?_⟩))
    exact ⟨n', _, _, _, _, _, rfl, (s11.same s12).same s13, by omega, Nm.same s13 (Nm.same s12 nx11)⟩
  rintro σ H11 ⟨n, y2, y5, y6, y7, y8, rfl, hs, hn, nx⟩
  -- high
  have hb0 : (x.1 * (10 : Int) ^ (40 : Int).toNat + x.2).natAbs < 2 ^ 170 := by
    have e : ((10 : Int) ^ (40 : Int).toNat) = 10000000000000000000000000000000000000000 := by decide +kernel
    have k1 := bx.1
    have k2 := bx.2
    rw [e]
    omega
  (repeat (first
      | refine ⟨_, rfl, ?_⟩
      | refine ⟨_, _, rfl, rfl, ?_⟩
      | refine Or.inl ⟨_, rfl, ?_⟩
      | refine Or.inr ⟨_, rfl, ?_⟩
      | refine ⟨Or.inl ⟨by decide, by decide⟩, ?_⟩
      | refine ⟨Or.inr ⟨by decide, by decide⟩, ?_⟩
      | refine ⟨⟨by decide, by decide⟩, ?_⟩
      | refine ⟨⟨by decide, by decide, by decide⟩, ?_⟩
      | refine ⟨by decide, ?_⟩
      | refine ⟨(by show (0 : Int) < _; decide), ?_⟩
      | refine ⟨rfl, ?_⟩
      | refine ⟨⟨_, rfl⟩, ?_⟩
      | refine ⟨_, rfl, rfl, trivial, ?_⟩
      | refine ⟨_, _, rfl, ?_⟩))
  refine ⟨p, _, _, _, rfl, rfl, nx, atI_nat (j := 0) rfl, ?_⟩
  (repeat (first
      | refine ⟨_, rfl, ?_⟩
      | refine ⟨_, _, rfl, rfl, ?_⟩
      | refine Or.inl ⟨_, rfl, ?_⟩
      | refine Or.inr ⟨_, rfl, ?_⟩
      | refine ⟨Or.inl ⟨by decide, by decide⟩, ?_⟩
      | refine ⟨Or.inr ⟨by decide, by decide⟩, ?_⟩
      | refine ⟨⟨by decide, by decide⟩, ?_⟩
      | refine ⟨⟨by decide, by decide, by decide⟩, ?_⟩
      | refine ⟨by decide, ?_⟩
      | refine ⟨(by show (0 : Int) < _; decide), ?_⟩
      | refine ⟨rfl, ?_⟩
      | refine ⟨⟨_, rfl⟩, ?_⟩
      | refine ⟨_, rfl, rfl, trivial, ?_⟩
      | refine ⟨_, _, rfl, ?_⟩))
  refine ⟨wide_mul (a := 30) (b := 200) bx.1 (by decide +kernel) (by decide) (by decide) (by decide), ?_⟩
  (repeat (first
      | refine ⟨_, rfl, ?_⟩
      | refine ⟨_, _, rfl, rfl, ?_⟩
      | refine Or.inl ⟨_, rfl, ?_⟩
      | refine Or.inr ⟨_, rfl, ?_⟩
      | refine ⟨Or.inl ⟨by decide, by decide⟩, ?_⟩
      | refine ⟨Or.inr ⟨by decide, by decide⟩, ?_⟩
      | refine ⟨⟨by decide, by decide⟩, ?_⟩
      | refine ⟨⟨by decide, by decide, by decide⟩, ?_⟩
      | refine ⟨by decide, ?_⟩
      | refine ⟨(by show (0 : Int) < _; decide), ?_⟩
      | refine ⟨rfl, ?_⟩
      | refine ⟨⟨_, rfl⟩, ?_⟩
      | refine ⟨_, rfl, rfl, trivial, ?_⟩
      | refine ⟨_, _, rfl, ?_⟩))
  refine ⟨p, _, _, _, rfl, rfl, nx, atI_nat (j := 1) rfl, ?_⟩
  (repeat (first
      | refine ⟨_, rfl, ?_⟩
      | refine ⟨_, _, rfl, rfl, ?_⟩
      | refine Or.inl ⟨_, rfl, ?_⟩
      | refine Or.inr ⟨_, rfl, ?_⟩
      | refine ⟨Or.inl ⟨by decide, by decide⟩, ?_⟩
      | refine ⟨Or.inr ⟨by decide, by decide⟩, ?_⟩
      | refine ⟨⟨by decide, by decide⟩, ?_⟩
      | refine ⟨⟨by decide, by decide, by decide⟩, ?_⟩
      | refine ⟨by decide, ?_⟩
      | refine ⟨(by show (0 : Int) < _; decide), ?_⟩
      | refine ⟨rfl, ?_⟩
      | refine ⟨⟨_, rfl⟩, ?_⟩
      | refine ⟨_, rfl, rfl, trivial, ?_⟩
      | refine ⟨_, _, rfl, ?_⟩))
  refine ⟨by show 2 ≤ sizeLine; decide, fun p2 h2 => ?_⟩
  have hs2 := hs.new (o := .tup [.int (x.1 * (10 : Int) ^ (40 : Int).toNat + x.2), .int 1]) h2
  have nh : Nm K (upd H11 p2 (.tup [.int (x.1 * (10 : Int) ^ (40 : Int).toNat + x.2), .int 1])) p2 (x.1 * (10 : Int) ^ (40 : Int).toNat + x.2, 1) := Nm.new upd_same
  generalize upd H11 p2 (.tup [.int (x.1 * (10 : Int) ^ (40 : Int).toNat + x.2), .int 1]) = H12 at hs2 nh ⊢
  generalize x.1 * (10 : Int) ^ (40 : Int).toNat + x.2 = h at nh hb0 ⊢
  (repeat (first
      | refine ⟨_, rfl, ?_⟩
      | refine ⟨_, _, rfl, rfl, ?_⟩
      | refine Or.inl ⟨_, rfl, ?_⟩
      | refine Or.inr ⟨_, rfl, ?_⟩
      | refine ⟨Or.inl ⟨by decide, by decide⟩, ?_⟩
      | refine ⟨Or.inr ⟨by decide, by decide⟩, ?_⟩
      | refine ⟨⟨by decide, by decide⟩, ?_⟩
      | refine ⟨⟨by decide, by decide, by decide⟩, ?_⟩
      | refine ⟨by decide, ?_⟩
      | refine ⟨(by show (0 : Int) < _; decide), ?_⟩
      | refine ⟨rfl, ?_⟩
      | refine ⟨⟨_, rfl⟩, ?_⟩
      | refine ⟨_, rfl, rfl, trivial, ?_⟩
      | refine ⟨_, _, rfl, ?_⟩))
  refine ⟨st, n, 5, rfl, hs2, by omega, by decide, fun v H13 v0 v1 x13 s13 => ?_⟩
  have nh13 := Nm.sx x13 nh
  (repeat (first
      | refine ⟨_, rfl, ?_⟩
      | refine ⟨_, _, rfl, rfl, ?_⟩
      | refine Or.inl ⟨_, rfl, ?_⟩
      | refine Or.inr ⟨_, rfl, ?_⟩
      | refine ⟨Or.inl ⟨by decide, by decide⟩, ?_⟩
      | refine ⟨Or.inr ⟨by decide, by decide⟩, ?_⟩
      | refine ⟨⟨by decide, by decide⟩, ?_⟩
      | refine ⟨⟨by decide, by decide, by decide⟩, ?_⟩
      | refine ⟨by decide, ?_⟩
      | refine ⟨(by show (0 : Int) < _; decide), ?_⟩
      | refine ⟨rfl, ?_⟩
      | refine ⟨⟨_, rfl⟩, ?_⟩
      | refine ⟨_, rfl, rfl, trivial, ?_⟩
      | refine ⟨_, _, rfl, ?_⟩))
  refine ⟨by omega, by omega, ?_⟩
  refine for_range (lo := 0) (n := v.toNat) (fun j σ H' => ∃ (p : Addr) (h : Int) (y0 y1 y2 y3 y4 y5 y6 y8 : Option V), σ = [y0, y1, y2, y3, y4, y5, y6, some (.ref p), y8] ∧ Nm K H' p (h, 1) ∧ h.natAbs < 2 ^ (170 * 2 ^ j) ∧ j ≤ 4) ?_ ?_ ?_
  · exact ⟨p2, h, _, _, _, _, _, _, _, _, rfl, nh13, hb0, by omega⟩
  · rintro j σ H' hj ⟨p, h, y0, y1, y2, y3, y4, y5, y6, y8, rfl, nh, hb, hj4⟩
    have hj3 : 2 ^ j ≤ 8 := Nat.le_trans (Nat.pow_le_pow_right (by decide) (show j ≤ 3 by omega)) (by decide)
    (repeat (first
      | refine ⟨_, rfl, ?_⟩
      | refine ⟨_, _, rfl, rfl, ?_⟩
      | refine Or.inl ⟨_, rfl, ?_⟩
      | refine Or.inr ⟨_, rfl, ?_⟩
      | refine ⟨Or.inl ⟨by decide, by decide⟩, ?_⟩
      | refine ⟨Or.inr ⟨by decide, by decide⟩, ?_⟩
      | refine ⟨⟨by decide, by decide⟩, ?_⟩
      | refine ⟨⟨by decide, by decide, by decide⟩, ?_⟩
      | refine ⟨by decide, ?_⟩
      | refine ⟨(by show (0 : Int) < _; decide), ?_⟩
      | refine ⟨rfl, ?_⟩
      | refine ⟨⟨_, rfl⟩, ?_⟩
      | refine ⟨_, rfl, rfl, trivial, ?_⟩
      | refine ⟨_, _, rfl, ?_⟩))
    refine ⟨p, _, _, _, rfl, rfl, nh, atI_nat (j := 0) rfl, ?_⟩
    (repeat (first
      | refine ⟨_, rfl, ?_⟩
      | refine ⟨_, _, rfl, rfl, ?_⟩
      | refine Or.inl ⟨_, rfl, ?_⟩
      | refine Or.inr ⟨_, rfl, ?_⟩
      | refine ⟨Or.inl ⟨by decide, by decide⟩, ?_⟩
      | refine ⟨Or.inr ⟨by decide, by decide⟩, ?_⟩
      | refine ⟨⟨by decide, by decide⟩, ?_⟩
      | refine ⟨⟨by decide, by decide, by decide⟩, ?_⟩
      | refine ⟨by decide, ?_⟩
      | refine ⟨(by show (0 : Int) < _; decide), ?_⟩
      | refine ⟨rfl, ?_⟩
      | refine ⟨⟨_, rfl⟩, ?_⟩
      | refine ⟨_, rfl, rfl, trivial, ?_⟩
      | refine ⟨_, _, rfl, ?_⟩))
    refine ⟨p, _, _, _, rfl, rfl, nh, atI_nat (j := 0) rfl, ?_⟩
    (repeat (first
      | refine ⟨_, rfl, ?_⟩
      | refine ⟨_, _, rfl, rfl, ?_⟩
      | refine Or.inl ⟨_, rfl, ?_⟩
      | refine Or.inr ⟨_, rfl, ?_⟩
      | refine ⟨Or.inl ⟨by decide, by decide⟩, ?_⟩
      | refine ⟨Or.inr ⟨by decide, by decide⟩, ?_⟩
      | refine ⟨⟨by decide, by decide⟩, ?_⟩
      | refine ⟨⟨by decide, by decide, by decide⟩, ?_⟩
      | refine ⟨by decide, ?_⟩
      | refine ⟨(by show (0 : Int) < _; decide), ?_⟩
      | refine ⟨rfl, ?_⟩
      | refine ⟨⟨_, rfl⟩, ?_⟩
      | refine ⟨_, rfl, rfl, trivial, ?_⟩
      | refine ⟨_, _, rfl, ?_⟩))
    have hm : CMulW h (1 + (if h < 0 then -h else h)) := wide_mul (a := 2000) (b := 2000) (up_bd' hb (by omega)) (Nat.lt_of_le_of_lt (show _ ≤ 2 ^ (170 * 2 ^ j) by split <;> omega) (Nat.pow_lt_pow_right (by decide) (by omega))) (by decide) (by decide) (by decide)
    refine ⟨hm, ?_⟩
    (repeat (first
      | refine ⟨_, rfl, ?_⟩
      | refine ⟨_, _, rfl, rfl, ?_⟩
      | refine Or.inl ⟨_, rfl, ?_⟩
      | refine Or.inr ⟨_, rfl, ?_⟩
      | refine ⟨Or.inl ⟨by decide, by decide⟩, ?_⟩
      | refine ⟨Or.inr ⟨by decide, by decide⟩, ?_⟩
      | refine ⟨⟨by decide, by decide⟩, ?_⟩
      | refine ⟨⟨by decide, by decide, by decide⟩, ?_⟩
      | refine ⟨by decide, ?_⟩
      | refine ⟨(by show (0 : Int) < _; decide), ?_⟩
      | refine ⟨rfl, ?_⟩
      | refine ⟨⟨_, rfl⟩, ?_⟩
      | refine ⟨_, rfl, rfl, trivial, ?_⟩
      | refine ⟨_, _, rfl, ?_⟩))
    refine ⟨by show 2 ≤ sizeLine; decide, fun p2 h2 => ?_⟩
    refine ⟨p2, _, _, _, _, _, _, _, _, _, rfl, Nm.new upd_same, ?_, by omega⟩
    have e := hbound hb
    rw [show 2 * (170 * 2 ^ j) = 170 * 2 ^ (j + 1) by rw [Nat.pow_succ]; omega] at e
    exact e
  rintro σ H' ⟨p, h, y0, y1, y2, y3, y4, y5, y6, y8, rfl, nh, hb, hj4⟩
  have hj5 : 2 ^ v.toNat ≤ 16 := Nat.le_trans (Nat.pow_le_pow_right (by decide) hj4) (by decide)
  have hh : h.natAbs < 2 ^ 2720 := up_bd' hb (by omega)
  have hh2 : h.natAbs < 10 ^ 1000 := Nat.lt_trans hh (by decide +kernel)
  have hl := (ratL_len (x := (h, 1)) hh2 (by show 1 < 10 ^ 1000; decide +kernel)).2
  (repeat (first
      | refine ⟨_, rfl, ?_⟩
      | refine ⟨_, _, rfl, rfl, ?_⟩
      | refine Or.inl ⟨_, rfl, ?_⟩
      | refine Or.inr ⟨_, rfl, ?_⟩
      | refine ⟨Or.inl ⟨by decide, by decide⟩, ?_⟩
      | refine ⟨Or.inr ⟨by decide, by decide⟩, ?_⟩
      | refine ⟨⟨by decide, by decide⟩, ?_⟩
      | refine ⟨⟨by decide, by decide, by decide⟩, ?_⟩
      | refine ⟨by decide, ?_⟩
      | refine ⟨(by show (0 : Int) < _; decide), ?_⟩
      | refine ⟨rfl, ?_⟩
      | refine ⟨⟨_, rfl⟩, ?_⟩
      | refine ⟨_, rfl, rfl, trivial, ?_⟩
      | refine ⟨_, _, rfl, ?_⟩))
  refine ⟨p, (h, 1), rfl, nh, by show (0 : Int) < 1; decide, hh2, by show 1 < 10 ^ 1000; decide +kernel, fun H14 s14 => ?_⟩
  have nh14 := Nm.same s14 nh
  (repeat (first
      | refine ⟨_, rfl, ?_⟩
      | refine ⟨_, _, rfl, rfl, ?_⟩
      | refine Or.inl ⟨_, rfl, ?_⟩
      | refine Or.inr ⟨_, rfl, ?_⟩
      | refine ⟨Or.inl ⟨by decide, by decide⟩, ?_⟩
      | refine ⟨Or.inr ⟨by decide, by decide⟩, ?_⟩
      | refine ⟨⟨by decide, by decide⟩, ?_⟩
      | refine ⟨⟨by decide, by decide, by decide⟩, ?_⟩
      | refine ⟨by decide, ?_⟩
      | refine ⟨(by show (0 : Int) < _; decide), ?_⟩
      | refine ⟨rfl, ?_⟩
      | refine ⟨⟨_, rfl⟩, ?_⟩
      | refine ⟨_, rfl, rfl, trivial, ?_⟩
      | refine ⟨_, _, rfl, ?_⟩))
  refine ⟨p, _, _, _, rfl, rfl, nh14, atI_nat (j := 0) rfl, ?_⟩
  refine ⟨_, rfl, Nat.lt_trans hh2 (by decide +kernel), ?_⟩
  rw [S_int, ← ratL_one]
  refine ⟨_, _, .str _, rfl, .str _, .str _, True.intro, ?_⟩
  (repeat (first
      | refine ⟨_, rfl, ?_⟩
      | refine ⟨_, _, rfl, rfl, ?_⟩
      | refine Or.inl ⟨_, rfl, ?_⟩
      | refine Or.inr ⟨_, rfl, ?_⟩
      | refine ⟨Or.inl ⟨by decide, by decide⟩, ?_⟩
      | refine ⟨Or.inr ⟨by decide, by decide⟩, ?_⟩
      | refine ⟨⟨by decide, by decide⟩, ?_⟩
      | refine ⟨⟨by decide, by decide, by decide⟩, ?_⟩
      | refine ⟨by decide, ?_⟩
      | refine ⟨(by show (0 : Int) < _; decide), ?_⟩
      | refine ⟨rfl, ?_⟩
      | refine ⟨⟨_, rfl⟩, ?_⟩
      | refine ⟨_, rfl, rfl, trivial, ?_⟩
      | refine ⟨_, _, rfl, ?_⟩))
  refine ⟨by omega, fun rv H15 s15 d15 => ?_⟩
  rw [ratOf_text (ok2_one h)] at d15
  (repeat (first
      | refine ⟨_, rfl, ?_⟩
      | refine ⟨_, _, rfl, rfl, ?_⟩
      | refine Or.inl ⟨_, rfl, ?_⟩
      | refine Or.inr ⟨_, rfl, ?_⟩
      | refine ⟨Or.inl ⟨by decide, by decide⟩, ?_⟩
      | refine ⟨Or.inr ⟨by decide, by decide⟩, ?_⟩
      | refine ⟨⟨by decide, by decide⟩, ?_⟩
      | refine ⟨⟨by decide, by decide, by decide⟩, ?_⟩
      | refine ⟨by decide, ?_⟩
      | refine ⟨(by show (0 : Int) < _; decide), ?_⟩
      | refine ⟨rfl, ?_⟩
      | refine ⟨⟨_, rfl⟩, ?_⟩
      | refine ⟨_, rfl, rfl, trivial, ?_⟩
      | refine ⟨_, _, rfl, ?_⟩))
  refine ⟨_, _, rD (some (h, 1)), rfl, d15, Nm.rD (Nm.same s15 nh14), sh_rD _, ?_⟩
  exact q _
end
end My

namespace My
open PySem PySem.Spec PyProof.Rows L2
theorem all_mk {l : PySem.W.OpenLaw} {w : World} {K : PySem.W.Frag} {h : Heap} {mg : Str → Option Value} {fa f0 f1 f2 f3 f4 f5 f6 f7 f8 f9 f10 f11 f12 f13 f14 f15 f16 : Addr} (X : K.In h) (G : h.Ns mainGlobals mg) (hfa : mg "law" = some (.ref fa))
    {od0 an0 od1 an1 od2 an2 od3 an3 od4 an4 od5 an5 od6 an6 od7 an7 od8 an8 od9 an9 od10 an10 od11 an11 od12 an12 od13 an13 od14 an14 od15 an15 od16 an16 : Option Addr} {sl0 sl1 sl2 sl3 sl4 sl5 sl6 sl7 sl8 sl9 sl10 sl11 sl12 sl13 sl14 sl15 sl16 : Array (Option Value)} {oc0 kV0 dc0 pm0 cd0 ct0 oc1 kV1 dc1 pm1 cd1 ct1 oc2 kV2 dc2 pm2 cd2 ct2 oc3 kV3 dc3 pm3 cd3 ct3 oc4 kV4 dc4 pm4 cd4 ct4 oc5 kV5 dc5 pm5 cd5 ct5 oc6 kV6 dc6 pm6 cd6 ct6 oc7 kV7 dc7 pm7 cd7 ct7 oc8 kV8 dc8 pm8 cd8 ct8 oc9 kV9 dc9 pm9 cd9 ct9 oc10 kV10 dc10 pm10 cd10 ct10 oc11 kV11 dc11 pm11 cd11 ct11 oc12 kV12 dc12 pm12 cd12 ct12 oc13 kV13 dc13 pm13 cd13 ct13 oc14 kV14 dc14 pm14 cd14 ct14 oc15 kV15 dc15 pm15 cd15 ct15 oc16 kV16 dc16 pm16 cd16 ct16 : Value}
    (a0 : PySem.W.nsIn K mainGlobals "_law_common" = some (some (.ref f0))) (l0 : K.lookup f0 = some ⟨oc0, od0, .func (PySem.W.fnOf "_law_common" "_law_common" (defArgs s_law_common) (defBody s_law_common) (defScope s_law_common) .none kV0 dc0 pm0 an0 cd0 ct0), sl0⟩) (c0 : PySem.W.codeIn K cd0 "_law_common" = true) (k0 : PySem.W.keepIn K (.ref f0) = true)
    (a1 : PySem.W.nsIn K mainGlobals "_law_pair" = some (some (.ref f1))) (l1 : K.lookup f1 = some ⟨oc1, od1, .func (PySem.W.fnOf "_law_pair" "_law_pair" (defArgs s_law_pair) (defBody s_law_pair) (defScope s_law_pair) .none kV1 dc1 pm1 an1 cd1 ct1), sl1⟩) (c1 : PySem.W.codeIn K cd1 "_law_pair" = true) (k1 : PySem.W.keepIn K (.ref f1) = true)
    (a2 : PySem.W.nsIn K mainGlobals "_law_text" = some (some (.ref f2))) (l2 : K.lookup f2 = some ⟨oc2, od2, .func (PySem.W.fnOf "_law_text" "_law_text" (defArgs s_law_text) (defBody s_law_text) (defScope s_law_text) .none kV2 dc2 pm2 an2 cd2 ct2), sl2⟩) (c2 : PySem.W.codeIn K cd2 "_law_text" = true) (k2 : PySem.W.keepIn K (.ref f2) = true)
    (a3 : PySem.W.nsIn K mainGlobals "_write_natural" = some (some (.ref f3))) (l3 : K.lookup f3 = some ⟨oc3, od3, .func (PySem.W.fnOf "_write_natural" "_write_natural" (defArgs s_write_natural) (defBody s_write_natural) (defScope s_write_natural) .none kV3 dc3 pm3 an3 cd3 ct3), sl3⟩) (c3 : PySem.W.codeIn K cd3 "_write_natural" = true) (k3 : PySem.W.keepIn K (.ref f3) = true)
    (a4 : PySem.W.nsIn K mainGlobals "write_number" = some (some (.ref f4))) (l4 : K.lookup f4 = some ⟨oc4, od4, .func (PySem.W.fnOf "write_number" "write_number" (defArgs s_write_number) (defBody s_write_number) (defScope s_write_number) .none kV4 dc4 pm4 an4 cd4 ct4), sl4⟩) (c4 : PySem.W.codeIn K cd4 "write_number" = true) (k4 : PySem.W.keepIn K (.ref f4) = true)
    (a5 : PySem.W.nsIn K mainGlobals "_law_tape" = some (some (.ref f5))) (l5 : K.lookup f5 = some ⟨oc5, od5, .func (PySem.W.fnOf "_law_tape" "_law_tape" (defArgs s_law_tape) (defBody s_law_tape) (defScope s_law_tape) .none kV5 dc5 pm5 an5 cd5 ct5), sl5⟩) (c5 : PySem.W.codeIn K cd5 "_law_tape" = true) (k5 : PySem.W.keepIn K (.ref f5) = true)
    (a6 : PySem.W.nsIn K mainGlobals "_law_draw" = some (some (.ref f6))) (l6 : K.lookup f6 = some ⟨oc6, od6, .func (PySem.W.fnOf "_law_draw" "_law_draw" (defArgs s_law_draw) (defBody s_law_draw) (defScope s_law_draw) .none kV6 dc6 pm6 an6 cd6 ct6), sl6⟩) (c6 : PySem.W.codeIn K cd6 "_law_draw" = true) (k6 : PySem.W.keepIn K (.ref f6) = true)
    (a7 : PySem.W.nsIn K mainGlobals "_law_take" = some (some (.ref f7))) (l7 : K.lookup f7 = some ⟨oc7, od7, .func (PySem.W.fnOf "_law_take" "_law_take" (defArgs s_law_take) (defBody s_law_take) (defScope s_law_take) .none kV7 dc7 pm7 an7 cd7 ct7), sl7⟩) (c7 : PySem.W.codeIn K cd7 "_law_take" = true) (k7 : PySem.W.keepIn K (.ref f7) = true)
    (a8 : PySem.W.nsIn K mainGlobals "_law_long" = some (some (.ref f8))) (l8 : K.lookup f8 = some ⟨oc8, od8, .func (PySem.W.fnOf "_law_long" "_law_long" (defArgs s_law_long) (defBody s_law_long) (defScope s_law_long) .none kV8 dc8 pm8 an8 cd8 ct8), sl8⟩) (c8 : PySem.W.codeIn K cd8 "_law_long" = true) (k8 : PySem.W.keepIn K (.ref f8) = true)
    (a9 : PySem.W.nsIn K mainGlobals "_law_changed" = some (some (.ref f9))) (l9 : K.lookup f9 = some ⟨oc9, od9, .func (PySem.W.fnOf "_law_changed" "_law_changed" (defArgs s_law_changed) (defBody s_law_changed) (defScope s_law_changed) .none kV9 dc9 pm9 an9 cd9 ct9), sl9⟩) (c9 : PySem.W.codeIn K cd9 "_law_changed" = true) (k9 : PySem.W.keepIn K (.ref f9) = true)
    (a10 : PySem.W.nsIn K mainGlobals "_law_equal" = some (some (.ref f10))) (l10 : K.lookup f10 = some ⟨oc10, od10, .func (PySem.W.fnOf "_law_equal" "_law_equal" (defArgs s_law_equal) (defBody s_law_equal) (defScope s_law_equal) .none kV10 dc10 pm10 an10 cd10 ct10), sl10⟩) (c10 : PySem.W.codeIn K cd10 "_law_equal" = true) (k10 : PySem.W.keepIn K (.ref f10) = true)
    (a11 : PySem.W.nsIn K mainGlobals "_read_natural" = some (some (.ref f11))) (l11 : K.lookup f11 = some ⟨oc11, od11, .func (PySem.W.fnOf "_read_natural" "_read_natural" (defArgs s_read_natural) (defBody s_read_natural) (defScope s_read_natural) .none kV11 dc11 pm11 an11 cd11 ct11), sl11⟩) (c11 : PySem.W.codeIn K cd11 "_read_natural" = true) (k11 : PySem.W.keepIn K (.ref f11) = true)
    (a12 : PySem.W.nsIn K mainGlobals "_read_integer" = some (some (.ref f12))) (l12 : K.lookup f12 = some ⟨oc12, od12, .func (PySem.W.fnOf "_read_integer" "_read_integer" (defArgs s_read_integer) (defBody s_read_integer) (defScope s_read_integer) .none kV12 dc12 pm12 an12 cd12 ct12), sl12⟩) (c12 : PySem.W.codeIn K cd12 "_read_integer" = true) (k12 : PySem.W.keepIn K (.ref f12) = true)
    (a13 : PySem.W.nsIn K mainGlobals "read_number" = some (some (.ref f13))) (l13 : K.lookup f13 = some ⟨oc13, od13, .func (PySem.W.fnOf "read_number" "read_number" (defArgs s_read_number) (defBody s_read_number) (defScope s_read_number) .none kV13 dc13 pm13 an13 cd13 ct13), sl13⟩) (c13 : PySem.W.codeIn K cd13 "read_number" = true) (k13 : PySem.W.keepIn K (.ref f13) = true)
    (a14 : PySem.W.nsIn K mainGlobals "_law_digits" = some (some (.ref f14))) (l14 : K.lookup f14 = some ⟨oc14, od14, .func (PySem.W.fnOf "_law_digits" "_law_digits" (defArgs s_law_digits) (defBody s_law_digits) (defScope s_law_digits) .none kV14 dc14 pm14 an14 cd14 ct14), sl14⟩) (c14 : PySem.W.codeIn K cd14 "_law_digits" = true) (k14 : PySem.W.keepIn K (.ref f14) = true)
    (a15 : PySem.W.nsIn K mainGlobals "_law_read" = some (some (.ref f15))) (l15 : K.lookup f15 = some ⟨oc15, od15, .func (PySem.W.fnOf "_law_read" "_law_read" (defArgs s_law_read) (defBody s_law_read) (defScope s_law_read) .none kV15 dc15 pm15 an15 cd15 ct15), sl15⟩) (c15 : PySem.W.codeIn K cd15 "_law_read" = true) (k15 : PySem.W.keepIn K (.ref f15) = true)
    (a16 : PySem.W.nsIn K mainGlobals "law" = some (some (.ref f16))) (l16 : K.lookup f16 = some ⟨oc16, od16, .func (PySem.W.fnOf "law" "law" (defArgs s_law) (defBody s_law) (defScope s_law) .none kV16 dc16 pm16 an16 cd16 ct16), sl16⟩) (c16 : PySem.W.codeIn K cd16 "law" = true) (k16 : PySem.W.keepIn K (.ref f16) = true)
    (z0 : PySem.W.nsIn K mainGlobals "abs" = some none)
    (z1 : PySem.W.nsIn K mainGlobals "bool" = some none)
    (z2 : PySem.W.nsIn K mainGlobals "divmod" = some none)
    (z3 : PySem.W.nsIn K mainGlobals "gcd" = some (some (.builtin "math.gcd")))
    (z4 : PySem.W.nsIn K mainGlobals "int" = some none)
    (z5 : PySem.W.nsIn K mainGlobals "isinstance" = some none)
    (z6 : PySem.W.nsIn K mainGlobals "len" = some none)
    (z7 : PySem.W.nsIn K mainGlobals "list" = some none)
    (z8 : PySem.W.nsIn K mainGlobals "max" = some none)
    (z9 : PySem.W.nsIn K mainGlobals "range" = some none)
    (z10 : PySem.W.nsIn K mainGlobals "str" = some none)
    (z11 : PySem.W.nsIn K mainGlobals "tuple" = some none)
    (x_dig : PySem.W.nsIn K cStatics "sys.int_max_str_digits" = some none)
    : ∃ fd : FuncData, (∀ (s : Shared) (v : Value), BindsTo s fd ⟨[v], []⟩ [("script", v)]) ∧ ∀ base : Heap, K.In base → base.Ns mainGlobals mg → FnOk l.prog w K mg base CX0 10 fa fd ["script"] (spLaw K) := by
  have e := hfa.symm.trans (PySem.W.mg_of X G a16)
  cases e
  have F0 := fun_mk (st := s_law_common) l0 c0 k0
  have b0 := F0.binds (ps := ["one", "other"]) fun _ _ _ _ _ _ us hl => match us, hl with | [_, _], _ => rfl
  have F1 := fun_mk (st := s_law_pair) l1 c1 k1
  have b1 := F1.binds (ps := ["top", "bottom"]) fun _ _ _ _ _ _ us hl => match us, hl with | [_, _], _ => rfl
  have F2 := fun_mk (st := s_law_text) l2 c2 k2
  have b2 := F2.binds (ps := ["pair"]) fun _ _ _ _ _ _ us hl => match us, hl with | [_], _ => rfl
  have F3 := fun_mk (st := s_write_natural) l3 c3 k3
  have b3 := F3.binds (ps := ["value"]) fun _ _ _ _ _ _ us hl => match us, hl with | [_], _ => rfl
  have F4 := fun_mk (st := s_write_number) l4 c4 k4
  have b4 := F4.binds (ps := ["pair"]) fun _ _ _ _ _ _ us hl => match us, hl with | [_], _ => rfl
  have F5 := fun_mk (st := s_law_tape) l5 c5 k5
  have b5 := F5.binds (ps := ["script"]) fun _ _ _ _ _ _ us hl => match us, hl with | [_], _ => rfl
  have F6 := fun_mk (st := s_law_draw) l6 c6 k6
  have b6 := F6.binds (ps := ["tape", "at", "many"]) fun _ _ _ _ _ _ us hl => match us, hl with | [_, _, _], _ => rfl
  have F7 := fun_mk (st := s_law_take) l7 c7 k7
  have b7 := F7.binds (ps := ["state", "many"]) fun _ _ _ _ _ _ us hl => match us, hl with | [_, _], _ => rfl
  have F8 := fun_mk (st := s_law_long) l8 c8 k8
  have b8 := F8.binds (ps := ["state", "groups"]) fun _ _ _ _ _ _ us hl => match us, hl with | [_, _], _ => rfl
  have F9 := fun_mk (st := s_law_changed) l9 c9 k9
  have b9 := F9.binds (ps := ["state", "text", "pair"]) fun _ _ _ _ _ _ us hl => match us, hl with | [_, _, _], _ => rfl
  have F10 := fun_mk (st := s_law_equal) l10 c10 k10
  have b10 := F10.binds (ps := ["actual", "due"]) fun _ _ _ _ _ _ us hl => match us, hl with | [_, _], _ => rfl
  have F11 := fun_mk (st := s_read_natural) l11 c11 k11
  have b11 := F11.binds (ps := ["text"]) fun _ _ _ _ _ _ us hl => match us, hl with | [_], _ => rfl
  have F12 := fun_mk (st := s_read_integer) l12 c12 k12
  have b12 := F12.binds (ps := ["text"]) fun _ _ _ _ _ _ us hl => match us, hl with | [_], _ => rfl
  have F13 := fun_mk (st := s_read_number) l13 c13 k13
  have b13 := F13.binds (ps := ["text"]) fun _ _ _ _ _ _ us hl => match us, hl with | [_], _ => rfl
  have F14 := fun_mk (st := s_law_digits) l14 c14 k14
  have b14 := F14.binds (ps := ["text"]) fun _ _ _ _ _ _ us hl => match us, hl with | [_], _ => rfl
  have F15 := fun_mk (st := s_law_read) l15 c15 k15
  have b15 := F15.binds (ps := ["text"]) fun _ _ _ _ _ _ us hl => match us, hl with | [_], _ => rfl
  have F16 := fun_mk (st := s_law) l16 c16 k16
  have b16 := F16.binds (ps := ["script"]) fun _ _ _ _ _ _ us hl => match us, hl with | [_], _ => rfl
  let T : Top K mg := ⟨f0, _, F0, b0, PySem.W.mg_of X G a0, f1, _, F1, b1, PySem.W.mg_of X G a1, f2, _, F2, b2, PySem.W.mg_of X G a2, f3, _, F3, b3, PySem.W.mg_of X G a3, f4, _, F4, b4, PySem.W.mg_of X G a4, f5, _, F5, b5, PySem.W.mg_of X G a5, f6, _, F6, b6, PySem.W.mg_of X G a6, f7, _, F7, b7, PySem.W.mg_of X G a7, f8, _, F8, b8, PySem.W.mg_of X G a8, f9, _, F9, b9, PySem.W.mg_of X G a9, f10, _, F10, b10, PySem.W.mg_of X G a10, f11, _, F11, b11, PySem.W.mg_of X G a11, f12, _, F12, b12, PySem.W.mg_of X G a12, f13, _, F13, b13, PySem.W.mg_of X G a13, f14, _, F14, b14, PySem.W.mg_of X G a14, f15, _, F15, b15, PySem.W.mg_of X G a15, fa, _, F16, b16, PySem.W.mg_of X G a16, PySem.W.mg_none_of X G z0, PySem.W.mg_none_of X G z1, PySem.W.mg_none_of X G z2, PySem.W.mg_of X G z3, PySem.W.mg_none_of X G z4, PySem.W.mg_none_of X G z5, PySem.W.mg_none_of X G z6, PySem.W.mg_none_of X G z7, PySem.W.mg_none_of X G z8, PySem.W.mg_none_of X G z9, PySem.W.mg_none_of X G z10, PySem.W.mg_none_of X G z11, x_dig⟩
  refine ⟨PySem.W.fnOf "law" "law" (defArgs s_law) (defBody s_law) (defScope s_law) .none kV16 dc16 pm16 an16 cd16 ct16, fun s v => .of_eq rfl, fun base _ _ => ?_⟩
  exact ok_law (P := l.prog) (w := w) (base := base) T
theorem walk {l : PySem.W.OpenLaw} {q : Program} {loose : List Str} {XP : (Str → Option Value) → Heap → Prop} {YP : World → Heap → Prop} {d : DefRec} {K : Params → PySem.W.Frag} (hn : l.most = some 63) (hdf : d.params.defaults = [])
    (hY : ∀ (w : World) (h : Heap), YP w h → (K w.params).In h)
    (F : ∀ (w : World) (mg : Str → Option Value) (fa : Addr) (h : Heap), (K w.params).In h → h.Ns mainGlobals mg → mg d.name = some (.ref fa) →
      ∃ fd : FuncData, (∀ (s : Shared) (u : Value), BindsTo s fd ⟨[u], []⟩ [("script", u)]) ∧ ∀ base : Heap, (K w.params).In base → base.Ns mainGlobals mg → FnOk l.prog w (K w.params) mg base CX0 10 fa fd ["script"] (spLaw (K w.params))) :
    PySem.W.WalkO q loose XP YP l.row.toRowW d [] (fun f vs => PySem.call f vs) :=
  L2.walk_of (n := 63) (k := 10) (x := "script") (CX := fun _ => CX0) (sp := fun w => spLaw (K w.params)) hn (by decide) hdf ⟨rfl, by decide, by decide⟩ hY F (fun _ _ a ns hl _ hS => ⟨a, ns, rfl, hS, hl, fun _ => rfl⟩) fun _ _ _ _ _ z => z
end My
open PySem PySem.W PyProof.Rows
set_option maxRecDepth 100000 in
set_option maxHeartbeats 0 in
theorem PySem.Challenge.cw_keeproom_k01_numbers_read_and_written_holds : PySem.Challenge.rw_keeproom_k01_numbers_read_and_written.Holds := by
  w_on; o_law; k_head; (case hw => w_witness2)
  k_fill
  refine My.walk (l := PySem.Challenge.rw_keeproom_k01_numbers_read_and_written) rfl rfl (fun w h Y => PySem.W.kIn_of Y) ?F
  case F =>
    intro w mg fa h KX G hmg
    refine' My.all_mk KX G hmg ?a0 ?l0 ?c0 ?k0 ?a1 ?l1 ?c1 ?k1 ?a2 ?l2 ?c2 ?k2 ?a3 ?l3 ?c3 ?k3 ?a4 ?l4 ?c4 ?k4 ?a5 ?l5 ?c5 ?k5 ?a6 ?l6 ?c6 ?k6 ?a7 ?l7 ?c7 ?k7 ?a8 ?l8 ?c8 ?k8 ?a9 ?l9 ?c9 ?k9 ?a10 ?l10 ?c10 ?k10 ?a11 ?l11 ?c11 ?k11 ?a12 ?l12 ?c12 ?k12 ?a13 ?l13 ?c13 ?k13 ?a14 ?l14 ?c14 ?k14 ?a15 ?l15 ?c15 ?k15 ?a16 ?l16 ?c16 ?k16 ?z0 ?z1 ?z2 ?z3 ?z4 ?z5 ?z6 ?z7 ?z8 ?z9 ?z10 ?z11 ?x_dig
    (case a0 => k_is)
    (case l0 => k_is)
    (case c0 => k_is)
    (case k0 => k_is)
    (case a1 => k_is)
    (case l1 => k_is)
    (case c1 => k_is)
    (case k1 => k_is)
    (case a2 => k_is)
    (case l2 => k_is)
    (case c2 => k_is)
    (case k2 => k_is)
    (case a3 => k_is)
    (case l3 => k_is)
    (case c3 => k_is)
    (case k3 => k_is)
    (case a4 => k_is)
    (case l4 => k_is)
    (case c4 => k_is)
    (case k4 => k_is)
    (case a5 => k_is)
    (case l5 => k_is)
    (case c5 => k_is)
    (case k5 => k_is)
    (case a6 => k_is)
    (case l6 => k_is)
    (case c6 => k_is)
    (case k6 => k_is)
    (case a7 => k_is)
    (case l7 => k_is)
    (case c7 => k_is)
    (case k7 => k_is)
    (case a8 => k_is)
    (case l8 => k_is)
    (case c8 => k_is)
    (case k8 => k_is)
    (case a9 => k_is)
    (case l9 => k_is)
    (case c9 => k_is)
    (case k9 => k_is)
    (case a10 => k_is)
    (case l10 => k_is)
    (case c10 => k_is)
    (case k10 => k_is)
    (case a11 => k_is)
    (case l11 => k_is)
    (case c11 => k_is)
    (case k11 => k_is)
    (case a12 => k_is)
    (case l12 => k_is)
    (case c12 => k_is)
    (case k12 => k_is)
    (case a13 => k_is)
    (case l13 => k_is)
    (case c13 => k_is)
    (case k13 => k_is)
    (case a14 => k_is)
    (case l14 => k_is)
    (case c14 => k_is)
    (case k14 => k_is)
    (case a15 => k_is)
    (case l15 => k_is)
    (case c15 => k_is)
    (case k15 => k_is)
    (case a16 => k_is)
    (case l16 => k_is)
    (case c16 => k_is)
    (case k16 => k_is)
    (case z0 => k_is)
    (case z1 => k_is)
    (case z2 => k_is)
    (case z3 => k_is)
    (case z4 => k_is)
    (case z5 => k_is)
    (case z6 => k_is)
    (case z7 => k_is)
    (case z8 => k_is)
    (case z9 => k_is)
    (case z10 => k_is)
    (case z11 => k_is)
    (case x_dig => k_is)

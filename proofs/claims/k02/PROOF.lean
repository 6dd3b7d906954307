import PyProof.Rows.All
import Wide.All
import OpenK.AllK
import Wide.FinOn
import HandS.ForMost
import HandS.IsInst
import HandS.Gcd
import HandS.Wide
import HandS.WideBits
import HandS.StrMore
import HandS.TupAny
import HandS.FStr
import HandS.Conv
import HandS.Deep
import HandS.Codes
import HandS.Style
import PyProof.Rows.StrOr
import PySem.Challenge.RW_keeproom_k02_positions_and_numbers_for_t
set_option Elab.async false
set_option linter.all false
set_option maxRecDepth 100000
set_option maxHeartbeats 4000000

namespace My
/-! ### mathematics of fractions -/
abbrev Q2 := Int × Int
def lt2 (x y : Q2) : Prop := x.1 * y.2 < y.1 * x.2
instance (x y : Q2) : Decidable (lt2 x y) := inferInstanceAs (Decidable (_ < _))
def ok2 (x : Q2) : Prop := 0 < x.2 ∧ Nat.gcd x.1.natAbs x.2.natAbs = 1
def bd2 (n : Nat) (x : Q2) : Prop := x.1.natAbs < 2 ^ n ∧ x.2.natAbs < 2 ^ n
theorem lt2_irr (x : Q2) : ¬ lt2 x x := Int.lt_irrefl _
theorem lt2_asymm {x y : Q2} (h : lt2 x y) : ¬ lt2 y x := fun q => by
  unfold lt2 at h q
  omega
theorem lt2_trans {x y z : Q2} (hx : 0 < x.2) (hy : 0 < y.2) (hz : 0 < z.2) (h : lt2 x y) (h' : lt2 y z) : lt2 x z := by
  unfold lt2 at *
  have a : x.1 * y.2 * z.2 < y.1 * x.2 * z.2 := Int.mul_lt_mul_of_pos_right h hz
  have b : y.1 * z.2 * x.2 < z.1 * y.2 * x.2 := Int.mul_lt_mul_of_pos_right h' hx
  have c : x.1 * z.2 * y.2 < z.1 * x.2 * y.2 := by
    have e1 : x.1 * z.2 * y.2 = x.1 * y.2 * z.2 := by grind
    have e2 : y.1 * z.2 * x.2 = y.1 * x.2 * z.2 := by grind
    have e3 : z.1 * y.2 * x.2 = z.1 * x.2 * y.2 := by grind
    omega
  exact Int.lt_of_mul_lt_mul_right c (Int.le_of_lt hy)
theorem eq2 {x y : Q2} (hx : ok2 x) (hy : ok2 y) (h : ¬ lt2 x y) (h' : ¬ lt2 y x) : x = y := by
  unfold lt2 at *
  have e : x.1 * y.2 = y.1 * x.2 := by omega
  obtain ⟨x1, x2⟩ := x
  obtain ⟨y1, y2⟩ := y
  obtain ⟨p, g⟩ := hx
  obtain ⟨p', g'⟩ := hy
  simp only at *
  have en : x1.natAbs * y2.natAbs = y1.natAbs * x2.natAbs := by rw [← Int.natAbs_mul, ← Int.natAbs_mul, e]
  have d1 : x2.natAbs ∣ y2.natAbs := Nat.Coprime.dvd_of_dvd_mul_left (k := x2.natAbs) (m := x1.natAbs) (n := y2.natAbs) (by rw [Nat.Coprime, Nat.gcd_comm]; exact g) ⟨y1.natAbs, by rw [en, Nat.mul_comm]⟩
  have d2 : y2.natAbs ∣ x2.natAbs := Nat.Coprime.dvd_of_dvd_mul_left (k := y2.natAbs) (m := y1.natAbs) (n := x2.natAbs) (by rw [Nat.Coprime, Nat.gcd_comm]; exact g') ⟨x1.natAbs, by rw [← en, Nat.mul_comm]⟩
  have e2 : x2.natAbs = y2.natAbs := Nat.dvd_antisymm d1 d2
  have e3 : x2 = y2 := by omega
  subst e3
  have e4 : x1 = y1 := Int.eq_of_mul_eq_mul_right (by omega) e
  rw [e4]
def red (t b : Int) : Q2 := (t / (Nat.gcd t.natAbs b.natAbs : Nat), b / (Nat.gcd t.natAbs b.natAbs : Nat))
theorem gcd_pos {t b : Int} (hb : 0 < b) : 0 < Nat.gcd t.natAbs b.natAbs := Nat.gcd_pos_of_pos_right _ (by omega)
theorem dvd_i {g : Nat} {t : Int} (h : g ∣ t.natAbs) : (g : Int) ∣ t := Int.ofNat_dvd_left.mpr h
theorem red_mul {t b : Int} : (red t b).1 * (Nat.gcd t.natAbs b.natAbs : Nat) = t ∧ (red t b).2 * (Nat.gcd t.natAbs b.natAbs : Nat) = b :=
  ⟨Int.ediv_mul_cancel (dvd_i (Nat.gcd_dvd_left _ _)), Int.ediv_mul_cancel (dvd_i (Nat.gcd_dvd_right _ _))⟩
theorem red_pos {t b : Int} (hb : 0 < b) : 0 < (red t b).2 := by
  have h := (red_mul (t := t) (b := b)).2
  have g : (0 : Int) < (Nat.gcd t.natAbs b.natAbs : Nat) := by exact_mod_cast gcd_pos hb
  refine Int.lt_of_not_ge fun q => ?_
  have h2 : (red t b).2 * (Nat.gcd t.natAbs b.natAbs : Nat) ≤ 0 := Int.mul_nonpos_of_nonpos_of_nonneg q (Int.le_of_lt g)
  omega
theorem red_ok {t b : Int} (hb : 0 < b) : ok2 (red t b) := by
  refine ⟨red_pos hb, ?_⟩
  have g := gcd_pos (t := t) hb
  have e1 : (red t b).1.natAbs = t.natAbs / Nat.gcd t.natAbs b.natAbs := by
    refine (Nat.div_eq_of_eq_mul_left g ?_).symm
    have h := (red_mul (t := t) (b := b)).1
    have h2 := congrArg Int.natAbs h
    rw [Int.natAbs_mul, Int.natAbs_natCast] at h2
    exact h2.symm
  have e2 : (red t b).2.natAbs = b.natAbs / Nat.gcd t.natAbs b.natAbs := by
    refine (Nat.div_eq_of_eq_mul_left g ?_).symm
    have h := (red_mul (t := t) (b := b)).2
    have h2 := congrArg Int.natAbs h
    rw [Int.natAbs_mul, Int.natAbs_natCast] at h2
    exact h2.symm
  rw [e1, e2]
  exact Nat.coprime_div_gcd_div_gcd g
theorem red_id {t b : Int} (h : Nat.gcd t.natAbs b.natAbs = 1) : red t b = (t, b) := by
  unfold red
  rw [h]
  simp
theorem red_bd {n : Nat} {t b : Int} (hb : 0 < b) (h1 : t.natAbs < 2 ^ n) (h2 : b.natAbs < 2 ^ n) : bd2 n (red t b) := by
  have g := gcd_pos (t := t) hb
  have a1 := congrArg Int.natAbs (red_mul (t := t) (b := b)).1
  have a2 := congrArg Int.natAbs (red_mul (t := t) (b := b)).2
  rw [Int.natAbs_mul, Int.natAbs_natCast] at a1 a2
  exact ⟨Nat.lt_of_le_of_lt (Nat.le_trans (Nat.le_mul_of_pos_right _ g) (Nat.le_of_eq a1)) h1, Nat.lt_of_le_of_lt (Nat.le_trans (Nat.le_mul_of_pos_right _ g) (Nat.le_of_eq a2)) h2⟩
theorem lt2_red_l {t b : Int} {y : Q2} (hb : 0 < b) : lt2 (red t b) y ↔ t * y.2 < y.1 * b := by
  obtain ⟨a1, a2⟩ := red_mul (t := t) (b := b)
  have g : (0 : Int) < (Nat.gcd t.natAbs b.natAbs : Nat) := by exact_mod_cast gcd_pos hb
  generalize hk : ((Nat.gcd t.natAbs b.natAbs : Nat) : Int) = k at *
  generalize red t b = r at *
  unfold lt2
  have e1 : t * y.2 = r.1 * y.2 * k := by rw [← a1]; grind
  have e2 : y.1 * b = y.1 * r.2 * k := by rw [← a2]; grind
  rw [e1, e2]
  exact (Int.mul_lt_mul_right g).symm
theorem lt2_red_r {t b : Int} {y : Q2} (hb : 0 < b) : lt2 y (red t b) ↔ y.1 * b < t * y.2 := by
  obtain ⟨a1, a2⟩ := red_mul (t := t) (b := b)
  have g : (0 : Int) < (Nat.gcd t.natAbs b.natAbs : Nat) := by exact_mod_cast gcd_pos hb
  generalize hk : ((Nat.gcd t.natAbs b.natAbs : Nat) : Int) = k at *
  generalize red t b = r at *
  unfold lt2
  have e1 : t * y.2 = r.1 * y.2 * k := by rw [← a1]; grind
  have e2 : y.1 * b = y.1 * r.2 * k := by rw [← a2]; grind
  rw [e1, e2]
  exact (Int.mul_lt_mul_right g).symm
/-! ### the position among sorted numbers -/
def Srt (xs : List Q2) : Prop := xs.Pairwise lt2 ∧ ∀ x ∈ xs, ok2 x
def rk (x : Q2) (xs : List Q2) : Nat := (xs.filter fun y => decide (lt2 y x)).length
def pos2 (x : Q2) (xs : List Q2) : Nat := if rk x xs < xs.length ∧ ¬ lt2 x (xs.getD (rk x xs) (0, 1)) then 2 * rk x xs + 1 else 2 * rk x xs
theorem rk_le (x : Q2) (xs : List Q2) : rk x xs ≤ xs.length := List.length_filter_le _ _
theorem rk_cut {x : Q2} : ∀ {xs : List Q2} {i : Nat}, i ≤ xs.length → (∀ j (h : j < xs.length), j < i → lt2 xs[j] x) → (∀ j (h : j < xs.length), i ≤ j → ¬ lt2 xs[j] x) → rk x xs = i
  | [], i, h, _, _ => by
    have e : i = 0 := Nat.le_zero.mp h
    subst e
    rfl
  | y :: r, 0, _, _, h2 => by
    have e : ¬ lt2 y x := h2 0 (Nat.zero_lt_succ _) (Nat.le_refl _)
    have ih := rk_cut (x := x) (xs := r) (i := 0) (Nat.zero_le _) (fun j _ q => absurd q (Nat.not_lt_zero _)) fun j hj _ => h2 (j + 1) (Nat.succ_lt_succ hj) (Nat.zero_le _)
    unfold rk at *
    rw [List.filter_cons_of_neg (by simpa using e)]
    exact ih
  | y :: r, i + 1, h, h1, h2 => by
    have e : lt2 y x := h1 0 (Nat.zero_lt_succ _) (Nat.zero_lt_succ _)
    have ih := rk_cut (x := x) (xs := r) (i := i) (Nat.le_of_succ_le_succ h) (fun j hj q => h1 (j + 1) (Nat.succ_lt_succ hj) (Nat.succ_lt_succ q)) fun j hj q => h2 (j + 1) (Nat.succ_lt_succ hj) (Nat.succ_le_succ q)
    unfold rk at *
    rw [List.filter_cons_of_pos (by simpa using e), List.length_cons, ih]
theorem Srt.lt {xs : List Q2} (s : Srt xs) {i j : Nat} (hi : i < xs.length) (hj : j < xs.length) (h : i < j) : lt2 xs[i] xs[j] := List.pairwise_iff_getElem.mp s.1 i j hi hj h
theorem Srt.ok {xs : List Q2} (s : Srt xs) {i : Nat} (hi : i < xs.length) : ok2 xs[i] := s.2 _ (List.getElem_mem hi)
/-- a sorted list falls in two parts -/
theorem Srt.cut {xs : List Q2} (s : Srt xs) {x : Q2} (hx : 0 < x.2) : ∃ i, i ≤ xs.length ∧ (∀ j (h : j < xs.length), j < i → lt2 xs[j] x) ∧ (∀ j (h : j < xs.length), i ≤ j → ¬ lt2 xs[j] x) := by
  induction xs with
  | nil => exact ⟨0, Nat.le_refl _, fun j h => absurd h (Nat.not_lt_zero _), fun j h => absurd h (Nat.not_lt_zero _)⟩
  | cons y r ih =>
    obtain ⟨i, h0, h1, h2⟩ := ih ⟨(List.pairwise_cons.mp s.1).2, fun z hz => s.2 z (List.mem_cons_of_mem _ hz)⟩
    by_cases e : lt2 y x
    · refine ⟨i + 1, Nat.succ_le_succ h0, fun j h q => ?_, fun j h q => ?_⟩
      · cases j with
        | zero => exact e
        | succ j => exact h1 j (Nat.lt_of_succ_lt_succ h) (Nat.lt_of_succ_lt_succ q)
      · cases j with
        | zero => exact absurd q (Nat.not_succ_le_zero _)
        | succ j => exact h2 j (Nat.lt_of_succ_lt_succ h) (Nat.le_of_succ_le_succ q)
    · refine ⟨0, Nat.zero_le _, fun j h q => absurd q (Nat.not_lt_zero _), fun j h _ => ?_⟩
      cases j with
      | zero => exact e
      | succ j =>
        intro q
        have hj : j < r.length := Nat.lt_of_succ_lt_succ h
        have a : lt2 y r[j] := (List.pairwise_cons.mp s.1).1 _ (List.getElem_mem hj)
        exact e (lt2_trans (s.2 y List.mem_cons_self).1 (s.2 _ (List.mem_cons_of_mem _ (List.getElem_mem hj))).1 hx a q)
theorem getD_at {xs : List Q2} {i : Nat} (h : i < xs.length) (d : Q2) : xs.getD i d = xs[i] := by
  rw [List.getD_eq_getElem?_getD, List.getElem?_eq_getElem h]
  rfl
/-- a number of the list stands at an odd position, another one at an even one -/
theorem pos2_in {xs : List Q2} (s : Srt xs) {x : Q2} (hx : ok2 x) : pos2 x xs = 2 * rk x xs + (if x ∈ xs then 1 else 0) := by
  obtain ⟨i, h0, h1, h2⟩ := s.cut hx.1
  have e := rk_cut h0 h1 h2
  unfold pos2
  rw [e]
  by_cases hm : x ∈ xs
  · obtain ⟨j, hj, ej⟩ := List.getElem_of_mem hm
    have a : ¬ j < i := fun q => lt2_irr x (by have := h1 j hj q; rw [ej] at this; exact this)
    have b : ¬ i < j := fun q => h2 i (by omega) (Nat.le_refl _) (by have := s.lt (i := i) (j := j) (by omega) hj q; rw [ej] at this; exact this)
    have e2 : i = j := by omega
    subst e2
    rw [if_pos ⟨hj, by rw [getD_at hj, ej]; exact lt2_irr x⟩, if_pos hm]
  · rw [if_neg hm]
    by_cases hi : i < xs.length
    · have c : lt2 x xs[i] := by
        refine Decidable.byContradiction fun q => hm ?_
        have e3 := eq2 hx (s.ok hi) q (h2 i hi (Nat.le_refl _))
        rw [e3]
        exact List.getElem_mem hi
      rw [if_neg (by rw [getD_at hi]; exact fun q => q.2 c)]
      rfl
    · rw [if_neg (fun q => hi q.1)]
      rfl
theorem pos2_odd {xs : List Q2} (s : Srt xs) {i : Nat} (hi : i < xs.length) : pos2 xs[i] xs = 2 * i + 1 := by
  have e : rk xs[i] xs = i := rk_cut (Nat.le_of_lt hi) (fun j h q => s.lt h hi q) fun j h q => by
    by_cases e : i = j
    · subst e
      exact lt2_irr _
    · exact lt2_asymm (s.lt hi h (by omega))
  unfold pos2
  rw [e, if_pos ⟨hi, by rw [getD_at hi]; exact lt2_irr _⟩]
theorem pos2_even {xs : List Q2} (s : Srt xs) {x : Q2} (hx : 0 < x.2) {i : Nat} (hi : i ≤ xs.length) (h1 : ∀ (h : i - 1 < xs.length), 0 < i → lt2 xs[i - 1] x) (h2 : ∀ (h : i < xs.length), lt2 x xs[i]) : pos2 x xs = 2 * i := by
  have e : rk x xs = i := rk_cut hi (fun j h q => by
    have hl : i - 1 < xs.length := by omega
    have a := h1 hl (by omega)
    by_cases e : j = i - 1
    · subst e
      exact a
    · exact lt2_trans (s.ok h).1 (s.ok hl).1 hx (s.lt h hl (by omega)) a) fun j h q => by
    have hl : i < xs.length := by omega
    have a := h2 hl
    by_cases e : i = j
    · subst e
      exact lt2_asymm a
    · exact lt2_asymm (lt2_trans hx (s.ok hl).1 (s.ok h).1 a (s.lt hl h (by omega)))
  unfold pos2
  rw [e]
  by_cases hl : i < xs.length
  · rw [if_neg (by rw [getD_at hl]; exact fun q => q.2 (h2 hl))]
  · rw [if_neg (fun q => hl q.1)]
/-! ### the number for a position -/
def mid2 (a b : Q2) : Q2 := red (a.1 * b.2 + b.1 * a.2) (2 * a.2 * b.2)
def num2 (k : Nat) (xs : List Q2) : Q2 :=
  if k % 2 = 1 then xs.getD (k / 2) (0, 1) else if xs.length = 0 then (0, 1) else if k / 2 = 0 then ((xs.getD 0 (0, 1)).1 - (xs.getD 0 (0, 1)).2, (xs.getD 0 (0, 1)).2)
  else if k / 2 = xs.length then ((xs.getD (xs.length - 1) (0, 1)).1 + (xs.getD (xs.length - 1) (0, 1)).2, (xs.getD (xs.length - 1) (0, 1)).2) else mid2 (xs.getD (k / 2 - 1) (0, 1)) (xs.getD (k / 2) (0, 1))
theorem mid2_pos {a b : Q2} (ha : 0 < a.2) (hb : 0 < b.2) : 0 < 2 * a.2 * b.2 := Int.mul_pos (by omega) hb
theorem mid2_lt {a b : Q2} (ha : 0 < a.2) (hb : 0 < b.2) (h : lt2 a b) : lt2 a (mid2 a b) ∧ lt2 (mid2 a b) b := by
  have p := mid2_pos ha hb
  unfold lt2 at h
  refine ⟨(lt2_red_r p).mpr ?_, (lt2_red_l p).mpr ?_⟩
  · have m : a.1 * b.2 * a.2 < b.1 * a.2 * a.2 := Int.mul_lt_mul_of_pos_right h ha
    have e1 : a.1 * (2 * a.2 * b.2) = a.1 * b.2 * a.2 + a.1 * b.2 * a.2 := by grind
    have e2 : (a.1 * b.2 + b.1 * a.2) * a.2 = a.1 * b.2 * a.2 + b.1 * a.2 * a.2 := by grind
    omega
  · have m : a.1 * b.2 * b.2 < b.1 * a.2 * b.2 := Int.mul_lt_mul_of_pos_right h hb
    have e1 : b.1 * (2 * a.2 * b.2) = b.1 * a.2 * b.2 + b.1 * a.2 * b.2 := by grind
    have e2 : (a.1 * b.2 + b.1 * a.2) * b.2 = a.1 * b.2 * b.2 + b.1 * a.2 * b.2 := by grind
    omega
theorem sub_lt {a : Q2} (ha : 0 < a.2) : lt2 (a.1 - a.2, a.2) a := by
  unfold lt2
  have m : 0 < a.2 * a.2 := Int.mul_pos ha ha
  show (a.1 - a.2) * a.2 < a.1 * a.2
  rw [Int.sub_mul]
  omega
theorem add_lt {a : Q2} (ha : 0 < a.2) : lt2 a (a.1 + a.2, a.2) := by
  unfold lt2
  have m : 0 < a.2 * a.2 := Int.mul_pos ha ha
  show a.1 * a.2 < (a.1 + a.2) * a.2
  rw [Int.add_mul]
  omega
theorem sub_ok {a : Q2} (h : ok2 a) : ok2 (a.1 - a.2, a.2) := ⟨h.1, by
  have e : Int.gcd (a.1 - a.2) a.2 = Int.gcd a.1 a.2 := Int.gcd_sub_self_left _ _
  exact e.trans h.2⟩
theorem add_ok {a : Q2} (h : ok2 a) : ok2 (a.1 + a.2, a.2) := ⟨h.1, by
  have e : Int.gcd (a.1 + a.2) a.2 = Int.gcd a.1 a.2 := Int.gcd_add_self_left _ _
  exact e.trans h.2⟩
theorem num2_pos {xs : List Q2} (s : Srt xs) {k : Nat} (hk : k ≤ 2 * xs.length) : pos2 (num2 k xs) xs = k := by
  unfold num2
  by_cases h1 : k % 2 = 1
  · have hi : k / 2 < xs.length := by omega
    rw [if_pos h1, getD_at hi, pos2_odd s hi]
    omega
  rw [if_neg h1]
  have ek : 2 * (k / 2) = k := by omega
  by_cases h2 : xs.length = 0
  · rw [if_pos h2]
    have e := pos2_even s (x := (0, 1)) (by decide) (i := 0) (Nat.zero_le _) (fun _ q => absurd q (Nat.lt_irrefl _)) fun h => by omega
    omega
  rw [if_neg h2]
  by_cases h3 : k / 2 = 0
  · rw [if_pos h3]
    have h0 : 0 < xs.length := by omega
    rw [getD_at h0]
    have e := pos2_even s (x := (xs[0].1 - xs[0].2, xs[0].2)) (s.ok h0).1 (i := 0) (Nat.zero_le _) (fun _ q => absurd q (Nat.lt_irrefl _)) fun h => sub_lt (s.ok h0).1
    omega
  rw [if_neg h3]
  by_cases h4 : k / 2 = xs.length
  · rw [if_pos h4]
    have h0 : xs.length - 1 < xs.length := by omega
    rw [getD_at h0]
    have e := pos2_even s (x := (xs[xs.length - 1].1 + xs[xs.length - 1].2, xs[xs.length - 1].2)) (s.ok h0).1 (i := xs.length) (Nat.le_refl _) (fun _ _ => add_lt (s.ok h0).1) fun h => by omega
    omega
  rw [if_neg h4]
  have ha : k / 2 - 1 < xs.length := by omega
  have hb : k / 2 < xs.length := by omega
  rw [getD_at ha, getD_at hb]
  have m := mid2_lt (s.ok ha).1 (s.ok hb).1 (s.lt ha hb (by omega))
  have e := pos2_even s (x := mid2 xs[k / 2 - 1] xs[k / 2]) (red_pos (mid2_pos (s.ok ha).1 (s.ok hb).1)) (i := k / 2) (Nat.le_of_lt hb) (fun _ _ => m.1) fun h => m.2
  omega
/-! ### a number put in -/
def with2 (xs : List Q2) (x : Q2) : List Q2 := (xs.filter fun y => decide (lt2 y x)) ++ [x] ++ (xs.filter fun y => decide (lt2 x y))
theorem with2_srt {xs : List Q2} (s : Srt xs) {x : Q2} (hx : ok2 x) : Srt (with2 xs x) := by
  refine ⟨?_, fun y hy => ?_⟩
  · unfold with2
    rw [List.append_assoc]
    refine List.pairwise_append.mpr ⟨s.1.filter _, ?_, fun a ha b hb => ?_⟩
    · refine List.pairwise_append.mpr ⟨List.pairwise_singleton _ _, s.1.filter _, fun a ha b hb => ?_⟩
      rw [List.mem_singleton.mp ha]
      exact of_decide_eq_true (List.mem_filter.mp hb).2
    · have la : lt2 a x := of_decide_eq_true (List.mem_filter.mp ha).2
      rcases List.mem_append.mp hb with hb | hb
      · rw [List.mem_singleton.mp hb]
        exact la
      · exact lt2_trans (s.2 _ (List.mem_filter.mp ha).1).1 hx.1 (s.2 _ (List.mem_filter.mp hb).1).1 la (of_decide_eq_true (List.mem_filter.mp hb).2)
  · unfold with2 at hy
    rcases List.mem_append.mp hy with hy | hy
    · rcases List.mem_append.mp hy with hy | hy
      · exact s.2 _ (List.mem_filter.mp hy).1
      · rw [List.mem_singleton.mp hy]
        exact hx
    · exact s.2 _ (List.mem_filter.mp hy).1
theorem with2_mem {xs : List Q2} {x y : Q2} (hy : y ∈ with2 xs x) : y = x ∨ y ∈ xs := by
  unfold with2 at hy
  rcases List.mem_append.mp hy with hy | hy
  · rcases List.mem_append.mp hy with hy | hy
    · exact .inr (List.mem_filter.mp hy).1
    · exact .inl (List.mem_singleton.mp hy)
  · exact .inr (List.mem_filter.mp hy).1
theorem filter2_le {α : Type} (p q : α → Bool) (h : ∀ a, p a = true → q a = true → False) : ∀ xs : List α, (xs.filter p).length + (xs.filter q).length ≤ xs.length
  | [] => Nat.le_refl _
  | a :: r => by
    have ih := filter2_le p q h r
    rw [List.filter_cons, List.filter_cons]
    have z := h a
    cases hp : p a <;> cases hq : q a <;> simp_all <;> omega
theorem with2_len (xs : List Q2) (x : Q2) : (with2 xs x).length ≤ xs.length + 1 := by
  have h := filter2_le (fun y => decide (lt2 y x)) (fun y => decide (lt2 x y)) (fun a h1 h2 => lt2_asymm (of_decide_eq_true h1) (of_decide_eq_true h2)) xs
  unfold with2
  rw [List.length_append, List.length_append]
  simp only [List.length_singleton]
  omega
/-! ### Euclid -/
/-- left turns suffice -/
def Euc (a b r : Nat) : Prop := ∃ m, (b < 2 ^ m ∧ 2 * m + 1 ≤ r) ∨ (b < a ∧ a < 2 ^ m ∧ 2 * m ≤ r)
theorem Euc.pos {a b r : Nat} (h : Euc a b r) : 0 < r ∨ False := by
  obtain ⟨m, h | h⟩ := h
  · exact .inl (by omega)
  · cases m with
    | zero => omega
    | succ m => exact .inl (by omega)
theorem Euc.next {a b r : Nat} (h : Euc a b (r + 1)) (hb : b ≠ 0) : Euc b (a % b) r := by
  have hm := Nat.mod_lt a (Nat.pos_of_ne_zero hb)
  obtain ⟨m, h | h⟩ := h
  · exact ⟨m, .inr ⟨hm, h.1, by omega⟩⟩
  · cases m with
    | zero => omega
    | succ m =>
      refine ⟨m, .inl ⟨?_, by omega⟩⟩
      have e := Nat.div_add_mod a b
      have q : 1 ≤ a / b := Nat.div_pos (by omega) (Nat.pos_of_ne_zero hb)
      have q2 : b ≤ b * (a / b) := Nat.le_mul_of_pos_right _ q
      have p : 2 ^ (m + 1) = 2 * 2 ^ m := by rw [Nat.pow_succ, Nat.mul_comm]
      omega
theorem Euc.start {a b k r : Nat} (h : b < 2 ^ k) (hr : 2 * k + 1 ≤ r) : Euc a b r := ⟨k, .inl ⟨h, hr⟩⟩
end My

namespace My
open PySem PySem.Spec PyProof.Rows L2
/-! ### the text -/
def topS (i : Nat) : Stmt := PySem.Challenge.pw_keeproom_k02_positions_and_numbers_for_t.main.body.getD i (.Pass ⟨0, 0, 0, 0⟩)
abbrev s_law_common : Stmt := topS 11
theorem sc_law_common : FnScope ["one", "other", "k", "rest"] ["one", "other"] (defScope s_law_common) := ⟨rfl, rfl, rfl, by decide +kernel, rfl, by decide +kernel, by decide +kernel⟩
abbrev s_law_pair : Stmt := topS 12
theorem sc_law_pair : FnScope ["top", "bottom", "common"] ["top", "bottom"] (defScope s_law_pair) := ⟨rfl, rfl, rfl, by decide +kernel, rfl, by decide +kernel, by decide +kernel⟩
abbrev s_law_draw : Stmt := topS 8
theorem sc_law_draw : FnScope ["tape", "at", "many", "number"] ["tape", "at", "many"] (defScope s_law_draw) := ⟨rfl, rfl, rfl, by decide +kernel, rfl, by decide +kernel, by decide +kernel⟩
abbrev s_law_take : Stmt := topS 10
theorem sc_law_take : FnScope ["state", "many"] ["state", "many"] (defScope s_law_take) := ⟨rfl, rfl, rfl, by decide +kernel, rfl, by decide +kernel, by decide +kernel⟩
abbrev s_law_number : Stmt := topS 13
theorem sc_law_number : FnScope ["state"] ["state"] (defScope s_law_number) := ⟨rfl, rfl, rfl, by decide +kernel, rfl, by decide +kernel, by decide +kernel⟩
abbrev s_law_tape : Stmt := topS 7
theorem sc_law_tape : FnScope ["script", "tape", "cell", "number", "k", "first"] ["script"] (defScope s_law_tape) := ⟨rfl, rfl, rfl, by decide +kernel, rfl, by decide +kernel, by decide +kernel⟩
abbrev s_law_less : Stmt := topS 14
theorem sc_law_less : FnScope ["one", "other"] ["one", "other"] (defScope s_law_less) := ⟨rfl, rfl, rfl, by decide +kernel, rfl, by decide +kernel, by decide +kernel⟩
abbrev s_law_with : Stmt := topS 15
theorem sc_law_with : FnScope ["among", "number", "lower", "higher", "one"] ["among", "number"] (defScope s_law_with) := ⟨rfl, rfl, rfl, by decide +kernel, rfl, by decide +kernel, by decide +kernel⟩
abbrev s_less : Stmt := topS 2
theorem sc_less : FnScope ["a", "b"] ["a", "b"] (defScope s_less) := ⟨rfl, rfl, rfl, by decide +kernel, rfl, by decide +kernel, by decide +kernel⟩
abbrev s_position : Stmt := topS 3
theorem sc_position : FnScope ["number", "among", "rank", "end", "middle"] ["number", "among"] (defScope s_position) := ⟨rfl, rfl, rfl, by decide +kernel, rfl, by decide +kernel, by decide +kernel⟩
abbrev s_middle : Stmt := topS 5
theorem sc_middle : FnScope ["a", "b", "top", "bottom", "common"] ["a", "b"] (defScope s_middle) := ⟨rfl, rfl, rfl, by decide +kernel, rfl, by decide +kernel, by decide +kernel⟩
abbrev s_number_for : Stmt := topS 4
theorem sc_number_for : FnScope ["position", "among", "rank", "top", "bottom"] ["position", "among"] (defScope s_number_for) := ⟨rfl, rfl, rfl, by decide +kernel, rfl, by decide +kernel, by decide +kernel⟩
abbrev s_law_equal : Stmt := topS 9
theorem sc_law_equal : FnScope ["actual", "due", "k"] ["actual", "due"] (defScope s_law_equal) := ⟨rfl, rfl, rfl, by decide +kernel, rfl, by decide +kernel, by decide +kernel⟩
abbrev s_law_place : Stmt := topS 17
theorem sc_law_place : FnScope ["number", "among", "lower", "one"] ["number", "among"] (defScope s_law_place) := ⟨rfl, rfl, rfl, by decide +kernel, rfl, by decide +kernel, by decide +kernel⟩
abbrev s_law_due : Stmt := topS 16
theorem sc_law_due : FnScope ["place", "among", "top", "bottom", "high"] ["place", "among"] (defScope s_law_due) := ⟨rfl, rfl, rfl, by decide +kernel, rfl, by decide +kernel, by decide +kernel⟩
abbrev s_law : Stmt := topS 18
theorem sc_law : FnScope ["script", "state", "among", "k", "one", "other", "pair", "number", "place"] ["script"] (defScope s_law) := ⟨rfl, rfl, rfl, by decide +kernel, rfl, by decide +kernel, by decide +kernel⟩
structure Top (K : PySem.W.Frag) (mg : Str → Option Value) (w : World) : Type where
  a_law_common : Addr
  d_law_common : FuncData
  F_law_common : Fun K "_law_common" "_law_common" s_law_common a_law_common d_law_common
  b_law_common : Binds K d_law_common ["one", "other"] []
  m_law_common : mg "_law_common" = some (.ref a_law_common)
  a_law_pair : Addr
  d_law_pair : FuncData
  F_law_pair : Fun K "_law_pair" "_law_pair" s_law_pair a_law_pair d_law_pair
  b_law_pair : Binds K d_law_pair ["top", "bottom"] []
  m_law_pair : mg "_law_pair" = some (.ref a_law_pair)
  a_law_draw : Addr
  d_law_draw : FuncData
  F_law_draw : Fun K "_law_draw" "_law_draw" s_law_draw a_law_draw d_law_draw
  b_law_draw : Binds K d_law_draw ["tape", "at", "many"] []
  m_law_draw : mg "_law_draw" = some (.ref a_law_draw)
  a_law_take : Addr
  d_law_take : FuncData
  F_law_take : Fun K "_law_take" "_law_take" s_law_take a_law_take d_law_take
  b_law_take : Binds K d_law_take ["state", "many"] []
  m_law_take : mg "_law_take" = some (.ref a_law_take)
  a_law_number : Addr
  d_law_number : FuncData
  F_law_number : Fun K "_law_number" "_law_number" s_law_number a_law_number d_law_number
  b_law_number : Binds K d_law_number ["state"] []
  m_law_number : mg "_law_number" = some (.ref a_law_number)
  a_law_tape : Addr
  d_law_tape : FuncData
  F_law_tape : Fun K "_law_tape" "_law_tape" s_law_tape a_law_tape d_law_tape
  b_law_tape : Binds K d_law_tape ["script"] []
  m_law_tape : mg "_law_tape" = some (.ref a_law_tape)
  a_law_less : Addr
  d_law_less : FuncData
  F_law_less : Fun K "_law_less" "_law_less" s_law_less a_law_less d_law_less
  b_law_less : Binds K d_law_less ["one", "other"] []
  m_law_less : mg "_law_less" = some (.ref a_law_less)
  a_law_with : Addr
  d_law_with : FuncData
  F_law_with : Fun K "_law_with" "_law_with" s_law_with a_law_with d_law_with
  b_law_with : Binds K d_law_with ["among", "number"] []
  m_law_with : mg "_law_with" = some (.ref a_law_with)
  a_less : Addr
  d_less : FuncData
  F_less : Fun K "less" "less" s_less a_less d_less
  b_less : Binds K d_less ["a", "b"] []
  m_less : mg "less" = some (.ref a_less)
  a_position : Addr
  d_position : FuncData
  F_position : Fun K "position" "position" s_position a_position d_position
  b_position : Binds K d_position ["number", "among"] []
  m_position : mg "position" = some (.ref a_position)
  a_middle : Addr
  d_middle : FuncData
  F_middle : Fun K "_middle" "_middle" s_middle a_middle d_middle
  b_middle : Binds K d_middle ["a", "b"] []
  m_middle : mg "_middle" = some (.ref a_middle)
  a_number_for : Addr
  d_number_for : FuncData
  F_number_for : Fun K "number_for" "number_for" s_number_for a_number_for d_number_for
  b_number_for : Binds K d_number_for ["position", "among"] []
  m_number_for : mg "number_for" = some (.ref a_number_for)
  a_law_equal : Addr
  d_law_equal : FuncData
  F_law_equal : Fun K "_law_equal" "_law_equal" s_law_equal a_law_equal d_law_equal
  b_law_equal : Binds K d_law_equal ["actual", "due"] []
  m_law_equal : mg "_law_equal" = some (.ref a_law_equal)
  a_law_place : Addr
  d_law_place : FuncData
  F_law_place : Fun K "_law_place" "_law_place" s_law_place a_law_place d_law_place
  b_law_place : Binds K d_law_place ["number", "among"] []
  m_law_place : mg "_law_place" = some (.ref a_law_place)
  a_law_due : Addr
  d_law_due : FuncData
  F_law_due : Fun K "_law_due" "_law_due" s_law_due a_law_due d_law_due
  b_law_due : Binds K d_law_due ["place", "among"] []
  m_law_due : mg "_law_due" = some (.ref a_law_due)
  a_law : Addr
  d_law : FuncData
  F_law : Fun K "law" "law" s_law a_law d_law
  b_law : Binds K d_law ["script"] []
  m_law : mg "law" = some (.ref a_law)
  z_abs : mg "abs" = none
  z_bool : mg "bool" = none
  z_gcd : mg "gcd" = some (.builtin "math.gcd")
  z_int : mg "int" = none
  z_isinstance : mg "isinstance" = none
  z_len : mg "len" = none
  z_list : mg "list" = none
  z_range : mg "range" = none
  z_str : mg "str" = none
  z_tuple : mg "tuple" = none

/-! ### heaps -/
theorem same_upd {H : Hp} {p : Addr} {o : HO} (h : H p = none) : Same H (upd H p o) := fun b x e => by
  rw [upd_ne (ne_of_none e h)]
  exact e
theorem same_upd2 {H H' : Hp} {p : Addr} {o : HO} (h : H p = none) (s : Same H H') : Same H (upd H' p o) := fun b x e => by
  rw [upd_ne (ne_of_none e h)]
  exact s _ _ e
theorem small {n : Nat} (h : n ≤ 100000) : n ≤ sizeLine := Nat.le_trans h (by decide)
theorem smallL {n : Nat} (h : n < 100000) : n < sizeLine := Nat.lt_of_lt_of_le h (by decide)
theorem ite_dec {c : Prop} [Decidable c] {A B : Prop} (h1 : c → A) (h2 : ¬ c → B) : if decide c = true then A else B := by
  by_cases h : c
  · rw [if_pos (decide_eq_true h)]; exact h1 h
  · rw [if_neg (fun q => h (of_decide_eq_true q))]; exact h2 h
theorem ifT {c : Bool} {A B : Prop} (h : A) (e : c = true := by rfl) : if c = true then A else B := by
  rw [e]
  exact iteT h
theorem ifF {c : Bool} {A B : Prop} (h : B) (e : c = false := by rfl) : if c = true then A else B := by
  rw [e]
  exact iteF h
theorem ite_b {b : Bool} {A B : Prop} (h1 : b = true → A) (h2 : b = false → B) : if b = true then A else B := by
  cases b
  · exact iteF (h2 rfl)
  · exact iteT (h1 rfl)
theorem ite_nb {b : Bool} {A B : Prop} (h1 : b = false → A) (h2 : b = true → B) : if (!b) = true then A else B := by
  cases b
  · exact iteT (h1 rfl)
  · exact iteF (h2 rfl)

theorem bnd_app {ts : List Int} {lo hi : Int} {v : Int} (h : ∀ t ∈ ts, lo ≤ t ∧ t < hi) (hv : lo ≤ v ∧ v < hi) : ∀ t ∈ ts ++ [v], lo ≤ t ∧ t < hi := fun t ht => by
  rcases List.mem_append.mp ht with h1 | h1
  · exact h t h1
  · rw [List.mem_singleton.mp h1]; exact hv
/-! ### heaps that are alike but for the list at st -/
def SX (st : Addr) (H H' : Hp) : Prop := (∀ b o, H b = some o → (b = st → ∀ xs, o ≠ .lst xs) → H' b = some o) ∧ ∀ tp v, H st = some (.lst [.ref tp, v]) → ∃ v', H' st = some (.lst [.ref tp, v'])
theorem SX.refl (st : Addr) (H : Hp) : SX st H H := ⟨fun _ _ h _ => h, fun _ v h => ⟨v, h⟩⟩
theorem SX.trans {st : Addr} {H H1 H2 : Hp} (a : SX st H H1) (b : SX st H1 H2) : SX st H H2 := ⟨fun c o h k => b.1 c o (a.1 c o h k) k, fun tp v h => by
  obtain ⟨v1, h1⟩ := a.2 tp v h
  exact b.2 tp v1 h1⟩
theorem SX.same {st : Addr} {H H' : Hp} (a : Same H H') : SX st H H' := ⟨fun b o h _ => a b o h, fun _ v h => ⟨v, a _ _ h⟩⟩
theorem SX.new {st : Addr} {H : Hp} {p : Addr} {o : HO} (h : H p = none) : SX st H (upd H p o) := .same (same_upd h)
theorem SX.new2 {st : Addr} {H H' : Hp} {p : Addr} {o : HO} (h : H p = none) (a : SX st H H') : SX st H (upd H' p o) := ⟨fun b u e k => by
  rw [upd_ne (ne_of_none e h)]
  exact a.1 b u e k, fun tp v e => by
  rw [upd_ne (ne_of_none e h)]
  exact a.2 tp v e⟩
theorem SX.at {st : Addr} {H : Hp} {tp : Addr} {v v' : V} (h : H st = some (.lst [.ref tp, v])) : SX st H (upd H st (.lst [.ref tp, v'])) := ⟨fun b u e k => by
  by_cases hb : b = st
  · subst hb
    rw [h] at e
    cases e
    exact absurd rfl (k rfl _)
  · rw [upd_ne hb]
    exact e, fun t u e => by
  rw [h] at e
  cases e
  exact ⟨v', upd_same⟩⟩
theorem SX.seqT {K : PySem.W.Frag} {st : Addr} {H H' : Hp} {a : Addr} {xs : List V} (e : SX st H H') (h : SqT K H a xs) : SqT K H' a xs := by
  rcases h with (h | ⟨o, h⟩) | h
  · exact .inl (.inl (e.1 _ _ h fun _ _ q => by cases q))
  · exact .inl (.inr ⟨o, e.1 _ _ h fun _ _ q => by cases q⟩)
  · exact .inr h
theorem SX.lst {st : Addr} {H H' : Hp} {a : Addr} {xs : List V} (e : SX st H H') (ha : a ≠ st) (h : H a = some (.lst xs)) : H' a = some (.lst xs) := e.1 _ _ h fun q => absurd q ha
/-- the law's tape and its place -/
def TapeOk (ts : List Int) : Prop := ts.length ≤ 2520 ∧ ∀ t ∈ ts, 0 ≤ t ∧ t < 2147483629
structure St (H : Hp) (st : Addr) (n : Nat) : Prop where
  ex : ∃ (tp : Addr) (ts : List Int), H st = some (.lst [.ref tp, .int (n : Int)]) ∧ tp ≠ st ∧ H tp = some (.lst (ts.map V.int)) ∧ TapeOk ts
theorem St.same {H H' : Hp} {st : Addr} {n : Nat} (h : St H st n) (e : Same H H') : St H' st n := by
  obtain ⟨tp, ts, h1, h2, h3, h4⟩ := h.ex
  exact ⟨tp, ts, e _ _ h1, h2, e _ _ h3, h4⟩
theorem St.new {H : Hp} {st : Addr} {n : Nat} {p : Addr} {o : HO} (h : St H st n) (hp : H p = none) : St (upd H p o) st n := h.same (same_upd hp)
theorem St.upd {H1 H2 : Hp} {st D : Addr} {n n2 : Nat} {o : HO} (s1 : St H1 st n) (hD : H1 D = none) (x : SX st H1 H2) (s2 : St H2 st n2) : St (upd H2 D o) st n2 := by
  obtain ⟨tp, ts, h1, h2, h3, h4⟩ := s1.ex
  obtain ⟨tp2, ts2, k1, k2, k3, k4⟩ := s2.ex
  obtain ⟨v, e⟩ := x.2 _ _ h1
  have k1' := k1
  rw [e] at k1
  have et : tp = tp2 := by
    injection k1 with k1
    injection k1 with k1
    injection k1 with k1 _
    injection k1
  subst et
  exact ⟨tp, ts2, by rw [upd_ne (fun z => by rw [z, hD] at h1; cases h1)]; exact k1', k2, by rw [upd_ne (fun z => by rw [z, hD] at h3; cases h3)]; exact k3, k4⟩
theorem St.isL {H : Hp} {st : Addr} {n : Nat} (h : St H st n) : ∃ xs, H st = some (.lst xs) := by
  obtain ⟨tp, ts, h1, _⟩ := h.ex
  exact ⟨_, h1⟩
/-! ### data -/
/-- at most n deep, no dicts, bounded widths -/
def Sh : Nat → PyData → Prop
  | _, .none => True
  | _, .bool _ => True
  | _, .int _ => True
  | _, .str _ => True
  | 0, _ => False
  | n + 1, .list xs => xs.length ≤ 1000000 ∧ ∀ x ∈ xs, Sh n x
  | n + 1, .tuple xs => xs.length ≤ 1000000 ∧ ∀ x ∈ xs, Sh n x
  | _, .dict _ => False
def tyN : PyData → String
  | .none => "NoneType"
  | .bool _ => "bool"
  | .int _ => "int"
  | .str _ => "str"
  | .list _ => "list"
  | .tuple _ => "tuple"
  | .dict _ => "dict"
theorem Dp.ty {K : PySem.W.Frag} {H : Hp} {x : V} {d : PyData} (h : Dp K H x d) : TyX K H x (.type (tyN d)) := by
  cases h with
  | non => exact .base .non
  | bl b => exact .base (.bl b)
  | int b => exact .base (.int b)
  | str b => exact .base (.str b)
  | lst h _ =>
    rcases h with (h | ⟨o, h⟩) | ⟨o, its, n, h1, h2, _⟩
    · exact .base (.lst h)
    · exact .base (.frz h)
    · exact .kList h1 h2
  | tup h _ =>
    rcases h with (h | ⟨o, h⟩) | ⟨o, its, n, h1, h2, _⟩
    · exact .base (.tup h)
    · exact .fTuple h
    · exact .kTuple h1 h2
theorem DpAll.len {K : PySem.W.Frag} {H : Hp} : ∀ {xs : List V} {ds : List PyData}, DpAll K H xs ds → xs.length = ds.length
  | _, _, .nil => rfl
  | _, _, .cons _ t => congrArg (· + 1) (DpAll.len t)
theorem DpAll.at {K : PySem.W.Frag} {H : Hp} : ∀ {xs : List V} {ds : List PyData} {i : Nat} {d : PyData}, DpAll K H xs ds → ds[i]? = some d → ∃ x, xs[i]? = some x ∧ Dp K H x d
  | _, _, _, _, .nil, e => by simp at e
  | _, _, 0, _, .cons h _, e => by simp at e; subst e; exact ⟨_, rfl, h⟩
  | _, _, i + 1, d, .cons _ t, e => by
    obtain ⟨u, h1, h2⟩ := DpAll.at (i := i) (d := d) t (by simpa using e)
    exact ⟨u, by simpa using h1, h2⟩
mutual
theorem Dp.sx {K : PySem.W.Frag} {H H' : Hp} (e : ∀ a xs, SqT K H a xs → SqT K H' a xs) (el : ∀ a xs, SqL K H a xs → SqL K H' a xs) : ∀ {d : PyData} {x : V}, Dp K H x d → Dp K H' x d
  | _, _, .non => .non
  | _, _, .bl b => .bl b
  | _, _, .int b => .int b
  | _, _, .str b => .str b
  | _, _, .lst h t => .lst (el _ _ h) (DpAll.sx e el t)
  | _, _, .tup h t => .tup (e _ _ h) (DpAll.sx e el t)
theorem DpAll.sx {K : PySem.W.Frag} {H H' : Hp} (e : ∀ a xs, SqT K H a xs → SqT K H' a xs) (el : ∀ a xs, SqL K H a xs → SqL K H' a xs) : ∀ {ds : List PyData} {xs : List V}, DpAll K H xs ds → DpAll K H' xs ds
  | _, _, .nil => .nil
  | _, _, .cons h t => .cons (Dp.sx e el h) (DpAll.sx e el t)
end
theorem Same.sqT {K : PySem.W.Frag} {H H' : Hp} {a : Addr} {xs : List V} (e : Same H H') (h : SqT K H a xs) : SqT K H' a xs := by
  rcases h with (h | ⟨o, h⟩) | h
  · exact .inl (.inl (e _ _ h))
  · exact .inl (.inr ⟨o, e _ _ h⟩)
  · exact .inr h
theorem Dp.same {K : PySem.W.Frag} {H H' : Hp} {d : PyData} {x : V} (e : Same H H') (h : Dp K H x d) : Dp K H' x d := Dp.sx (fun _ _ h => Same.sqT e h) (fun _ _ h => e.seq h) h
theorem smallIn {K : PySem.W.Frag} {H : Hp} {a : Addr} {xs : List V} (n : Nat) (hl : xs.length ≤ n) (hn : n < 100000) : xs.length < sizeLine := smallL (by omega)

section
variable {P : Program} {w : World} {K : PySem.W.Frag} {mg : Str → Option Value} {base : Heap}
/-! ### _law_tape: a new list of ints -/
def sp_law_tape (K : PySem.W.Frag) : Sp := fun vs H Q _ => ∃ (a : Addr) (ns : List Int), vs = [.ref a] ∧ SqL K H a (ns.map V.int) ∧ ns.length ≤ 63 ∧
  ∀ H' p (ts : List Int), Same H H' → H p = none → H' p = some (.lst (ts.map V.int)) → (∀ t ∈ ts, 0 ≤ t ∧ t < 2147483629) → ts.length ≤ 2520 → Q (.ref p) H'
theorem ok_law_tape (T : Top K mg w) : FnOk P w K mg base CX0 1 T.a_law_tape T.d_law_tape ["script"] (sp_law_tape K) := by
  refine T.F_law_tape.ok sc_law_tape (fun vs H Q E h => ?_) (fun cdv A outer s H vs Q E hr h => ?_)
  · obtain ⟨a, ns, rfl, _⟩ := h
    rfl
  obtain ⟨a, ns, rfl, hS, h63, q⟩ := h
  refine ⟨_, (pss_cons (ps_set (i := 1) sc_law_tape.nd rfl (Or.inl rfl) (pe_lst pa_nil))
      (pss_cons (ps_for PassesOwn.never rfl (pi_list (pv 0)) (pg_name (i := 2) sc_law_tape.nd rfl (Or.inl rfl))
        (pss_cons (ps_set (i := 3) sc_law_tape.nd rfl (Or.inl rfl) (pe_op op_mul pe_int (pe_callTy call_int1 (by rfl) T.z_int (by decide +kernel) (pa_cons (pv 2) pa_nil))))
      (pss_cons (ps_if (pt_cmpR op_lt (pv 3) pe_int (nomark _))
        (pss_one (ps_set (i := 3) sc_law_tape.nd rfl (Or.inl rfl) (pe_op op_sub (pe_un un_neg pe_int) (pv 3))))
        pss_nil)
      (pss_one (ps_if (pt_cmpR op_ge (pv 3) (pe_op op_pow pe_int pe_int) (nomark _))
        (pss_one (ps_for PassesOwn.never rfl (pi_range1 (by rfl) T.z_range (pa_cons pe_int pa_nil)) (pg_name (i := 4) sc_law_tape.nd rfl (Or.inl rfl))
        (pss_one (ps_if (pt_cmpR op_gt (pv 3) pe_int (nomark _))
        (pss_cons (ps_expr (pe_bm PySem.F.plainAttrs_list PySem.F.slot_list_append PySem.F.type_list_append mt_append (pv 1) (pa_cons (pe_op op_mod (pe_callTy call_int1 (by rfl) T.z_int (by decide +kernel) (pa_cons (pv 3) pa_nil)) pe_int) pa_nil)))
      (pss_one (ps_set (i := 3) sc_law_tape.nd rfl (Or.inl rfl) (pe_op op_fdiv (pv 3) pe_int))))
        pss_nil))))
        (pss_one (ps_for PassesOwn.never rfl (pi_range1 (by rfl) T.z_range (pa_cons pe_int pa_nil)) (pg_name (i := 4) sc_law_tape.nd rfl (Or.inl rfl))
        (pss_cons (ps_set (i := 5) sc_law_tape.nd rfl (Or.inl rfl) (pe_op op_mod (pe_callTy call_int1 (by rfl) T.z_int (by decide +kernel) (pa_cons (pe_op op_add (pe_op op_add (pe_op op_mul (pv 3) pe_int) (pe_op op_mul (pv 4) pe_int)) pe_int) pa_nil)) pe_int))
      (pss_one (ps_expr (pe_bm PySem.F.plainAttrs_list PySem.F.slot_list_append PySem.F.type_list_append mt_append (pv 1) (pa_cons (pe_op op_mod (pe_callTy call_int1 (by rfl) T.z_int (by decide +kernel) (pa_cons (pe_op op_add (pe_op op_mul (pv 5) pe_int) (pe_op op_fdiv (pv 5) pe_int)) pa_nil)) pe_int) pa_nil))))))))))))
      (pss_one (ps_ret (pv 1))))), ?_⟩
  refine ⟨Nat.zero_le _, fun p hp => ?_⟩
  have sm : ∀ o, Same H (upd H p o) := fun o => same_upd hp
  refine ⟨_, rfl, a, rfl, ⟨_, (sm _).seq hS⟩, for_list (xs := ns.map V.int) (fun i σ H' => ∃ (y2 y3 y4 y5 : Option V) (ts : List Int), σ = [some (.ref a), some (.ref p), y2, y3, y4, y5] ∧ H' = upd H p (.lst (ts.map V.int)) ∧ (∀ t ∈ ts, 0 ≤ t ∧ t < 2147483629) ∧ ts.length ≤ 40 * i) ?_ ?_ ?_ ?_⟩
  · exact ⟨none, none, none, none, [], rfl, rfl, (fun _ h => by cases h), by decide⟩
  · rintro i σ H' _ ⟨y2, y3, y4, y5, ts, rfl, rfl, _⟩
    exact (sm _).seq hS
  · rintro i x σ H' hx ⟨y2, y3, y4, y5, ts, rfl, rfl, hb, hl⟩
    have hi : i < 63 := by
      have h1 := (List.getElem?_eq_some_iff.mp hx).1
      rw [List.length_map] at h1
      omega
    obtain ⟨n, rfl⟩ : ∃ n, x = .int n := by
      rw [List.getElem?_map] at hx
      cases e : ns[i]? with
      | none => rw [e] at hx; cases hx
      | some n => rw [e] at hx; exact ⟨n, (Option.some.inj hx).symm⟩
    (repeat (first
      | refine ⟨_, rfl, ?_⟩
      | refine ⟨_, _, rfl, rfl, ?_⟩
      | refine Or.inl ⟨_, rfl, ?_⟩
      | refine Or.inr ⟨_, rfl, ?_⟩
      | refine ⟨Or.inl ⟨by decide, by decide⟩, ?_⟩
      | refine ⟨Or.inr ⟨by decide, by decide⟩, ?_⟩
      | refine ⟨⟨by decide, by decide⟩, ?_⟩
      | refine ⟨⟨by decide, by decide, by decide⟩, ?_⟩
      | refine ⟨by decide, ?_⟩
      | refine ⟨(by show (0 : Int) < _; decide), ?_⟩
      | refine ⟨rfl, ?_⟩
      | refine ⟨⟨_, rfl⟩, ?_⟩
      | refine ⟨_, rfl, rfl, trivial, ?_⟩
      | refine ⟨_, _, rfl, ?_⟩))
    refine ite_dec (fun c => ?_) (fun c => ?_)
    all_goals
      (repeat (first
      | refine ⟨_, rfl, ?_⟩
      | refine ⟨_, _, rfl, rfl, ?_⟩
      | refine Or.inl ⟨_, rfl, ?_⟩
      | refine Or.inr ⟨_, rfl, ?_⟩
      | refine ⟨Or.inl ⟨by decide, by decide⟩, ?_⟩
      | refine ⟨Or.inr ⟨by decide, by decide⟩, ?_⟩
      | refine ⟨⟨by decide, by decide⟩, ?_⟩
      | refine ⟨⟨by decide, by decide, by decide⟩, ?_⟩
      | refine ⟨by decide, ?_⟩
      | refine ⟨(by show (0 : Int) < _; decide), ?_⟩
      | refine ⟨rfl, ?_⟩
      | refine ⟨⟨_, rfl⟩, ?_⟩
      | refine ⟨_, rfl, rfl, trivial, ?_⟩
      | refine ⟨_, _, rfl, ?_⟩))
      refine ite_dec (fun c => ?_) (fun c => ?_)
      · (repeat (first
      | refine ⟨_, rfl, ?_⟩
      | refine ⟨_, _, rfl, rfl, ?_⟩
      | refine Or.inl ⟨_, rfl, ?_⟩
      | refine Or.inr ⟨_, rfl, ?_⟩
      | refine ⟨Or.inl ⟨by decide, by decide⟩, ?_⟩
      | refine ⟨Or.inr ⟨by decide, by decide⟩, ?_⟩
      | refine ⟨⟨by decide, by decide⟩, ?_⟩
      | refine ⟨⟨by decide, by decide, by decide⟩, ?_⟩
      | refine ⟨by decide, ?_⟩
      | refine ⟨(by show (0 : Int) < _; decide), ?_⟩
      | refine ⟨rfl, ?_⟩
      | refine ⟨⟨_, rfl⟩, ?_⟩
      | refine ⟨_, rfl, rfl, trivial, ?_⟩
      | refine ⟨_, _, rfl, ?_⟩))
        refine for_range (lo := 0) (n := 40) (fun j σ H' => ∃ (y2 y4 y5 : Option V) (m : Int) (ts : List Int), σ = [some (.ref a), some (.ref p), y2, some (.int m), y4, y5] ∧ H' = upd H p (.lst (ts.map V.int)) ∧ (∀ t ∈ ts, 0 ≤ t ∧ t < 2147483629) ∧ ts.length ≤ 40 * i + j) ?_ ?_ ?_
        · exact ⟨_, _, _, _, ts, rfl, rfl, hb, by omega⟩
        · rintro j σ H' hj ⟨y2, y4, y5, m, ts, rfl, rfl, hb, hl⟩
          (repeat (first
      | refine ⟨_, rfl, ?_⟩
      | refine ⟨_, _, rfl, rfl, ?_⟩
      | refine Or.inl ⟨_, rfl, ?_⟩
      | refine Or.inr ⟨_, rfl, ?_⟩
      | refine ⟨Or.inl ⟨by decide, by decide⟩, ?_⟩
      | refine ⟨Or.inr ⟨by decide, by decide⟩, ?_⟩
      | refine ⟨⟨by decide, by decide⟩, ?_⟩
      | refine ⟨⟨by decide, by decide, by decide⟩, ?_⟩
      | refine ⟨by decide, ?_⟩
      | refine ⟨(by show (0 : Int) < _; decide), ?_⟩
      | refine ⟨rfl, ?_⟩
      | refine ⟨⟨_, rfl⟩, ?_⟩
      | refine ⟨_, rfl, rfl, trivial, ?_⟩
      | refine ⟨_, _, rfl, ?_⟩))
          refine ite_dec (fun c => ?_) (fun c => ?_)
          · (repeat (first
      | refine ⟨_, rfl, ?_⟩
      | refine ⟨_, _, rfl, rfl, ?_⟩
      | refine Or.inl ⟨_, rfl, ?_⟩
      | refine Or.inr ⟨_, rfl, ?_⟩
      | refine ⟨Or.inl ⟨by decide, by decide⟩, ?_⟩
      | refine ⟨Or.inr ⟨by decide, by decide⟩, ?_⟩
      | refine ⟨⟨by decide, by decide⟩, ?_⟩
      | refine ⟨⟨by decide, by decide, by decide⟩, ?_⟩
      | refine ⟨by decide, ?_⟩
      | refine ⟨(by show (0 : Int) < _; decide), ?_⟩
      | refine ⟨rfl, ?_⟩
      | refine ⟨⟨_, rfl⟩, ?_⟩
      | refine ⟨_, rfl, rfl, trivial, ?_⟩
      | refine ⟨_, _, rfl, ?_⟩))
            refine ⟨.inl ⟨rfl, _, SqL.of upd_same⟩, ?_⟩
            (repeat (first
      | refine ⟨_, rfl, ?_⟩
      | refine ⟨_, _, rfl, rfl, ?_⟩
      | refine Or.inl ⟨_, rfl, ?_⟩
      | refine Or.inr ⟨_, rfl, ?_⟩
      | refine ⟨Or.inl ⟨by decide, by decide⟩, ?_⟩
      | refine ⟨Or.inr ⟨by decide, by decide⟩, ?_⟩
      | refine ⟨⟨by decide, by decide⟩, ?_⟩
      | refine ⟨⟨by decide, by decide, by decide⟩, ?_⟩
      | refine ⟨by decide, ?_⟩
      | refine ⟨(by show (0 : Int) < _; decide), ?_⟩
      | refine ⟨rfl, ?_⟩
      | refine ⟨⟨_, rfl⟩, ?_⟩
      | refine ⟨_, rfl, rfl, trivial, ?_⟩
      | refine ⟨_, _, rfl, ?_⟩))
            refine ⟨p, _, _, rfl, rfl, upd_same, smallL (by rw [List.length_map]; omega), ?_⟩
            (repeat (first
      | refine ⟨_, rfl, ?_⟩
      | refine ⟨_, _, rfl, rfl, ?_⟩
      | refine Or.inl ⟨_, rfl, ?_⟩
      | refine Or.inr ⟨_, rfl, ?_⟩
      | refine ⟨Or.inl ⟨by decide, by decide⟩, ?_⟩
      | refine ⟨Or.inr ⟨by decide, by decide⟩, ?_⟩
      | refine ⟨⟨by decide, by decide⟩, ?_⟩
      | refine ⟨⟨by decide, by decide, by decide⟩, ?_⟩
      | refine ⟨by decide, ?_⟩
      | refine ⟨(by show (0 : Int) < _; decide), ?_⟩
      | refine ⟨rfl, ?_⟩
      | refine ⟨⟨_, rfl⟩, ?_⟩
      | refine ⟨_, rfl, rfl, trivial, ?_⟩
      | refine ⟨_, _, rfl, ?_⟩))
            refine ⟨_, _, _, _, ts ++ [m % 1000], rfl, ?_, ?_, ?_⟩
            · rw [upd_upd, List.map_append]; rfl
            · exact bnd_app hb ⟨by omega, by omega⟩
            · rw [List.length_append]; show ts.length + 1 ≤ _; omega
          · exact ⟨_, _, _, _, ts, rfl, rfl, hb, by omega⟩
        · rintro σ H' ⟨y2, y4, y5, m, ts, rfl, rfl, hb, hl⟩
          exact ⟨_, _, _, _, ts, rfl, rfl, hb, by omega⟩
      · (repeat (first
      | refine ⟨_, rfl, ?_⟩
      | refine ⟨_, _, rfl, rfl, ?_⟩
      | refine Or.inl ⟨_, rfl, ?_⟩
      | refine Or.inr ⟨_, rfl, ?_⟩
      | refine ⟨Or.inl ⟨by decide, by decide⟩, ?_⟩
      | refine ⟨Or.inr ⟨by decide, by decide⟩, ?_⟩
      | refine ⟨⟨by decide, by decide⟩, ?_⟩
      | refine ⟨⟨by decide, by decide, by decide⟩, ?_⟩
      | refine ⟨by decide, ?_⟩
      | refine ⟨(by show (0 : Int) < _; decide), ?_⟩
      | refine ⟨rfl, ?_⟩
      | refine ⟨⟨_, rfl⟩, ?_⟩
      | refine ⟨_, rfl, rfl, trivial, ?_⟩
      | refine ⟨_, _, rfl, ?_⟩))
        refine for_range (lo := 0) (n := 3) (fun j σ H' => ∃ (y2 y4 y5 : Option V) (m : Int) (ts : List Int), σ = [some (.ref a), some (.ref p), y2, some (.int m), y4, y5] ∧ H' = upd H p (.lst (ts.map V.int)) ∧ (∀ t ∈ ts, 0 ≤ t ∧ t < 2147483629) ∧ ts.length ≤ 40 * i + j) ?_ ?_ ?_
        · exact ⟨_, _, _, _, ts, rfl, rfl, hb, by omega⟩
        · rintro j σ H' hj ⟨y2, y4, y5, m, ts, rfl, rfl, hb, hl⟩
          (repeat (first
      | refine ⟨_, rfl, ?_⟩
      | refine ⟨_, _, rfl, rfl, ?_⟩
      | refine Or.inl ⟨_, rfl, ?_⟩
      | refine Or.inr ⟨_, rfl, ?_⟩
      | refine ⟨Or.inl ⟨by decide, by decide⟩, ?_⟩
      | refine ⟨Or.inr ⟨by decide, by decide⟩, ?_⟩
      | refine ⟨⟨by decide, by decide⟩, ?_⟩
      | refine ⟨⟨by decide, by decide, by decide⟩, ?_⟩
      | refine ⟨by decide, ?_⟩
      | refine ⟨(by show (0 : Int) < _; decide), ?_⟩
      | refine ⟨rfl, ?_⟩
      | refine ⟨⟨_, rfl⟩, ?_⟩
      | refine ⟨_, rfl, rfl, trivial, ?_⟩
      | refine ⟨_, _, rfl, ?_⟩))
          refine ⟨.inl ⟨rfl, _, SqL.of upd_same⟩, ?_⟩
          (repeat (first
      | refine ⟨_, rfl, ?_⟩
      | refine ⟨_, _, rfl, rfl, ?_⟩
      | refine Or.inl ⟨_, rfl, ?_⟩
      | refine Or.inr ⟨_, rfl, ?_⟩
      | refine ⟨Or.inl ⟨by decide, by decide⟩, ?_⟩
      | refine ⟨Or.inr ⟨by decide, by decide⟩, ?_⟩
      | refine ⟨⟨by decide, by decide⟩, ?_⟩
      | refine ⟨⟨by decide, by decide, by decide⟩, ?_⟩
      | refine ⟨by decide, ?_⟩
      | refine ⟨(by show (0 : Int) < _; decide), ?_⟩
      | refine ⟨rfl, ?_⟩
      | refine ⟨⟨_, rfl⟩, ?_⟩
      | refine ⟨_, rfl, rfl, trivial, ?_⟩
      | refine ⟨_, _, rfl, ?_⟩))
          refine ⟨p, _, _, rfl, rfl, upd_same, smallL (by rw [List.length_map]; omega), ?_⟩
          refine ⟨_, _, _, _, ts ++ [_], rfl, (by rw [upd_upd, List.map_append]; rfl), ?_, ?_⟩
          · exact bnd_app hb ⟨by omega, by omega⟩
          · rw [List.length_append]; show ts.length + 1 ≤ _; omega
        · rintro σ H' ⟨y2, y4, y5, m, ts, rfl, rfl, hb, hl⟩
          exact ⟨_, _, _, _, ts, rfl, rfl, hb, by omega⟩
  · rintro σ H' ⟨y2, y3, y4, y5, ts, rfl, rfl, hb, hl⟩
    rw [List.length_map] at hl
    exact ⟨_, rfl, q _ p ts (sm _) hp upd_same hb (by omega)⟩

/-! ### _law_draw, _law_take: some number below many -/
def sp_law_draw : Sp := fun vs H Q _ => ∃ (tp : Addr) (ts : List Int) (n : Nat) (m : Int), vs = [.ref tp, .int (n : Int), .int m] ∧ H tp = some (.lst (ts.map V.int)) ∧ TapeOk ts ∧ n < 2 ^ 60 ∧ 0 < m ∧ ∀ v, 0 ≤ v → v < m → Q (.int v) H
theorem ok_law_draw (T : Top K mg w) : FnOk P w K mg base CX0 1 T.a_law_draw T.d_law_draw ["tape", "at", "many"] sp_law_draw := by
  refine T.F_law_draw.ok sc_law_draw (fun vs H Q E h => ?_) (fun cdv A outer s H vs Q E hr h => ?_)
  · obtain ⟨tp, ts, n, m, rfl, _⟩ := h
    rfl
  obtain ⟨tp, ts, n, m, rfl, hT, hO, hn, hm, q⟩ := h
  have hS : SqL K H tp (ts.map V.int) := SqL.of hT
  have atn : ∀ j : Nat, j < ts.length → ∃ v, (ts.map V.int)[j]? = some (.int v) ∧ 0 ≤ v ∧ v < 2147483629 := fun j hj => by
    refine ⟨ts[j], by rw [List.getElem?_map, List.getElem?_eq_getElem hj]; rfl, hO.2 _ (List.getElem_mem hj)⟩
  refine ⟨_, (pss_cons (ps_if (pt_cmpR op_lt (pv 1) (pe_callB call_len_seq (by rfl) T.z_len (by decide +kernel) (pa_cons (pv 0) pa_nil)) (nomark _))
        (pss_one (ps_ret (pe_op op_mod (pe_callTy call_int1 (by rfl) T.z_int (by decide +kernel) (pa_cons (pe_ix ix_list (pv 0) (pv 1) (fun _ _ => rfl)) pa_nil)) (pv 2))))
        pss_nil)
      (pss_cons (ps_set (i := 3) sc_law_draw.nd rfl (Or.inl rfl) pe_int)
      (pss_cons (ps_if (pt_cmpR op_gt (pe_callB call_len_seq (by rfl) T.z_len (by decide +kernel) (pa_cons (pv 0) pa_nil)) pe_int (nomark _))
        (pss_one (ps_set (i := 3) sc_law_draw.nd rfl (Or.inl rfl) (pe_ix ix_list (pv 0) (pe_op op_mod (pe_callTy call_int1 (by rfl) T.z_int (by decide +kernel) (pa_cons (pv 1) pa_nil)) (pe_callB call_len_seq (by rfl) T.z_len (by decide +kernel) (pa_cons (pv 0) pa_nil))) (fun _ _ => rfl))))
        pss_nil)
      (pss_one (ps_ret (pe_op op_mod (pe_op op_mod (pe_callTy call_int1 (by rfl) T.z_int (by decide +kernel) (pa_cons (pe_op op_add (pe_op op_mul (pe_op op_mul (pe_op op_add (pv 3) (pv 1)) (pe_op op_add (pv 1) pe_int)) pe_int) (pe_op op_mul (pv 1) pe_int)) pa_nil)) pe_int) (pv 2))))))), ?_⟩
  (repeat (first
      | refine ⟨_, rfl, ?_⟩
      | refine ⟨_, _, rfl, rfl, ?_⟩
      | refine Or.inl ⟨_, rfl, ?_⟩
      | refine Or.inr ⟨_, rfl, ?_⟩
      | refine ⟨Or.inl ⟨by decide, by decide⟩, ?_⟩
      | refine ⟨Or.inr ⟨by decide, by decide⟩, ?_⟩
      | refine ⟨⟨by decide, by decide⟩, ?_⟩
      | refine ⟨⟨by decide, by decide, by decide⟩, ?_⟩
      | refine ⟨by decide, ?_⟩
      | refine ⟨(by show (0 : Int) < _; decide), ?_⟩
      | refine ⟨rfl, ?_⟩
      | refine ⟨⟨_, rfl⟩, ?_⟩
      | refine ⟨_, rfl, rfl, trivial, ?_⟩
      | refine ⟨_, _, rfl, ?_⟩))
  refine ⟨tp, _, rfl, .inl hS, ?_⟩
  (repeat (first
      | refine ⟨_, rfl, ?_⟩
      | refine ⟨_, _, rfl, rfl, ?_⟩
      | refine Or.inl ⟨_, rfl, ?_⟩
      | refine Or.inr ⟨_, rfl, ?_⟩
      | refine ⟨Or.inl ⟨by decide, by decide⟩, ?_⟩
      | refine ⟨Or.inr ⟨by decide, by decide⟩, ?_⟩
      | refine ⟨⟨by decide, by decide⟩, ?_⟩
      | refine ⟨⟨by decide, by decide, by decide⟩, ?_⟩
      | refine ⟨by decide, ?_⟩
      | refine ⟨(by show (0 : Int) < _; decide), ?_⟩
      | refine ⟨rfl, ?_⟩
      | refine ⟨⟨_, rfl⟩, ?_⟩
      | refine ⟨_, rfl, rfl, trivial, ?_⟩
      | refine ⟨_, _, rfl, ?_⟩))
  refine ite_dec (fun c => ?_) (fun c => ?_)
  · rw [List.length_map] at c
    obtain ⟨v, hv, h0, h1⟩ := atn n (by omega)
    (repeat (first
      | refine ⟨_, rfl, ?_⟩
      | refine ⟨_, _, rfl, rfl, ?_⟩
      | refine Or.inl ⟨_, rfl, ?_⟩
      | refine Or.inr ⟨_, rfl, ?_⟩
      | refine ⟨Or.inl ⟨by decide, by decide⟩, ?_⟩
      | refine ⟨Or.inr ⟨by decide, by decide⟩, ?_⟩
      | refine ⟨⟨by decide, by decide⟩, ?_⟩
      | refine ⟨⟨by decide, by decide, by decide⟩, ?_⟩
      | refine ⟨by decide, ?_⟩
      | refine ⟨(by show (0 : Int) < _; decide), ?_⟩
      | refine ⟨rfl, ?_⟩
      | refine ⟨⟨_, rfl⟩, ?_⟩
      | refine ⟨_, rfl, rfl, trivial, ?_⟩
      | refine ⟨_, _, rfl, ?_⟩))
    refine ⟨tp, _, _, _, rfl, rfl, hS, atI_nat hv, ?_⟩
    (repeat (first
      | refine ⟨_, rfl, ?_⟩
      | refine ⟨_, _, rfl, rfl, ?_⟩
      | refine Or.inl ⟨_, rfl, ?_⟩
      | refine Or.inr ⟨_, rfl, ?_⟩
      | refine ⟨Or.inl ⟨by decide, by decide⟩, ?_⟩
      | refine ⟨Or.inr ⟨by decide, by decide⟩, ?_⟩
      | refine ⟨⟨by decide, by decide⟩, ?_⟩
      | refine ⟨⟨by decide, by decide, by decide⟩, ?_⟩
      | refine ⟨by decide, ?_⟩
      | refine ⟨(by show (0 : Int) < _; decide), ?_⟩
      | refine ⟨rfl, ?_⟩
      | refine ⟨⟨_, rfl⟩, ?_⟩
      | refine ⟨_, rfl, rfl, trivial, ?_⟩
      | refine ⟨_, _, rfl, ?_⟩))
    refine ⟨hm, ?_⟩
    exact q _ (Int.emod_nonneg _ (by omega)) (Int.emod_lt_of_pos _ hm)
  · (repeat (first
      | refine ⟨_, rfl, ?_⟩
      | refine ⟨_, _, rfl, rfl, ?_⟩
      | refine Or.inl ⟨_, rfl, ?_⟩
      | refine Or.inr ⟨_, rfl, ?_⟩
      | refine ⟨Or.inl ⟨by decide, by decide⟩, ?_⟩
      | refine ⟨Or.inr ⟨by decide, by decide⟩, ?_⟩
      | refine ⟨⟨by decide, by decide⟩, ?_⟩
      | refine ⟨⟨by decide, by decide, by decide⟩, ?_⟩
      | refine ⟨by decide, ?_⟩
      | refine ⟨(by show (0 : Int) < _; decide), ?_⟩
      | refine ⟨rfl, ?_⟩
      | refine ⟨⟨_, rfl⟩, ?_⟩
      | refine ⟨_, rfl, rfl, trivial, ?_⟩
      | refine ⟨_, _, rfl, ?_⟩))
    refine ⟨tp, _, rfl, .inl hS, ?_⟩
    (repeat (first
      | refine ⟨_, rfl, ?_⟩
      | refine ⟨_, _, rfl, rfl, ?_⟩
      | refine Or.inl ⟨_, rfl, ?_⟩
      | refine Or.inr ⟨_, rfl, ?_⟩
      | refine ⟨Or.inl ⟨by decide, by decide⟩, ?_⟩
      | refine ⟨Or.inr ⟨by decide, by decide⟩, ?_⟩
      | refine ⟨⟨by decide, by decide⟩, ?_⟩
      | refine ⟨⟨by decide, by decide, by decide⟩, ?_⟩
      | refine ⟨by decide, ?_⟩
      | refine ⟨(by show (0 : Int) < _; decide), ?_⟩
      | refine ⟨rfl, ?_⟩
      | refine ⟨⟨_, rfl⟩, ?_⟩
      | refine ⟨_, rfl, rfl, trivial, ?_⟩
      | refine ⟨_, _, rfl, ?_⟩))
    have fin : ∀ v : Int, 0 ≤ v → v < 2147483629 → CMul (v + n) (n + 3) := fun v h0 h1 => .inl ⟨by omega, by omega⟩
    refine ite_dec (fun c => ?_) (fun c => ?_)
    · rw [List.length_map] at c
      (repeat (first
      | refine ⟨_, rfl, ?_⟩
      | refine ⟨_, _, rfl, rfl, ?_⟩
      | refine Or.inl ⟨_, rfl, ?_⟩
      | refine Or.inr ⟨_, rfl, ?_⟩
      | refine ⟨Or.inl ⟨by decide, by decide⟩, ?_⟩
      | refine ⟨Or.inr ⟨by decide, by decide⟩, ?_⟩
      | refine ⟨⟨by decide, by decide⟩, ?_⟩
      | refine ⟨⟨by decide, by decide, by decide⟩, ?_⟩
      | refine ⟨by decide, ?_⟩
      | refine ⟨(by show (0 : Int) < _; decide), ?_⟩
      | refine ⟨rfl, ?_⟩
      | refine ⟨⟨_, rfl⟩, ?_⟩
      | refine ⟨_, rfl, rfl, trivial, ?_⟩
      | refine ⟨_, _, rfl, ?_⟩))
      refine ⟨tp, _, rfl, .inl hS, ?_⟩
      (repeat (first
      | refine ⟨_, rfl, ?_⟩
      | refine ⟨_, _, rfl, rfl, ?_⟩
      | refine Or.inl ⟨_, rfl, ?_⟩
      | refine Or.inr ⟨_, rfl, ?_⟩
      | refine ⟨Or.inl ⟨by decide, by decide⟩, ?_⟩
      | refine ⟨Or.inr ⟨by decide, by decide⟩, ?_⟩
      | refine ⟨⟨by decide, by decide⟩, ?_⟩
      | refine ⟨⟨by decide, by decide, by decide⟩, ?_⟩
      | refine ⟨by decide, ?_⟩
      | refine ⟨(by show (0 : Int) < _; decide), ?_⟩
      | refine ⟨rfl, ?_⟩
      | refine ⟨⟨_, rfl⟩, ?_⟩
      | refine ⟨_, rfl, rfl, trivial, ?_⟩
      | refine ⟨_, _, rfl, ?_⟩))
      refine ⟨by show (0 : Int) < _; rw [List.length_map]; omega, ?_⟩
      have hl : ((n : Int) % ((ts.map V.int).length : Nat)) = ((n % ts.length : Nat) : Int) := by
        rw [List.length_map]; rfl
      obtain ⟨v, hv, h0, h1⟩ := atn (n % ts.length) (Nat.mod_lt _ (by omega))
      refine ⟨tp, _, _, _, rfl, rfl, hS, (by rw [hl]; exact atI_nat hv), ?_⟩
      (repeat (first
      | refine ⟨_, rfl, ?_⟩
      | refine ⟨_, _, rfl, rfl, ?_⟩
      | refine Or.inl ⟨_, rfl, ?_⟩
      | refine Or.inr ⟨_, rfl, ?_⟩
      | refine ⟨Or.inl ⟨by decide, by decide⟩, ?_⟩
      | refine ⟨Or.inr ⟨by decide, by decide⟩, ?_⟩
      | refine ⟨⟨by decide, by decide⟩, ?_⟩
      | refine ⟨⟨by decide, by decide, by decide⟩, ?_⟩
      | refine ⟨by decide, ?_⟩
      | refine ⟨(by show (0 : Int) < _; decide), ?_⟩
      | refine ⟨rfl, ?_⟩
      | refine ⟨⟨_, rfl⟩, ?_⟩
      | refine ⟨_, rfl, rfl, trivial, ?_⟩
      | refine ⟨_, _, rfl, ?_⟩))
      refine ⟨fin v h0 h1, ?_⟩
      (repeat (first
      | refine ⟨_, rfl, ?_⟩
      | refine ⟨_, _, rfl, rfl, ?_⟩
      | refine Or.inl ⟨_, rfl, ?_⟩
      | refine Or.inr ⟨_, rfl, ?_⟩
      | refine ⟨Or.inl ⟨by decide, by decide⟩, ?_⟩
      | refine ⟨Or.inr ⟨by decide, by decide⟩, ?_⟩
      | refine ⟨⟨by decide, by decide⟩, ?_⟩
      | refine ⟨⟨by decide, by decide, by decide⟩, ?_⟩
      | refine ⟨by decide, ?_⟩
      | refine ⟨(by show (0 : Int) < _; decide), ?_⟩
      | refine ⟨rfl, ?_⟩
      | refine ⟨⟨_, rfl⟩, ?_⟩
      | refine ⟨_, rfl, rfl, trivial, ?_⟩
      | refine ⟨_, _, rfl, ?_⟩))
      refine ⟨hm, ?_⟩
      exact q _ (Int.emod_nonneg _ (by omega)) (Int.emod_lt_of_pos _ hm)
    · (repeat (first
      | refine ⟨_, rfl, ?_⟩
      | refine ⟨_, _, rfl, rfl, ?_⟩
      | refine Or.inl ⟨_, rfl, ?_⟩
      | refine Or.inr ⟨_, rfl, ?_⟩
      | refine ⟨Or.inl ⟨by decide, by decide⟩, ?_⟩
      | refine ⟨Or.inr ⟨by decide, by decide⟩, ?_⟩
      | refine ⟨⟨by decide, by decide⟩, ?_⟩
      | refine ⟨⟨by decide, by decide, by decide⟩, ?_⟩
      | refine ⟨by decide, ?_⟩
      | refine ⟨(by show (0 : Int) < _; decide), ?_⟩
      | refine ⟨rfl, ?_⟩
      | refine ⟨⟨_, rfl⟩, ?_⟩
      | refine ⟨_, rfl, rfl, trivial, ?_⟩
      | refine ⟨_, _, rfl, ?_⟩))
      refine ⟨fin 1 (by decide) (by decide), ?_⟩
      (repeat (first
      | refine ⟨_, rfl, ?_⟩
      | refine ⟨_, _, rfl, rfl, ?_⟩
      | refine Or.inl ⟨_, rfl, ?_⟩
      | refine Or.inr ⟨_, rfl, ?_⟩
      | refine ⟨Or.inl ⟨by decide, by decide⟩, ?_⟩
      | refine ⟨Or.inr ⟨by decide, by decide⟩, ?_⟩
      | refine ⟨⟨by decide, by decide⟩, ?_⟩
      | refine ⟨⟨by decide, by decide, by decide⟩, ?_⟩
      | refine ⟨by decide, ?_⟩
      | refine ⟨(by show (0 : Int) < _; decide), ?_⟩
      | refine ⟨rfl, ?_⟩
      | refine ⟨⟨_, rfl⟩, ?_⟩
      | refine ⟨_, rfl, rfl, trivial, ?_⟩
      | refine ⟨_, _, rfl, ?_⟩))
      refine ⟨hm, ?_⟩
      exact q _ (Int.emod_nonneg _ (by omega)) (Int.emod_lt_of_pos _ hm)
def sp_law_take : Sp := fun vs H Q _ => ∃ (st : Addr) (n : Nat) (m : Int), vs = [.ref st, .int m] ∧ St H st n ∧ n < 2 ^ 50 ∧ 0 < m ∧ ∀ v H', 0 ≤ v → v < m → SX st H H' → St H' st (n + 1) → Q (.int v) H'
theorem ok_law_take (T : Top K mg w) : FnOk P w K mg base CX0 2 T.a_law_take T.d_law_take ["state", "many"] sp_law_take := by
  refine T.F_law_take.ok sc_law_take (fun vs H Q E h => ?_) (fun cdv A outer s H vs Q E hr h => ?_)
  · obtain ⟨st, n, m, rfl, _⟩ := h
    rfl
  obtain ⟨st, n, m, rfl, hs, hn, hm, q⟩ := h
  obtain ⟨tp, ts, h1, h2, h3, h4⟩ := hs.ex
  refine ⟨_, (pss_cons (ps_asg (pe_op op_add (pe_ix ix_list (pv 0) pe_int (fun _ _ => rfl)) pe_int) (pg_sub (pv 0) pe_int set_list))
      (pss_one (ps_ret (pe_call ((ok_law_draw T).mono (by decide)) hr (by rfl) T.m_law_draw T.F_law_draw.kp T.b_law_draw .nil pass0 (pa_cons (pe_ix ix_list (pv 0) pe_int (fun _ _ => rfl)) (pa_cons (pe_ix ix_list (pv 0) pe_int (fun _ _ => rfl)) (pa_cons (pv 1) pa_nil))))))), ?_⟩
  have e1 : ((n : Int) + 1) = ((n + 1 : Nat) : Int) := rfl
  refine ⟨_, rfl, st, _, 1, _, rfl, rfl, SqL.of h1, atI_nat (j := 1) rfl, ?_⟩
  (repeat (first
      | refine ⟨_, rfl, ?_⟩
      | refine ⟨_, _, rfl, rfl, ?_⟩
      | refine Or.inl ⟨_, rfl, ?_⟩
      | refine Or.inr ⟨_, rfl, ?_⟩
      | refine ⟨Or.inl ⟨by decide, by decide⟩, ?_⟩
      | refine ⟨Or.inr ⟨by decide, by decide⟩, ?_⟩
      | refine ⟨⟨by decide, by decide⟩, ?_⟩
      | refine ⟨⟨by decide, by decide, by decide⟩, ?_⟩
      | refine ⟨by decide, ?_⟩
      | refine ⟨(by show (0 : Int) < _; decide), ?_⟩
      | refine ⟨rfl, ?_⟩
      | refine ⟨⟨_, rfl⟩, ?_⟩
      | refine ⟨_, rfl, rfl, trivial, ?_⟩
      | refine ⟨_, _, rfl, ?_⟩))
  refine ⟨st, _, 1, 1, rfl, rfl, h1, rfl, ?_⟩
  refine ⟨_, rfl, st, _, 0, _, rfl, rfl, SqL.of upd_same, atI_nat (j := 0) rfl, ?_⟩
  refine ⟨_, rfl, st, _, 1, _, rfl, rfl, SqL.of upd_same, atI_nat (j := 1) rfl, ?_⟩
  refine ⟨_, rfl, ?_⟩
  refine ⟨tp, ts, n + 1, m, rfl, by rw [upd_ne h2]; exact h3, h4, by omega, hm, fun v h0 hv => ?_⟩
  exact q v _ h0 hv (SX.at h1) ⟨tp, ts, upd_same, h2, by rw [upd_ne h2]; exact h3, h4⟩

/-! ### _law_equal of equal data -/
def sp_law_equal (K : PySem.W.Frag) (n : Nat) : Sp := fun vs H Q _ => ∃ (x y : V) (d : PyData), vs = [x, y] ∧ Dp K H x d ∧ Dp K H y d ∧ Sh n d ∧ Q (.bl true) H
theorem isi_e {d : PyData} (k s : String) (b : Bool) (hk : tyN d = k) (e : kitB k s = some b) : PySem.W.kitOne K (.type (tyN d)) (.type s) = some b := kit_ty (by rw [hk]; exact e)
theorem seq_equal {n : Nat} {xs ys : List V} {ds : List PyData} {H : Hp} (hx : DpAll K H xs ds) (hy : DpAll K H ys ds) (hsh : ∀ d ∈ ds, Sh n d) (i : Nat) (hi : i < ds.length) :
    ∃ x y d, xs[i]? = some x ∧ ys[i]? = some y ∧ Dp K H x d ∧ Dp K H y d ∧ Sh n d := by
  have e := List.getElem?_eq_getElem hi
  obtain ⟨x, ex, px⟩ := DpAll.at hx e
  obtain ⟨y, ey, py⟩ := DpAll.at hy e
  exact ⟨x, y, ds[i], ex, ey, px, py, hsh _ (List.getElem_mem hi)⟩
theorem no_equal {f : Addr} {fd : FuncData} : ∀ n, (∀ {vs H Q E}, ¬ sp_law_equal K n vs H Q E) → FnOk P w K mg base CX0 0 f fd ["actual", "due"] (sp_law_equal K n) := fun n no =>
  ⟨fun vs H Q E h => absurd h no, fun A outer s H args us vs Q E _ _ _ _ h => absurd h no⟩
theorem step_law_equal (T : Top K mg w) (n k : Nat) (G_law_equal : ∀ m, m + 1 = n → FnOk P w K mg base CX0 k T.a_law_equal T.d_law_equal ["actual", "due"] (sp_law_equal K m)) : FnOk P w K mg base CX0 (k + 1) T.a_law_equal T.d_law_equal ["actual", "due"] (sp_law_equal K n) := by
  have no0 : FnOk P w K mg base CX0 k T.a_law_equal T.d_law_equal ["actual", "due"] (fun _ _ _ _ => False) := ⟨fun vs H Q E h => h.elim, fun A outer s H args us vs Q E _ _ _ _ h => h.elim⟩
  have G_law_equal : FnOk P w K mg base CX0 k T.a_law_equal T.d_law_equal ["actual", "due"] (fun vs H Q E => ∃ m, m + 1 = n ∧ sp_law_equal K m vs H Q E) := by
    cases n with
    | zero => exact no0.imp fun vs H Q E ⟨m, h, _⟩ => by omega
    | succ n =>
      refine (G_law_equal n rfl).imp fun vs H Q E h => ?_
      obtain ⟨m, h, q⟩ := h
      have e : m = n := by omega
      subst e
      exact q
  refine T.F_law_equal.ok sc_law_equal (fun vs H Q E h => ?_) (fun cdv A outer s H vs Q E hr h => ?_)
  · obtain ⟨x, y, d, rfl, _⟩ := h
    rfl
  obtain ⟨x, y, d, rfl, hx, hy, hsh, q⟩ := h
  refine ⟨_, (pss_cons (ps_if (pt_cmpR op_isN (pv 1) pe_non (nomark _))
        (pss_one (ps_ret (pe_cmpR op_isN (pv 0) pe_non (nomark _))))
        pss_nil)
      (pss_cons (ps_if (pt_val (pe_callB (show CallR _ (.builtin "isinstance") (rIsi K) from call_isi) (by rfl) T.z_isinstance (by decide +kernel) (pa_cons (pv 1) (pa_cons (pe_bltn (v := .ty "bool") (u := .type "bool") (by rfl) T.z_bool (by decide +kernel) rfl) pa_nil))))
        (pss_one (ps_ret (pe_and (pe_callB (show CallR _ (.builtin "isinstance") (rIsi K) from call_isi) (by rfl) T.z_isinstance (by decide +kernel) (pa_cons (pv 0) (pa_cons (pe_bltn (v := .ty "bool") (u := .type "bool") (by rfl) T.z_bool (by decide +kernel) rfl) pa_nil))) (pe_one (pe_cmpR op_eq (pv 0) (pv 1) (nomark _))))))
        pss_nil)
      (pss_cons (ps_if (pt_val (pe_callB (show CallR _ (.builtin "isinstance") (rIsi K) from call_isi) (by rfl) T.z_isinstance (by decide +kernel) (pa_cons (pv 1) (pa_cons (pe_bltn (v := .ty "int") (u := .type "int") (by rfl) T.z_int (by decide +kernel) rfl) pa_nil))))
        (pss_one (ps_ret (pe_and (pe_callB (show CallR _ (.builtin "isinstance") (rIsi K) from call_isi) (by rfl) T.z_isinstance (by decide +kernel) (pa_cons (pv 0) (pa_cons (pe_bltn (v := .ty "int") (u := .type "int") (by rfl) T.z_int (by decide +kernel) rfl) pa_nil))) (pe_and (pe_not (pe_callB (show CallR _ (.builtin "isinstance") (rIsi K) from call_isi) (by rfl) T.z_isinstance (by decide +kernel) (pa_cons (pv 0) (pa_cons (pe_bltn (v := .ty "bool") (u := .type "bool") (by rfl) T.z_bool (by decide +kernel) rfl) pa_nil)))) (pe_one (pe_cmpR op_eq (pv 0) (pv 1) (nomark _)))))))
        pss_nil)
      (pss_cons (ps_if (pt_val (pe_callB (show CallR _ (.builtin "isinstance") (rIsi K) from call_isi) (by rfl) T.z_isinstance (by decide +kernel) (pa_cons (pv 1) (pa_cons (pe_bltn (v := .ty "str") (u := .type "str") (by rfl) T.z_str (by decide +kernel) rfl) pa_nil))))
        (pss_one (ps_ret (pe_and (pe_callB (show CallR _ (.builtin "isinstance") (rIsi K) from call_isi) (by rfl) T.z_isinstance (by decide +kernel) (pa_cons (pv 0) (pa_cons (pe_bltn (v := .ty "str") (u := .type "str") (by rfl) T.z_str (by decide +kernel) rfl) pa_nil))) (pe_one (pe_cmpR op_eq (pv 0) (pv 1) (nomark _))))))
        pss_nil)
      (pss_cons (ps_if (PW.pt (pw_and (pt_val (pe_callB (show CallR _ (.builtin "isinstance") (rIsi K) from call_isi) (by rfl) T.z_isinstance (by decide +kernel) (pa_cons (pv 1) (pa_cons (pe_bltn (v := .ty "tuple") (u := .type "tuple") (by rfl) T.z_tuple (by decide +kernel) rfl) pa_nil)))) (pw_and1 (pt_not (pt_val (pe_callB (show CallR _ (.builtin "isinstance") (rIsi K) from call_isi) (by rfl) T.z_isinstance (by decide +kernel) (pa_cons (pv 0) (pa_cons (pe_bltn (v := .ty "tuple") (u := .type "tuple") (by rfl) T.z_tuple (by decide +kernel) rfl) pa_nil))))))))
        (pss_one (ps_ret pe_bl))
        pss_nil)
      (pss_cons (ps_if (PW.pt (pw_and (pt_val (pe_callB (show CallR _ (.builtin "isinstance") (rIsi K) from call_isi) (by rfl) T.z_isinstance (by decide +kernel) (pa_cons (pv 1) (pa_cons (pe_bltn (v := .ty "list") (u := .type "list") (by rfl) T.z_list (by decide +kernel) rfl) pa_nil)))) (pw_and1 (pt_not (pt_val (pe_callB (show CallR _ (.builtin "isinstance") (rIsi K) from call_isi) (by rfl) T.z_isinstance (by decide +kernel) (pa_cons (pv 0) (pa_cons (pe_bltn (v := .ty "list") (u := .type "list") (by rfl) T.z_list (by decide +kernel) rfl) pa_nil))))))))
        (pss_one (ps_ret pe_bl))
        pss_nil)
      (pss_cons (ps_if (pt_cmpR op_ne (pe_callB call_len_seq (by rfl) T.z_len (by decide +kernel) (pa_cons (pv 0) pa_nil)) (pe_callB call_len_seq (by rfl) T.z_len (by decide +kernel) (pa_cons (pv 1) pa_nil)) (nomark _))
        (pss_one (ps_ret pe_bl))
        pss_nil)
      (pss_cons (ps_for PassesOwn.never rfl (pi_range1 (by rfl) T.z_range (pa_cons (pe_callB call_len_seq (by rfl) T.z_len (by decide +kernel) (pa_cons (pv 1) pa_nil)) pa_nil)) (pg_name (i := 2) sc_law_equal.nd rfl (Or.inl rfl))
        (pss_one (ps_if (pt_not (pt_val (pe_call G_law_equal hr (by rfl) T.m_law_equal T.F_law_equal.kp T.b_law_equal .nil pass0 (pa_cons (pe_ix (IxR.or ix_list ix_tup) (pv 0) (pv 2) (fun _ _ => rfl)) (pa_cons (pe_ix (IxR.or ix_list ix_tup) (pv 1) (pv 2) (fun _ _ => rfl)) pa_nil)))))
        (pss_one (ps_ret pe_bl))
        pss_nil)))
      (pss_one (ps_ret pe_bl)))))))))), ?_⟩
  -- the end over a list or a tuple
  cases d with
  | none =>
    cases hx
    cases hy
    (repeat (first
      | refine ⟨_, rfl, ?_⟩
      | refine ⟨_, _, rfl, rfl, ?_⟩
      | refine Or.inl ⟨_, rfl, ?_⟩
      | refine Or.inr ⟨_, rfl, ?_⟩
      | refine ⟨Or.inl ⟨by decide, by decide⟩, ?_⟩
      | refine ⟨Or.inr ⟨by decide, by decide⟩, ?_⟩
      | refine ⟨⟨by decide, by decide⟩, ?_⟩
      | refine ⟨⟨by decide, by decide, by decide⟩, ?_⟩
      | refine ⟨by decide, ?_⟩
      | refine ⟨(by show (0 : Int) < _; decide), ?_⟩
      | refine ⟨rfl, ?_⟩
      | refine ⟨⟨_, rfl⟩, ?_⟩
      | refine ⟨_, rfl, rfl, trivial, ?_⟩
      | refine ⟨_, _, rfl, ?_⟩))
    exact q
  | bool b =>
    cases hx
    cases hy
    (repeat (first
      | refine ⟨_, rfl, ?_⟩
      | refine ⟨_, _, rfl, rfl, ?_⟩
      | refine Or.inl ⟨_, rfl, ?_⟩
      | refine Or.inr ⟨_, rfl, ?_⟩
      | refine ⟨Or.inl ⟨by decide, by decide⟩, ?_⟩
      | refine ⟨Or.inr ⟨by decide, by decide⟩, ?_⟩
      | refine ⟨⟨by decide, by decide⟩, ?_⟩
      | refine ⟨⟨by decide, by decide, by decide⟩, ?_⟩
      | refine ⟨by decide, ?_⟩
      | refine ⟨(by show (0 : Int) < _; decide), ?_⟩
      | refine ⟨rfl, ?_⟩
      | refine ⟨⟨_, rfl⟩, ?_⟩
      | refine ⟨_, rfl, rfl, trivial, ?_⟩
      | refine ⟨_, _, rfl, ?_⟩))
    refine ⟨_, _, _, _, true, rfl, .ty _, Dp.ty (.bl b), isi_e "bool" "bool" true rfl (by decide +kernel), ?_⟩
    (repeat (first
      | refine ⟨_, rfl, ?_⟩
      | refine ⟨_, _, rfl, rfl, ?_⟩
      | refine Or.inl ⟨_, rfl, ?_⟩
      | refine Or.inr ⟨_, rfl, ?_⟩
      | refine ⟨Or.inl ⟨by decide, by decide⟩, ?_⟩
      | refine ⟨Or.inr ⟨by decide, by decide⟩, ?_⟩
      | refine ⟨⟨by decide, by decide⟩, ?_⟩
      | refine ⟨⟨by decide, by decide, by decide⟩, ?_⟩
      | refine ⟨by decide, ?_⟩
      | refine ⟨(by show (0 : Int) < _; decide), ?_⟩
      | refine ⟨rfl, ?_⟩
      | refine ⟨⟨_, rfl⟩, ?_⟩
      | refine ⟨_, rfl, rfl, trivial, ?_⟩
      | refine ⟨_, _, rfl, ?_⟩))
    refine ⟨_, _, _, _, true, rfl, .ty _, Dp.ty (.bl b), isi_e "bool" "bool" true rfl (by decide +kernel), ?_⟩
    (repeat (first
      | refine ⟨_, rfl, ?_⟩
      | refine ⟨_, _, rfl, rfl, ?_⟩
      | refine Or.inl ⟨_, rfl, ?_⟩
      | refine Or.inr ⟨_, rfl, ?_⟩
      | refine ⟨Or.inl ⟨by decide, by decide⟩, ?_⟩
      | refine ⟨Or.inr ⟨by decide, by decide⟩, ?_⟩
      | refine ⟨⟨by decide, by decide⟩, ?_⟩
      | refine ⟨⟨by decide, by decide, by decide⟩, ?_⟩
      | refine ⟨by decide, ?_⟩
      | refine ⟨(by show (0 : Int) < _; decide), ?_⟩
      | refine ⟨rfl, ?_⟩
      | refine ⟨⟨_, rfl⟩, ?_⟩
      | refine ⟨_, rfl, rfl, trivial, ?_⟩
      | refine ⟨_, _, rfl, ?_⟩))
    rw [decide_eq_true rfl]
    exact q
  | int b =>
    cases hx
    cases hy
    (repeat (first
      | refine ⟨_, rfl, ?_⟩
      | refine ⟨_, _, rfl, rfl, ?_⟩
      | refine Or.inl ⟨_, rfl, ?_⟩
      | refine Or.inr ⟨_, rfl, ?_⟩
      | refine ⟨Or.inl ⟨by decide, by decide⟩, ?_⟩
      | refine ⟨Or.inr ⟨by decide, by decide⟩, ?_⟩
      | refine ⟨⟨by decide, by decide⟩, ?_⟩
      | refine ⟨⟨by decide, by decide, by decide⟩, ?_⟩
      | refine ⟨by decide, ?_⟩
      | refine ⟨(by show (0 : Int) < _; decide), ?_⟩
      | refine ⟨rfl, ?_⟩
      | refine ⟨⟨_, rfl⟩, ?_⟩
      | refine ⟨_, rfl, rfl, trivial, ?_⟩
      | refine ⟨_, _, rfl, ?_⟩))
    refine ⟨_, _, _, _, false, rfl, .ty _, Dp.ty (.int b), isi_e "int" "bool" false rfl (by decide +kernel), ?_⟩
    (repeat (first
      | refine ⟨_, rfl, ?_⟩
      | refine ⟨_, _, rfl, rfl, ?_⟩
      | refine Or.inl ⟨_, rfl, ?_⟩
      | refine Or.inr ⟨_, rfl, ?_⟩
      | refine ⟨Or.inl ⟨by decide, by decide⟩, ?_⟩
      | refine ⟨Or.inr ⟨by decide, by decide⟩, ?_⟩
      | refine ⟨⟨by decide, by decide⟩, ?_⟩
      | refine ⟨⟨by decide, by decide, by decide⟩, ?_⟩
      | refine ⟨by decide, ?_⟩
      | refine ⟨(by show (0 : Int) < _; decide), ?_⟩
      | refine ⟨rfl, ?_⟩
      | refine ⟨⟨_, rfl⟩, ?_⟩
      | refine ⟨_, rfl, rfl, trivial, ?_⟩
      | refine ⟨_, _, rfl, ?_⟩))
    refine ⟨_, _, _, _, true, rfl, .ty _, Dp.ty (.int b), isi_e "int" "int" true rfl (by decide +kernel), ?_⟩
    (repeat (first
      | refine ⟨_, rfl, ?_⟩
      | refine ⟨_, _, rfl, rfl, ?_⟩
      | refine Or.inl ⟨_, rfl, ?_⟩
      | refine Or.inr ⟨_, rfl, ?_⟩
      | refine ⟨Or.inl ⟨by decide, by decide⟩, ?_⟩
      | refine ⟨Or.inr ⟨by decide, by decide⟩, ?_⟩
      | refine ⟨⟨by decide, by decide⟩, ?_⟩
      | refine ⟨⟨by decide, by decide, by decide⟩, ?_⟩
      | refine ⟨by decide, ?_⟩
      | refine ⟨(by show (0 : Int) < _; decide), ?_⟩
      | refine ⟨rfl, ?_⟩
      | refine ⟨⟨_, rfl⟩, ?_⟩
      | refine ⟨_, rfl, rfl, trivial, ?_⟩
      | refine ⟨_, _, rfl, ?_⟩))
    refine ⟨_, _, _, _, true, rfl, .ty _, Dp.ty (.int b), isi_e "int" "int" true rfl (by decide +kernel), ?_⟩
    (repeat (first
      | refine ⟨_, rfl, ?_⟩
      | refine ⟨_, _, rfl, rfl, ?_⟩
      | refine Or.inl ⟨_, rfl, ?_⟩
      | refine Or.inr ⟨_, rfl, ?_⟩
      | refine ⟨Or.inl ⟨by decide, by decide⟩, ?_⟩
      | refine ⟨Or.inr ⟨by decide, by decide⟩, ?_⟩
      | refine ⟨⟨by decide, by decide⟩, ?_⟩
      | refine ⟨⟨by decide, by decide, by decide⟩, ?_⟩
      | refine ⟨by decide, ?_⟩
      | refine ⟨(by show (0 : Int) < _; decide), ?_⟩
      | refine ⟨rfl, ?_⟩
      | refine ⟨⟨_, rfl⟩, ?_⟩
      | refine ⟨_, rfl, rfl, trivial, ?_⟩
      | refine ⟨_, _, rfl, ?_⟩))
    refine ⟨_, _, _, _, false, rfl, .ty _, Dp.ty (.int b), isi_e "int" "bool" false rfl (by decide +kernel), ?_⟩
    (repeat (first
      | refine ⟨_, rfl, ?_⟩
      | refine ⟨_, _, rfl, rfl, ?_⟩
      | refine Or.inl ⟨_, rfl, ?_⟩
      | refine Or.inr ⟨_, rfl, ?_⟩
      | refine ⟨Or.inl ⟨by decide, by decide⟩, ?_⟩
      | refine ⟨Or.inr ⟨by decide, by decide⟩, ?_⟩
      | refine ⟨⟨by decide, by decide⟩, ?_⟩
      | refine ⟨⟨by decide, by decide, by decide⟩, ?_⟩
      | refine ⟨by decide, ?_⟩
      | refine ⟨(by show (0 : Int) < _; decide), ?_⟩
      | refine ⟨rfl, ?_⟩
      | refine ⟨⟨_, rfl⟩, ?_⟩
      | refine ⟨_, rfl, rfl, trivial, ?_⟩
      | refine ⟨_, _, rfl, ?_⟩))
    rw [decide_eq_true rfl]
    exact q
  | str b =>
    cases hx
    cases hy
    (repeat (first
      | refine ⟨_, rfl, ?_⟩
      | refine ⟨_, _, rfl, rfl, ?_⟩
      | refine Or.inl ⟨_, rfl, ?_⟩
      | refine Or.inr ⟨_, rfl, ?_⟩
      | refine ⟨Or.inl ⟨by decide, by decide⟩, ?_⟩
      | refine ⟨Or.inr ⟨by decide, by decide⟩, ?_⟩
      | refine ⟨⟨by decide, by decide⟩, ?_⟩
      | refine ⟨⟨by decide, by decide, by decide⟩, ?_⟩
      | refine ⟨by decide, ?_⟩
      | refine ⟨(by show (0 : Int) < _; decide), ?_⟩
      | refine ⟨rfl, ?_⟩
      | refine ⟨⟨_, rfl⟩, ?_⟩
      | refine ⟨_, rfl, rfl, trivial, ?_⟩
      | refine ⟨_, _, rfl, ?_⟩))
    refine ⟨_, _, _, _, false, rfl, .ty _, Dp.ty (.str b), isi_e "str" "bool" false rfl (by decide +kernel), ?_⟩
    (repeat (first
      | refine ⟨_, rfl, ?_⟩
      | refine ⟨_, _, rfl, rfl, ?_⟩
      | refine Or.inl ⟨_, rfl, ?_⟩
      | refine Or.inr ⟨_, rfl, ?_⟩
      | refine ⟨Or.inl ⟨by decide, by decide⟩, ?_⟩
      | refine ⟨Or.inr ⟨by decide, by decide⟩, ?_⟩
      | refine ⟨⟨by decide, by decide⟩, ?_⟩
      | refine ⟨⟨by decide, by decide, by decide⟩, ?_⟩
      | refine ⟨by decide, ?_⟩
      | refine ⟨(by show (0 : Int) < _; decide), ?_⟩
      | refine ⟨rfl, ?_⟩
      | refine ⟨⟨_, rfl⟩, ?_⟩
      | refine ⟨_, rfl, rfl, trivial, ?_⟩
      | refine ⟨_, _, rfl, ?_⟩))
    refine ⟨_, _, _, _, false, rfl, .ty _, Dp.ty (.str b), isi_e "str" "int" false rfl (by decide +kernel), ?_⟩
    (repeat (first
      | refine ⟨_, rfl, ?_⟩
      | refine ⟨_, _, rfl, rfl, ?_⟩
      | refine Or.inl ⟨_, rfl, ?_⟩
      | refine Or.inr ⟨_, rfl, ?_⟩
      | refine ⟨Or.inl ⟨by decide, by decide⟩, ?_⟩
      | refine ⟨Or.inr ⟨by decide, by decide⟩, ?_⟩
      | refine ⟨⟨by decide, by decide⟩, ?_⟩
      | refine ⟨⟨by decide, by decide, by decide⟩, ?_⟩
      | refine ⟨by decide, ?_⟩
      | refine ⟨(by show (0 : Int) < _; decide), ?_⟩
      | refine ⟨rfl, ?_⟩
      | refine ⟨⟨_, rfl⟩, ?_⟩
      | refine ⟨_, rfl, rfl, trivial, ?_⟩
      | refine ⟨_, _, rfl, ?_⟩))
    refine ⟨_, _, _, _, true, rfl, .ty _, Dp.ty (.str b), isi_e "str" "str" true rfl (by decide +kernel), ?_⟩
    (repeat (first
      | refine ⟨_, rfl, ?_⟩
      | refine ⟨_, _, rfl, rfl, ?_⟩
      | refine Or.inl ⟨_, rfl, ?_⟩
      | refine Or.inr ⟨_, rfl, ?_⟩
      | refine ⟨Or.inl ⟨by decide, by decide⟩, ?_⟩
      | refine ⟨Or.inr ⟨by decide, by decide⟩, ?_⟩
      | refine ⟨⟨by decide, by decide⟩, ?_⟩
      | refine ⟨⟨by decide, by decide, by decide⟩, ?_⟩
      | refine ⟨by decide, ?_⟩
      | refine ⟨(by show (0 : Int) < _; decide), ?_⟩
      | refine ⟨rfl, ?_⟩
      | refine ⟨⟨_, rfl⟩, ?_⟩
      | refine ⟨_, rfl, rfl, trivial, ?_⟩
      | refine ⟨_, _, rfl, ?_⟩))
    refine ⟨_, _, _, _, true, rfl, .ty _, Dp.ty (.str b), isi_e "str" "str" true rfl (by decide +kernel), ?_⟩
    (repeat (first
      | refine ⟨_, rfl, ?_⟩
      | refine ⟨_, _, rfl, rfl, ?_⟩
      | refine Or.inl ⟨_, rfl, ?_⟩
      | refine Or.inr ⟨_, rfl, ?_⟩
      | refine ⟨Or.inl ⟨by decide, by decide⟩, ?_⟩
      | refine ⟨Or.inr ⟨by decide, by decide⟩, ?_⟩
      | refine ⟨⟨by decide, by decide⟩, ?_⟩
      | refine ⟨⟨by decide, by decide, by decide⟩, ?_⟩
      | refine ⟨by decide, ?_⟩
      | refine ⟨(by show (0 : Int) < _; decide), ?_⟩
      | refine ⟨rfl, ?_⟩
      | refine ⟨⟨_, rfl⟩, ?_⟩
      | refine ⟨_, rfl, rfl, trivial, ?_⟩
      | refine ⟨_, _, rfl, ?_⟩))
    rw [decide_eq_true rfl]
    exact q
  | dict kvs => cases hx
  | list ds =>
    cases n with
    | zero => exact hsh.elim
    | succ n =>
    obtain ⟨hl, hsh⟩ := (show ds.length ≤ 1000000 ∧ ∀ x ∈ ds, Sh n x from hsh)
    have hx' := hx
    have hy' := hy
    cases hx with
    | @lst a xs _ hX hxs =>
    cases hy with
    | @lst b ys _ hY hys =>
    have lx := DpAll.len hxs
    have ly := DpAll.len hys
    (repeat (first
      | refine ⟨_, rfl, ?_⟩
      | refine ⟨_, _, rfl, rfl, ?_⟩
      | refine Or.inl ⟨_, rfl, ?_⟩
      | refine Or.inr ⟨_, rfl, ?_⟩
      | refine ⟨Or.inl ⟨by decide, by decide⟩, ?_⟩
      | refine ⟨Or.inr ⟨by decide, by decide⟩, ?_⟩
      | refine ⟨⟨by decide, by decide⟩, ?_⟩
      | refine ⟨⟨by decide, by decide, by decide⟩, ?_⟩
      | refine ⟨by decide, ?_⟩
      | refine ⟨(by show (0 : Int) < _; decide), ?_⟩
      | refine ⟨rfl, ?_⟩
      | refine ⟨⟨_, rfl⟩, ?_⟩
      | refine ⟨_, rfl, rfl, trivial, ?_⟩
      | refine ⟨_, _, rfl, ?_⟩))
    refine ⟨_, _, _, _, false, rfl, .ty _, Dp.ty hy', isi_e "list" "bool" false rfl (by decide +kernel), ?_⟩
    (repeat (first
      | refine ⟨_, rfl, ?_⟩
      | refine ⟨_, _, rfl, rfl, ?_⟩
      | refine Or.inl ⟨_, rfl, ?_⟩
      | refine Or.inr ⟨_, rfl, ?_⟩
      | refine ⟨Or.inl ⟨by decide, by decide⟩, ?_⟩
      | refine ⟨Or.inr ⟨by decide, by decide⟩, ?_⟩
      | refine ⟨⟨by decide, by decide⟩, ?_⟩
      | refine ⟨⟨by decide, by decide, by decide⟩, ?_⟩
      | refine ⟨by decide, ?_⟩
      | refine ⟨(by show (0 : Int) < _; decide), ?_⟩
      | refine ⟨rfl, ?_⟩
      | refine ⟨⟨_, rfl⟩, ?_⟩
      | refine ⟨_, rfl, rfl, trivial, ?_⟩
      | refine ⟨_, _, rfl, ?_⟩))
    refine ⟨_, _, _, _, false, rfl, .ty _, Dp.ty hy', isi_e "list" "int" false rfl (by decide +kernel), ?_⟩
    (repeat (first
      | refine ⟨_, rfl, ?_⟩
      | refine ⟨_, _, rfl, rfl, ?_⟩
      | refine Or.inl ⟨_, rfl, ?_⟩
      | refine Or.inr ⟨_, rfl, ?_⟩
      | refine ⟨Or.inl ⟨by decide, by decide⟩, ?_⟩
      | refine ⟨Or.inr ⟨by decide, by decide⟩, ?_⟩
      | refine ⟨⟨by decide, by decide⟩, ?_⟩
      | refine ⟨⟨by decide, by decide, by decide⟩, ?_⟩
      | refine ⟨by decide, ?_⟩
      | refine ⟨(by show (0 : Int) < _; decide), ?_⟩
      | refine ⟨rfl, ?_⟩
      | refine ⟨⟨_, rfl⟩, ?_⟩
      | refine ⟨_, rfl, rfl, trivial, ?_⟩
      | refine ⟨_, _, rfl, ?_⟩))
    refine ⟨_, _, _, _, false, rfl, .ty _, Dp.ty hy', isi_e "list" "str" false rfl (by decide +kernel), ?_⟩
    (repeat (first
      | refine ⟨_, rfl, ?_⟩
      | refine ⟨_, _, rfl, rfl, ?_⟩
      | refine Or.inl ⟨_, rfl, ?_⟩
      | refine Or.inr ⟨_, rfl, ?_⟩
      | refine ⟨Or.inl ⟨by decide, by decide⟩, ?_⟩
      | refine ⟨Or.inr ⟨by decide, by decide⟩, ?_⟩
      | refine ⟨⟨by decide, by decide⟩, ?_⟩
      | refine ⟨⟨by decide, by decide, by decide⟩, ?_⟩
      | refine ⟨by decide, ?_⟩
      | refine ⟨(by show (0 : Int) < _; decide), ?_⟩
      | refine ⟨rfl, ?_⟩
      | refine ⟨⟨_, rfl⟩, ?_⟩
      | refine ⟨_, rfl, rfl, trivial, ?_⟩
      | refine ⟨_, _, rfl, ?_⟩))
    refine ⟨_, _, _, _, false, rfl, .ty _, Dp.ty hy', isi_e "list" "tuple" false rfl (by decide +kernel), ?_⟩
    (repeat (first
      | refine ⟨_, rfl, ?_⟩
      | refine ⟨_, _, rfl, rfl, ?_⟩
      | refine Or.inl ⟨_, rfl, ?_⟩
      | refine Or.inr ⟨_, rfl, ?_⟩
      | refine ⟨Or.inl ⟨by decide, by decide⟩, ?_⟩
      | refine ⟨Or.inr ⟨by decide, by decide⟩, ?_⟩
      | refine ⟨⟨by decide, by decide⟩, ?_⟩
      | refine ⟨⟨by decide, by decide, by decide⟩, ?_⟩
      | refine ⟨by decide, ?_⟩
      | refine ⟨(by show (0 : Int) < _; decide), ?_⟩
      | refine ⟨rfl, ?_⟩
      | refine ⟨⟨_, rfl⟩, ?_⟩
      | refine ⟨_, rfl, rfl, trivial, ?_⟩
      | refine ⟨_, _, rfl, ?_⟩))
    refine ⟨_, _, _, _, true, rfl, .ty _, Dp.ty hy', isi_e "list" "list" true rfl (by decide +kernel), ?_⟩
    (repeat (first
      | refine ⟨_, rfl, ?_⟩
      | refine ⟨_, _, rfl, rfl, ?_⟩
      | refine Or.inl ⟨_, rfl, ?_⟩
      | refine Or.inr ⟨_, rfl, ?_⟩
      | refine ⟨Or.inl ⟨by decide, by decide⟩, ?_⟩
      | refine ⟨Or.inr ⟨by decide, by decide⟩, ?_⟩
      | refine ⟨⟨by decide, by decide⟩, ?_⟩
      | refine ⟨⟨by decide, by decide, by decide⟩, ?_⟩
      | refine ⟨by decide, ?_⟩
      | refine ⟨(by show (0 : Int) < _; decide), ?_⟩
      | refine ⟨rfl, ?_⟩
      | refine ⟨⟨_, rfl⟩, ?_⟩
      | refine ⟨_, rfl, rfl, trivial, ?_⟩
      | refine ⟨_, _, rfl, ?_⟩))
    refine ⟨_, _, _, _, true, rfl, .ty _, Dp.ty hx', isi_e "list" "list" true rfl (by decide +kernel), ?_⟩
    (repeat (first
      | refine ⟨_, rfl, ?_⟩
      | refine ⟨_, _, rfl, rfl, ?_⟩
      | refine Or.inl ⟨_, rfl, ?_⟩
      | refine Or.inr ⟨_, rfl, ?_⟩
      | refine ⟨Or.inl ⟨by decide, by decide⟩, ?_⟩
      | refine ⟨Or.inr ⟨by decide, by decide⟩, ?_⟩
      | refine ⟨⟨by decide, by decide⟩, ?_⟩
      | refine ⟨⟨by decide, by decide, by decide⟩, ?_⟩
      | refine ⟨by decide, ?_⟩
      | refine ⟨(by show (0 : Int) < _; decide), ?_⟩
      | refine ⟨rfl, ?_⟩
      | refine ⟨⟨_, rfl⟩, ?_⟩
      | refine ⟨_, rfl, rfl, trivial, ?_⟩
      | refine ⟨_, _, rfl, ?_⟩))
    refine ⟨a, _, rfl, .inl hX, _, rfl, b, _, rfl, .inl hY, rfl, ?_⟩
    (repeat (first
      | refine ⟨_, rfl, ?_⟩
      | refine ⟨_, _, rfl, rfl, ?_⟩
      | refine Or.inl ⟨_, rfl, ?_⟩
      | refine Or.inr ⟨_, rfl, ?_⟩
      | refine ⟨Or.inl ⟨by decide, by decide⟩, ?_⟩
      | refine ⟨Or.inr ⟨by decide, by decide⟩, ?_⟩
      | refine ⟨⟨by decide, by decide⟩, ?_⟩
      | refine ⟨⟨by decide, by decide, by decide⟩, ?_⟩
      | refine ⟨by decide, ?_⟩
      | refine ⟨(by show (0 : Int) < _; decide), ?_⟩
      | refine ⟨rfl, ?_⟩
      | refine ⟨⟨_, rfl⟩, ?_⟩
      | refine ⟨_, rfl, rfl, trivial, ?_⟩
      | refine ⟨_, _, rfl, ?_⟩))
    refine iteNS (by rw [lx, ly]) ?_
    refine ⟨_, rfl, b, _, rfl, .inl hY, _, rfl, by omega, by omega, ?_⟩
    have en : ((ys.length : Nat) : Int).toNat = ds.length := by rw [ly]; rfl
    rw [en]
    refine for_range (lo := 0) (n := ds.length) (fun j σ H' => ∃ (y2 : Option V), σ = [some (.ref a), some (.ref b), y2] ∧ H' = H) ⟨_, rfl, rfl⟩ ?_ ?_
    · rintro j σ H' hj ⟨y2, rfl, rfl⟩
      obtain ⟨u, v, d, eu, ev, du, dv, ds'⟩ := seq_equal hxs hys hsh j hj
      have e0 : (0 : Int) + (j : Int) = (j : Int) := Int.zero_add _
      rw [e0]
      refine ⟨_, rfl, _, rfl, .inl ⟨a, _, _, _, rfl, rfl, hX, atI_nat eu, ?_⟩⟩
      refine ⟨_, rfl, _, rfl, .inl ⟨b, _, _, _, rfl, rfl, hY, atI_nat ev, ?_⟩⟩
      refine ⟨n, rfl, u, v, d, rfl, du, dv, ds', ?_⟩
      refine ⟨_, rfl, ?_⟩
      refine ifF ?_
      exact ⟨_, rfl, rfl⟩
    · rintro σ H' ⟨y2, rfl, rfl⟩
      exact q
  | tuple ds =>
    cases n with
    | zero => exact hsh.elim
    | succ n =>
    obtain ⟨hl, hsh⟩ := (show ds.length ≤ 1000000 ∧ ∀ x ∈ ds, Sh n x from hsh)
    have hx' := hx
    have hy' := hy
    cases hx with
    | @tup a xs _ hX hxs =>
    cases hy with
    | @tup b ys _ hY hys =>
    have lx := DpAll.len hxs
    have ly := DpAll.len hys
    (repeat (first
      | refine ⟨_, rfl, ?_⟩
      | refine ⟨_, _, rfl, rfl, ?_⟩
      | refine Or.inl ⟨_, rfl, ?_⟩
      | refine Or.inr ⟨_, rfl, ?_⟩
      | refine ⟨Or.inl ⟨by decide, by decide⟩, ?_⟩
      | refine ⟨Or.inr ⟨by decide, by decide⟩, ?_⟩
      | refine ⟨⟨by decide, by decide⟩, ?_⟩
      | refine ⟨⟨by decide, by decide, by decide⟩, ?_⟩
      | refine ⟨by decide, ?_⟩
      | refine ⟨(by show (0 : Int) < _; decide), ?_⟩
      | refine ⟨rfl, ?_⟩
      | refine ⟨⟨_, rfl⟩, ?_⟩
      | refine ⟨_, rfl, rfl, trivial, ?_⟩
      | refine ⟨_, _, rfl, ?_⟩))
    refine ⟨_, _, _, _, false, rfl, .ty _, Dp.ty hy', isi_e "tuple" "bool" false rfl (by decide +kernel), ?_⟩
    (repeat (first
      | refine ⟨_, rfl, ?_⟩
      | refine ⟨_, _, rfl, rfl, ?_⟩
      | refine Or.inl ⟨_, rfl, ?_⟩
      | refine Or.inr ⟨_, rfl, ?_⟩
      | refine ⟨Or.inl ⟨by decide, by decide⟩, ?_⟩
      | refine ⟨Or.inr ⟨by decide, by decide⟩, ?_⟩
      | refine ⟨⟨by decide, by decide⟩, ?_⟩
      | refine ⟨⟨by decide, by decide, by decide⟩, ?_⟩
      | refine ⟨by decide, ?_⟩
      | refine ⟨(by show (0 : Int) < _; decide), ?_⟩
      | refine ⟨rfl, ?_⟩
      | refine ⟨⟨_, rfl⟩, ?_⟩
      | refine ⟨_, rfl, rfl, trivial, ?_⟩
      | refine ⟨_, _, rfl, ?_⟩))
    refine ⟨_, _, _, _, false, rfl, .ty _, Dp.ty hy', isi_e "tuple" "int" false rfl (by decide +kernel), ?_⟩
    (repeat (first
      | refine ⟨_, rfl, ?_⟩
      | refine ⟨_, _, rfl, rfl, ?_⟩
      | refine Or.inl ⟨_, rfl, ?_⟩
      | refine Or.inr ⟨_, rfl, ?_⟩
      | refine ⟨Or.inl ⟨by decide, by decide⟩, ?_⟩
      | refine ⟨Or.inr ⟨by decide, by decide⟩, ?_⟩
      | refine ⟨⟨by decide, by decide⟩, ?_⟩
      | refine ⟨⟨by decide, by decide, by decide⟩, ?_⟩
      | refine ⟨by decide, ?_⟩
      | refine ⟨(by show (0 : Int) < _; decide), ?_⟩
      | refine ⟨rfl, ?_⟩
      | refine ⟨⟨_, rfl⟩, ?_⟩
      | refine ⟨_, rfl, rfl, trivial, ?_⟩
      | refine ⟨_, _, rfl, ?_⟩))
    refine ⟨_, _, _, _, false, rfl, .ty _, Dp.ty hy', isi_e "tuple" "str" false rfl (by decide +kernel), ?_⟩
    (repeat (first
      | refine ⟨_, rfl, ?_⟩
      | refine ⟨_, _, rfl, rfl, ?_⟩
      | refine Or.inl ⟨_, rfl, ?_⟩
      | refine Or.inr ⟨_, rfl, ?_⟩
      | refine ⟨Or.inl ⟨by decide, by decide⟩, ?_⟩
      | refine ⟨Or.inr ⟨by decide, by decide⟩, ?_⟩
      | refine ⟨⟨by decide, by decide⟩, ?_⟩
      | refine ⟨⟨by decide, by decide, by decide⟩, ?_⟩
      | refine ⟨by decide, ?_⟩
      | refine ⟨(by show (0 : Int) < _; decide), ?_⟩
      | refine ⟨rfl, ?_⟩
      | refine ⟨⟨_, rfl⟩, ?_⟩
      | refine ⟨_, rfl, rfl, trivial, ?_⟩
      | refine ⟨_, _, rfl, ?_⟩))
    refine ⟨_, _, _, _, true, rfl, .ty _, Dp.ty hy', isi_e "tuple" "tuple" true rfl (by decide +kernel), ?_⟩
    (repeat (first
      | refine ⟨_, rfl, ?_⟩
      | refine ⟨_, _, rfl, rfl, ?_⟩
      | refine Or.inl ⟨_, rfl, ?_⟩
      | refine Or.inr ⟨_, rfl, ?_⟩
      | refine ⟨Or.inl ⟨by decide, by decide⟩, ?_⟩
      | refine ⟨Or.inr ⟨by decide, by decide⟩, ?_⟩
      | refine ⟨⟨by decide, by decide⟩, ?_⟩
      | refine ⟨⟨by decide, by decide, by decide⟩, ?_⟩
      | refine ⟨by decide, ?_⟩
      | refine ⟨(by show (0 : Int) < _; decide), ?_⟩
      | refine ⟨rfl, ?_⟩
      | refine ⟨⟨_, rfl⟩, ?_⟩
      | refine ⟨_, rfl, rfl, trivial, ?_⟩
      | refine ⟨_, _, rfl, ?_⟩))
    refine ⟨_, _, _, _, true, rfl, .ty _, Dp.ty hx', isi_e "tuple" "tuple" true rfl (by decide +kernel), ?_⟩
    (repeat (first
      | refine ⟨_, rfl, ?_⟩
      | refine ⟨_, _, rfl, rfl, ?_⟩
      | refine Or.inl ⟨_, rfl, ?_⟩
      | refine Or.inr ⟨_, rfl, ?_⟩
      | refine ⟨Or.inl ⟨by decide, by decide⟩, ?_⟩
      | refine ⟨Or.inr ⟨by decide, by decide⟩, ?_⟩
      | refine ⟨⟨by decide, by decide⟩, ?_⟩
      | refine ⟨⟨by decide, by decide, by decide⟩, ?_⟩
      | refine ⟨by decide, ?_⟩
      | refine ⟨(by show (0 : Int) < _; decide), ?_⟩
      | refine ⟨rfl, ?_⟩
      | refine ⟨⟨_, rfl⟩, ?_⟩
      | refine ⟨_, rfl, rfl, trivial, ?_⟩
      | refine ⟨_, _, rfl, ?_⟩))
    refine ⟨_, _, _, _, false, rfl, .ty _, Dp.ty hy', isi_e "tuple" "list" false rfl (by decide +kernel), ?_⟩
    (repeat (first
      | refine ⟨_, rfl, ?_⟩
      | refine ⟨_, _, rfl, rfl, ?_⟩
      | refine Or.inl ⟨_, rfl, ?_⟩
      | refine Or.inr ⟨_, rfl, ?_⟩
      | refine ⟨Or.inl ⟨by decide, by decide⟩, ?_⟩
      | refine ⟨Or.inr ⟨by decide, by decide⟩, ?_⟩
      | refine ⟨⟨by decide, by decide⟩, ?_⟩
      | refine ⟨⟨by decide, by decide, by decide⟩, ?_⟩
      | refine ⟨by decide, ?_⟩
      | refine ⟨(by show (0 : Int) < _; decide), ?_⟩
      | refine ⟨rfl, ?_⟩
      | refine ⟨⟨_, rfl⟩, ?_⟩
      | refine ⟨_, rfl, rfl, trivial, ?_⟩
      | refine ⟨_, _, rfl, ?_⟩))
    refine ⟨a, _, rfl, .inr hX, _, rfl, b, _, rfl, .inr hY, rfl, ?_⟩
    (repeat (first
      | refine ⟨_, rfl, ?_⟩
      | refine ⟨_, _, rfl, rfl, ?_⟩
      | refine Or.inl ⟨_, rfl, ?_⟩
      | refine Or.inr ⟨_, rfl, ?_⟩
      | refine ⟨Or.inl ⟨by decide, by decide⟩, ?_⟩
      | refine ⟨Or.inr ⟨by decide, by decide⟩, ?_⟩
      | refine ⟨⟨by decide, by decide⟩, ?_⟩
      | refine ⟨⟨by decide, by decide, by decide⟩, ?_⟩
      | refine ⟨by decide, ?_⟩
      | refine ⟨(by show (0 : Int) < _; decide), ?_⟩
      | refine ⟨rfl, ?_⟩
      | refine ⟨⟨_, rfl⟩, ?_⟩
      | refine ⟨_, rfl, rfl, trivial, ?_⟩
      | refine ⟨_, _, rfl, ?_⟩))
    refine iteNS (by rw [lx, ly]) ?_
    refine ⟨_, rfl, b, _, rfl, .inr hY, _, rfl, by omega, by omega, ?_⟩
    have en : ((ys.length : Nat) : Int).toNat = ds.length := by rw [ly]; rfl
    rw [en]
    refine for_range (lo := 0) (n := ds.length) (fun j σ H' => ∃ (y2 : Option V), σ = [some (.ref a), some (.ref b), y2] ∧ H' = H) ⟨_, rfl, rfl⟩ ?_ ?_
    · rintro j σ H' hj ⟨y2, rfl, rfl⟩
      obtain ⟨u, v, d, eu, ev, du, dv, ds'⟩ := seq_equal hxs hys hsh j hj
      have e0 : (0 : Int) + (j : Int) = (j : Int) := Int.zero_add _
      rw [e0]
      refine ⟨_, rfl, _, rfl, .inr ⟨a, _, _, _, rfl, rfl, hX, atI_nat eu, ?_⟩⟩
      refine ⟨_, rfl, _, rfl, .inr ⟨b, _, _, _, rfl, rfl, hY, atI_nat ev, ?_⟩⟩
      refine ⟨n, rfl, u, v, d, rfl, du, dv, ds', ?_⟩
      refine ⟨_, rfl, ?_⟩
      refine ifF ?_
      exact ⟨_, rfl, rfl⟩
    · rintro σ H' ⟨y2, rfl, rfl⟩
      exact q
theorem ok_law_equal (T : Top K mg w) : ∀ n : Nat, FnOk P w K mg base CX0 (n + 1) T.a_law_equal T.d_law_equal ["actual", "due"] (sp_law_equal K n)
  | 0 => step_law_equal T 0 0 fun m h => by omega
  | n + 1 => step_law_equal T (n + 1) (n + 1) fun m h => by
    have e : m = n := by omega
    subst e
    exact ok_law_equal T m
end
end My

namespace My
open PySem PySem.Spec PyProof.Rows L2
section
variable {P : Program} {w : World} {K : PySem.W.Frag} {mg : Str → Option Value} {base : Heap}
theorem absN {n : Nat} : ((n : Nat) : Int).toNat = n := rfl
theorem bits_lt (n : Nat) : n < 2 ^ (Builtin.Int.intBits (n : Int)) := by
  unfold Builtin.Int.intBits
  split
  · rename_i h
    have e : n = 0 := by simpa using h
    omega
  · exact Nat.lt_log2_self
/-! ### _law_common -/
def sp_law_common : Sp := fun vs H Q _ => ∃ (a b : Nat), vs = [.int (a : Int), .int (b : Int)] ∧ b < 2 ^ 10000 ∧ Q (.int ((Nat.gcd a b : Nat) : Int)) H
theorem ok_law_common (T : Top K mg w) : FnOk P w K mg base CX0 1 T.a_law_common T.d_law_common ["one", "other"] sp_law_common := by
  refine T.F_law_common.ok sc_law_common (fun vs H Q E h => ?_) (fun cdv A outer s H vs Q E hr h => ?_)
  · obtain ⟨a, b, rfl, _⟩ := h
    rfl
  obtain ⟨a, b, rfl, hbd, q⟩ := h
  have hk : Builtin.Int.intBits (b : Int) ≤ 10000 := by
    unfold Builtin.Int.intBits
    split
    · omega
    · rename_i h
      have h0 : b ≠ 0 := by simpa using h
      have := (Nat.log2_lt h0).mpr hbd
      show b.log2 + 1 ≤ _
      omega
  have hlt := bits_lt b
  refine ⟨_, (pss_cons (ps_for PassesOwn.never rfl (pi_range1 (by rfl) T.z_range (pa_cons (pe_op op_add (pe_op op_mul pe_int (pe_bits (pv 1))) pe_int) pa_nil)) (pg_name (i := 2) sc_law_common.nd rfl (Or.inl rfl))
        (pss_cons (ps_if (pt_cmpR op_eq (pv 1) pe_int (nomark _))
        (pss_one ps_break)
        pss_nil)
      (pss_cons (ps_set (i := 3) sc_law_common.nd rfl (Or.inl rfl) (pe_op op_mod (pe_callTy call_int1 (by rfl) T.z_int (by decide +kernel) (pa_cons (pv 0) pa_nil)) (pv 1)))
      (pss_cons (ps_set (i := 0) sc_law_common.nd rfl (Or.inl rfl) (pv 1))
      (pss_one (ps_set (i := 1) sc_law_common.nd rfl (Or.inl rfl) (pv 3)))))))
      (pss_one (ps_ret (pv 0)))), ?_⟩
  (repeat (first
      | refine ⟨_, rfl, ?_⟩
      | refine ⟨_, _, rfl, rfl, ?_⟩
      | refine Or.inl ⟨_, rfl, ?_⟩
      | refine Or.inr ⟨_, rfl, ?_⟩
      | refine ⟨Or.inl ⟨by decide, by decide⟩, ?_⟩
      | refine ⟨Or.inr ⟨by decide, by decide⟩, ?_⟩
      | refine ⟨⟨by decide, by decide⟩, ?_⟩
      | refine ⟨⟨by decide, by decide, by decide⟩, ?_⟩
      | refine ⟨by decide, ?_⟩
      | refine ⟨(by show (0 : Int) < _; decide), ?_⟩
      | refine ⟨rfl, ?_⟩
      | refine ⟨⟨_, rfl⟩, ?_⟩
      | refine ⟨_, rfl, rfl, trivial, ?_⟩
      | refine ⟨_, _, rfl, ?_⟩))
  generalize hK : Builtin.Int.intBits (b : Int) = k at *
  refine ⟨by omega, by omega, ?_⟩
  have en : (2 * ((k : Nat) : Int) + 3).toNat = 2 * k + 3 := by omega
  rw [en]
  refine for_range (lo := 0) (n := 2 * k + 3) (fun j σ H' => ∃ (y2 y3 : Option V) (a' b' : Nat), σ = [some (.int (a' : Int)), some (.int (b' : Int)), y2, y3] ∧ H' = H ∧ Nat.gcd a' b' = Nat.gcd a b ∧ Euc a' b' (2 * k + 3 - j) ∧ j ≤ 2 * k + 3) ?_ ?_ ?_
  · exact ⟨_, _, a, b, rfl, rfl, rfl, Euc.start hlt (by omega), by omega⟩
  · rintro j σ H' hj ⟨y2, y3, a', b', rfl, rfl, hg, he, _⟩
    (repeat (first
      | refine ⟨_, rfl, ?_⟩
      | refine ⟨_, _, rfl, rfl, ?_⟩
      | refine Or.inl ⟨_, rfl, ?_⟩
      | refine Or.inr ⟨_, rfl, ?_⟩
      | refine ⟨Or.inl ⟨by decide, by decide⟩, ?_⟩
      | refine ⟨Or.inr ⟨by decide, by decide⟩, ?_⟩
      | refine ⟨⟨by decide, by decide⟩, ?_⟩
      | refine ⟨⟨by decide, by decide, by decide⟩, ?_⟩
      | refine ⟨by decide, ?_⟩
      | refine ⟨(by show (0 : Int) < _; decide), ?_⟩
      | refine ⟨rfl, ?_⟩
      | refine ⟨⟨_, rfl⟩, ?_⟩
      | refine ⟨_, rfl, rfl, trivial, ?_⟩
      | refine ⟨_, _, rfl, ?_⟩))
    refine ite_dec (fun c => ?_) (fun c => ?_)
    · have e0 : b' = 0 := by have := V.int.inj c; omega
      subst e0
      (repeat (first
      | refine ⟨_, rfl, ?_⟩
      | refine ⟨_, _, rfl, rfl, ?_⟩
      | refine Or.inl ⟨_, rfl, ?_⟩
      | refine Or.inr ⟨_, rfl, ?_⟩
      | refine ⟨Or.inl ⟨by decide, by decide⟩, ?_⟩
      | refine ⟨Or.inr ⟨by decide, by decide⟩, ?_⟩
      | refine ⟨⟨by decide, by decide⟩, ?_⟩
      | refine ⟨⟨by decide, by decide, by decide⟩, ?_⟩
      | refine ⟨by decide, ?_⟩
      | refine ⟨(by show (0 : Int) < _; decide), ?_⟩
      | refine ⟨rfl, ?_⟩
      | refine ⟨⟨_, rfl⟩, ?_⟩
      | refine ⟨_, rfl, rfl, trivial, ?_⟩
      | refine ⟨_, _, rfl, ?_⟩))
      rw [Nat.gcd_zero_right] at hg
      rw [hg]
      exact q
    · have e0 : b' ≠ 0 := fun z => c (by rw [z]; rfl)
      (repeat (first
      | refine ⟨_, rfl, ?_⟩
      | refine ⟨_, _, rfl, rfl, ?_⟩
      | refine Or.inl ⟨_, rfl, ?_⟩
      | refine Or.inr ⟨_, rfl, ?_⟩
      | refine ⟨Or.inl ⟨by decide, by decide⟩, ?_⟩
      | refine ⟨Or.inr ⟨by decide, by decide⟩, ?_⟩
      | refine ⟨⟨by decide, by decide⟩, ?_⟩
      | refine ⟨⟨by decide, by decide, by decide⟩, ?_⟩
      | refine ⟨by decide, ?_⟩
      | refine ⟨(by show (0 : Int) < _; decide), ?_⟩
      | refine ⟨rfl, ?_⟩
      | refine ⟨⟨_, rfl⟩, ?_⟩
      | refine ⟨_, rfl, rfl, trivial, ?_⟩
      | refine ⟨_, _, rfl, ?_⟩))
      refine ⟨by show (0 : Int) < _; omega, ?_⟩
      (repeat (first
      | refine ⟨_, rfl, ?_⟩
      | refine ⟨_, _, rfl, rfl, ?_⟩
      | refine Or.inl ⟨_, rfl, ?_⟩
      | refine Or.inr ⟨_, rfl, ?_⟩
      | refine ⟨Or.inl ⟨by decide, by decide⟩, ?_⟩
      | refine ⟨Or.inr ⟨by decide, by decide⟩, ?_⟩
      | refine ⟨⟨by decide, by decide⟩, ?_⟩
      | refine ⟨⟨by decide, by decide, by decide⟩, ?_⟩
      | refine ⟨by decide, ?_⟩
      | refine ⟨(by show (0 : Int) < _; decide), ?_⟩
      | refine ⟨rfl, ?_⟩
      | refine ⟨⟨_, rfl⟩, ?_⟩
      | refine ⟨_, rfl, rfl, trivial, ?_⟩
      | refine ⟨_, _, rfl, ?_⟩))
      refine ⟨_, _, b', a' % b', rfl, rfl, ?_, ?_, by omega⟩
      · rw [← hg, Nat.gcd_comm a' b', Nat.gcd_rec b' a', Nat.gcd_comm]
      · have e1 : 2 * k + 3 - j = (2 * k + 3 - (j + 1)) + 1 := by omega
        rw [e1] at he
        exact he.next e0
  · rintro σ H' ⟨y2, y3, a', b', rfl, rfl, hg, he, _⟩
    exfalso
    rcases he.pos with z | z
    · omega
    · exact z
/-! ### _law_pair -/
def sp_law_pair : Sp := fun vs H Q _ => ∃ (t b : Int), vs = [.int t, .int b] ∧ 0 < b ∧ b.natAbs < 2 ^ 8000 ∧ ∀ p, H p = none → Q (.ref p) (upd H p (.tup [.int (red t b).1, .int (red t b).2]))
theorem ok_law_pair (T : Top K mg w) : FnOk P w K mg base CX0 2 T.a_law_pair T.d_law_pair ["top", "bottom"] sp_law_pair := by
  refine T.F_law_pair.ok sc_law_pair (fun vs H Q E h => ?_) (fun cdv A outer s H vs Q E hr h => ?_)
  · obtain ⟨t, b, rfl, _⟩ := h
    rfl
  obtain ⟨t, b, rfl, h0, hb, q⟩ := h
  refine ⟨_, (pss_cons (ps_set (i := 2) sc_law_pair.nd rfl (Or.inl rfl) (pe_call ((ok_law_common T).mono (by decide)) hr (by rfl) T.m_law_common T.F_law_common.kp T.b_law_common .nil pass0 (pa_cons (pe_callB call_abs (by rfl) T.z_abs (by decide +kernel) (pa_cons (pv 0) pa_nil)) (pa_cons (pv 1) pa_nil))))
      (pss_one (ps_ret (pe_tup (pa_cons (pe_op op_fdivW (pv 0) (pv 2)) (pa_cons (pe_op op_fdivW (pv 1) (pv 2)) pa_nil)))))), ?_⟩
  have ea : (if t < 0 then -t else t) = (t.natAbs : Int) := by split <;> omega
  have eb : b = (b.natAbs : Int) := by omega
  have g0 : 0 < Nat.gcd t.natAbs b.natAbs := gcd_pos h0
  have g1 : Nat.gcd t.natAbs b.natAbs < 2 ^ 8000 := Nat.lt_of_le_of_lt (Nat.gcd_le_right _ (by omega)) hb
  have gc : ∀ x : Int, CDivW x ((Nat.gcd t.natAbs b.natAbs : Nat) : Int) := fun x => wide_div (b := 8000) (by omega) (by rw [Int.natAbs_natCast]; exact g1) (by decide) (by decide)
  (repeat (first
      | refine ⟨_, rfl, ?_⟩
      | refine ⟨_, _, rfl, rfl, ?_⟩
      | refine Or.inl ⟨_, rfl, ?_⟩
      | refine Or.inr ⟨_, rfl, ?_⟩
      | refine ⟨Or.inl ⟨by decide, by decide⟩, ?_⟩
      | refine ⟨Or.inr ⟨by decide, by decide⟩, ?_⟩
      | refine ⟨⟨by decide, by decide⟩, ?_⟩
      | refine ⟨⟨by decide, by decide, by decide⟩, ?_⟩
      | refine ⟨by decide, ?_⟩
      | refine ⟨(by show (0 : Int) < _; decide), ?_⟩
      | refine ⟨rfl, ?_⟩
      | refine ⟨⟨_, rfl⟩, ?_⟩
      | refine ⟨_, rfl, rfl, trivial, ?_⟩
      | refine ⟨_, _, rfl, ?_⟩))
  rw [ea]
  refine ⟨t.natAbs, b.natAbs, by rw [← eb]; rfl, Nat.lt_of_lt_of_le hb (Nat.pow_le_pow_right (by decide) (by decide)), ?_⟩
  (repeat (first
      | refine ⟨_, rfl, ?_⟩
      | refine ⟨_, _, rfl, rfl, ?_⟩
      | refine Or.inl ⟨_, rfl, ?_⟩
      | refine Or.inr ⟨_, rfl, ?_⟩
      | refine ⟨Or.inl ⟨by decide, by decide⟩, ?_⟩
      | refine ⟨Or.inr ⟨by decide, by decide⟩, ?_⟩
      | refine ⟨⟨by decide, by decide⟩, ?_⟩
      | refine ⟨⟨by decide, by decide, by decide⟩, ?_⟩
      | refine ⟨by decide, ?_⟩
      | refine ⟨(by show (0 : Int) < _; decide), ?_⟩
      | refine ⟨rfl, ?_⟩
      | refine ⟨⟨_, rfl⟩, ?_⟩
      | refine ⟨_, rfl, rfl, trivial, ?_⟩
      | refine ⟨_, _, rfl, ?_⟩))
  refine ⟨gc _, ?_⟩
  (repeat (first
      | refine ⟨_, rfl, ?_⟩
      | refine ⟨_, _, rfl, rfl, ?_⟩
      | refine Or.inl ⟨_, rfl, ?_⟩
      | refine Or.inr ⟨_, rfl, ?_⟩
      | refine ⟨Or.inl ⟨by decide, by decide⟩, ?_⟩
      | refine ⟨Or.inr ⟨by decide, by decide⟩, ?_⟩
      | refine ⟨⟨by decide, by decide⟩, ?_⟩
      | refine ⟨⟨by decide, by decide, by decide⟩, ?_⟩
      | refine ⟨by decide, ?_⟩
      | refine ⟨(by show (0 : Int) < _; decide), ?_⟩
      | refine ⟨rfl, ?_⟩
      | refine ⟨⟨_, rfl⟩, ?_⟩
      | refine ⟨_, rfl, rfl, trivial, ?_⟩
      | refine ⟨_, _, rfl, ?_⟩))
  refine ⟨gc _, ?_⟩
  exact ⟨(by show 2 ≤ sizeLine; decide), q⟩
end
end My

namespace My
open PySem PySem.Spec PyProof.Rows L2
section
variable {P : Program} {w : World} {K : PySem.W.Frag} {mg : Str → Option Value} {base : Heap}
/-! ### numbers -/
def Nm (K : PySem.W.Frag) (H : Hp) (p : Addr) (x : Q2) : Prop := SqT K H p [.int x.1, .int x.2]
theorem Nm.new {H : Hp} {p : Addr} {x : Q2} (h : H p = some (.tup [.int x.1, .int x.2])) : Nm K H p x := SqT.of h
theorem Nm.sx {st : Addr} {H H' : Hp} {p : Addr} {x : Q2} (e : SX st H H') (h : Nm K H p x) : Nm K H' p x := e.seqT h
theorem Nm.same {H H' : Hp} {p : Addr} {x : Q2} (e : Same H H') (h : Nm K H p x) : Nm K H' p x := My.Same.sqT e h
theorem Nm.dp {H : Hp} {p : Addr} {x : Q2} (h : Nm K H p x) : Dp K H (.ref p) (.tuple [.int x.1, .int x.2]) := .tup h (.cons (.int _) (.cons (.int _) .nil))
theorem sh_pair {x y : Int} : Sh 1 (.tuple [.int x, .int y]) := ⟨by show 2 ≤ 1000000; decide, fun d hd => by
  simp only [List.mem_cons, List.not_mem_nil, or_false] at hd
  rcases hd with rfl | rfl <;> exact True.intro⟩
end
end My

namespace My
open PySem PySem.Spec PyProof.Rows L2
section
variable {P : Program} {w : World} {K : PySem.W.Frag} {mg : Str → Option Value} {base : Heap}
def gd2 (x : Q2) : Prop := ok2 x ∧ bd2 60 x
theorem pow_bd {a : Int} (h0 : 0 ≤ a) (h1 : a < 1000) (k : Nat) : 0 ≤ a ^ k ∧ a ^ k ≤ 999 ^ k := by
  obtain ⟨n, rfl⟩ : ∃ n : Nat, a = n := ⟨a.toNat, by omega⟩
  have h : n ^ k ≤ 999 ^ k := Nat.pow_le_pow_left (by omega) k
  exact ⟨by exact_mod_cast Nat.zero_le _, by exact_mod_cast h⟩
def sp_law_number (K : PySem.W.Frag) : Sp := fun vs H Q _ => ∃ (st : Addr) (n : Nat), vs = [.ref st] ∧ St H st n ∧ n < 2 ^ 40 ∧ ∀ p x n' H', SX st H H' → St H' st n' → n' ≤ n + 4 → Nm K H' p x → gd2 x → Q (.ref p) H'
theorem ok_law_number (T : Top K mg w) : FnOk P w K mg base CX0 3 T.a_law_number T.d_law_number ["state"] (sp_law_number K) := by
  refine T.F_law_number.ok sc_law_number (fun vs H Q E h => ?_) (fun cdv A outer s H vs Q E hr h => ?_)
  · obtain ⟨st, n, rfl, _⟩ := h
    rfl
  obtain ⟨st, n, rfl, hs, hn, q⟩ := h
  refine ⟨_, (pss_cons (ps_if (pt_cmpR op_eq (pe_call ((ok_law_take T).mono (by decide)) hr (by rfl) T.m_law_take T.F_law_take.kp T.b_law_take .nil pass0 (pa_cons (pv 0) (pa_cons pe_int pa_nil))) pe_int (nomark _))
        (pss_one (ps_ret (pe_call ((ok_law_pair T).mono (by decide)) hr (by rfl) T.m_law_pair T.F_law_pair.kp T.b_law_pair .nil pass0 (pa_cons (pe_op op_sub (pe_op op_pow (pe_call ((ok_law_take T).mono (by decide)) hr (by rfl) T.m_law_take T.F_law_take.kp T.b_law_take .nil pass0 (pa_cons (pv 0) (pa_cons pe_int pa_nil))) pe_int) (pe_op op_pow (pe_call ((ok_law_take T).mono (by decide)) hr (by rfl) T.m_law_take T.F_law_take.kp T.b_law_take .nil pass0 (pa_cons (pv 0) (pa_cons pe_int pa_nil))) pe_int)) (pa_cons (pe_op op_add pe_int (pe_op op_pow (pe_call ((ok_law_take T).mono (by decide)) hr (by rfl) T.m_law_take T.F_law_take.kp T.b_law_take .nil pass0 (pa_cons (pv 0) (pa_cons pe_int pa_nil))) pe_int)) pa_nil)))))
        pss_nil)
      (pss_one (ps_ret (pe_call ((ok_law_pair T).mono (by decide)) hr (by rfl) T.m_law_pair T.F_law_pair.kp T.b_law_pair .nil pass0 (pa_cons (pe_op op_sub (pe_call ((ok_law_take T).mono (by decide)) hr (by rfl) T.m_law_take T.F_law_take.kp T.b_law_take .nil pass0 (pa_cons (pv 0) (pa_cons pe_int pa_nil))) pe_int) (pa_cons (pe_op op_add pe_int (pe_call ((ok_law_take T).mono (by decide)) hr (by rfl) T.m_law_take T.F_law_take.kp T.b_law_take .nil pass0 (pa_cons (pv 0) (pa_cons pe_int pa_nil)))) pa_nil)))))), ?_⟩
  (repeat (first
      | refine ⟨_, rfl, ?_⟩
      | refine ⟨_, _, rfl, rfl, ?_⟩
      | refine Or.inl ⟨_, rfl, ?_⟩
      | refine Or.inr ⟨_, rfl, ?_⟩
      | refine ⟨Or.inl ⟨by decide, by decide⟩, ?_⟩
      | refine ⟨Or.inr ⟨by decide, by decide⟩, ?_⟩
      | refine ⟨⟨by decide, by decide⟩, ?_⟩
      | refine ⟨⟨by decide, by decide, by decide⟩, ?_⟩
      | refine ⟨by decide, ?_⟩
      | refine ⟨(by show (0 : Int) < _; decide), ?_⟩
      | refine ⟨rfl, ?_⟩
      | refine ⟨⟨_, rfl⟩, ?_⟩
      | refine ⟨_, rfl, rfl, trivial, ?_⟩
      | refine ⟨_, _, rfl, ?_⟩))
  refine ⟨st, n, 14, rfl, hs, by omega, by decide, fun v H1 h0 h1 x1 s1 => ?_⟩
  (repeat (first
      | refine ⟨_, rfl, ?_⟩
      | refine ⟨_, _, rfl, rfl, ?_⟩
      | refine Or.inl ⟨_, rfl, ?_⟩
      | refine Or.inr ⟨_, rfl, ?_⟩
      | refine ⟨Or.inl ⟨by decide, by decide⟩, ?_⟩
      | refine ⟨Or.inr ⟨by decide, by decide⟩, ?_⟩
      | refine ⟨⟨by decide, by decide⟩, ?_⟩
      | refine ⟨⟨by decide, by decide, by decide⟩, ?_⟩
      | refine ⟨by decide, ?_⟩
      | refine ⟨(by show (0 : Int) < _; decide), ?_⟩
      | refine ⟨rfl, ?_⟩
      | refine ⟨⟨_, rfl⟩, ?_⟩
      | refine ⟨_, rfl, rfl, trivial, ?_⟩
      | refine ⟨_, _, rfl, ?_⟩))
  refine ite_dec (fun c => ?_) (fun c => ?_)
  · (repeat (first
      | refine ⟨_, rfl, ?_⟩
      | refine ⟨_, _, rfl, rfl, ?_⟩
      | refine Or.inl ⟨_, rfl, ?_⟩
      | refine Or.inr ⟨_, rfl, ?_⟩
      | refine ⟨Or.inl ⟨by decide, by decide⟩, ?_⟩
      | refine ⟨Or.inr ⟨by decide, by decide⟩, ?_⟩
      | refine ⟨⟨by decide, by decide⟩, ?_⟩
      | refine ⟨⟨by decide, by decide, by decide⟩, ?_⟩
      | refine ⟨by decide, ?_⟩
      | refine ⟨(by show (0 : Int) < _; decide), ?_⟩
      | refine ⟨rfl, ?_⟩
      | refine ⟨⟨_, rfl⟩, ?_⟩
      | refine ⟨_, rfl, rfl, trivial, ?_⟩
      | refine ⟨_, _, rfl, ?_⟩))
    refine ⟨st, _, 1000, rfl, s1, by omega, by decide, fun a H2 a0 a1 x2 s2 => ?_⟩
    (repeat (first
      | refine ⟨_, rfl, ?_⟩
      | refine ⟨_, _, rfl, rfl, ?_⟩
      | refine Or.inl ⟨_, rfl, ?_⟩
      | refine Or.inr ⟨_, rfl, ?_⟩
      | refine ⟨Or.inl ⟨by decide, by decide⟩, ?_⟩
      | refine ⟨Or.inr ⟨by decide, by decide⟩, ?_⟩
      | refine ⟨⟨by decide, by decide⟩, ?_⟩
      | refine ⟨⟨by decide, by decide, by decide⟩, ?_⟩
      | refine ⟨by decide, ?_⟩
      | refine ⟨(by show (0 : Int) < _; decide), ?_⟩
      | refine ⟨rfl, ?_⟩
      | refine ⟨⟨_, rfl⟩, ?_⟩
      | refine ⟨_, rfl, rfl, trivial, ?_⟩
      | refine ⟨_, _, rfl, ?_⟩))
    refine ⟨⟨by decide, by decide, by omega⟩, ?_⟩
    (repeat (first
      | refine ⟨_, rfl, ?_⟩
      | refine ⟨_, _, rfl, rfl, ?_⟩
      | refine Or.inl ⟨_, rfl, ?_⟩
      | refine Or.inr ⟨_, rfl, ?_⟩
      | refine ⟨Or.inl ⟨by decide, by decide⟩, ?_⟩
      | refine ⟨Or.inr ⟨by decide, by decide⟩, ?_⟩
      | refine ⟨⟨by decide, by decide⟩, ?_⟩
      | refine ⟨⟨by decide, by decide, by decide⟩, ?_⟩
      | refine ⟨by decide, ?_⟩
      | refine ⟨(by show (0 : Int) < _; decide), ?_⟩
      | refine ⟨rfl, ?_⟩
      | refine ⟨⟨_, rfl⟩, ?_⟩
      | refine ⟨_, rfl, rfl, trivial, ?_⟩
      | refine ⟨_, _, rfl, ?_⟩))
    refine ⟨st, _, 1000, rfl, s2, by omega, by decide, fun b H3 b0 b1 x3 s3 => ?_⟩
    (repeat (first
      | refine ⟨_, rfl, ?_⟩
      | refine ⟨_, _, rfl, rfl, ?_⟩
      | refine Or.inl ⟨_, rfl, ?_⟩
      | refine Or.inr ⟨_, rfl, ?_⟩
      | refine ⟨Or.inl ⟨by decide, by decide⟩, ?_⟩
      | refine ⟨Or.inr ⟨by decide, by decide⟩, ?_⟩
      | refine ⟨⟨by decide, by decide⟩, ?_⟩
      | refine ⟨⟨by decide, by decide, by decide⟩, ?_⟩
      | refine ⟨by decide, ?_⟩
      | refine ⟨(by show (0 : Int) < _; decide), ?_⟩
      | refine ⟨rfl, ?_⟩
      | refine ⟨⟨_, rfl⟩, ?_⟩
      | refine ⟨_, rfl, rfl, trivial, ?_⟩
      | refine ⟨_, _, rfl, ?_⟩))
    refine ⟨⟨by decide, by decide, by omega⟩, ?_⟩
    (repeat (first
      | refine ⟨_, rfl, ?_⟩
      | refine ⟨_, _, rfl, rfl, ?_⟩
      | refine Or.inl ⟨_, rfl, ?_⟩
      | refine Or.inr ⟨_, rfl, ?_⟩
      | refine ⟨Or.inl ⟨by decide, by decide⟩, ?_⟩
      | refine ⟨Or.inr ⟨by decide, by decide⟩, ?_⟩
      | refine ⟨⟨by decide, by decide⟩, ?_⟩
      | refine ⟨⟨by decide, by decide, by decide⟩, ?_⟩
      | refine ⟨by decide, ?_⟩
      | refine ⟨(by show (0 : Int) < _; decide), ?_⟩
      | refine ⟨rfl, ?_⟩
      | refine ⟨⟨_, rfl⟩, ?_⟩
      | refine ⟨_, rfl, rfl, trivial, ?_⟩
      | refine ⟨_, _, rfl, ?_⟩))
    refine ⟨st, _, 1000, rfl, s3, by omega, by decide, fun c H4 c0 c1 x4 s4 => ?_⟩
    (repeat (first
      | refine ⟨_, rfl, ?_⟩
      | refine ⟨_, _, rfl, rfl, ?_⟩
      | refine Or.inl ⟨_, rfl, ?_⟩
      | refine Or.inr ⟨_, rfl, ?_⟩
      | refine ⟨Or.inl ⟨by decide, by decide⟩, ?_⟩
      | refine ⟨Or.inr ⟨by decide, by decide⟩, ?_⟩
      | refine ⟨⟨by decide, by decide⟩, ?_⟩
      | refine ⟨⟨by decide, by decide, by decide⟩, ?_⟩
      | refine ⟨by decide, ?_⟩
      | refine ⟨(by show (0 : Int) < _; decide), ?_⟩
      | refine ⟨rfl, ?_⟩
      | refine ⟨⟨_, rfl⟩, ?_⟩
      | refine ⟨_, rfl, rfl, trivial, ?_⟩
      | refine ⟨_, _, rfl, ?_⟩))
    refine ⟨⟨by decide, by decide, by omega⟩, ?_⟩
    (repeat (first
      | refine ⟨_, rfl, ?_⟩
      | refine ⟨_, _, rfl, rfl, ?_⟩
      | refine Or.inl ⟨_, rfl, ?_⟩
      | refine Or.inr ⟨_, rfl, ?_⟩
      | refine ⟨Or.inl ⟨by decide, by decide⟩, ?_⟩
      | refine ⟨Or.inr ⟨by decide, by decide⟩, ?_⟩
      | refine ⟨⟨by decide, by decide⟩, ?_⟩
      | refine ⟨⟨by decide, by decide, by decide⟩, ?_⟩
      | refine ⟨by decide, ?_⟩
      | refine ⟨(by show (0 : Int) < _; decide), ?_⟩
      | refine ⟨rfl, ?_⟩
      | refine ⟨⟨_, rfl⟩, ?_⟩
      | refine ⟨_, rfl, rfl, trivial, ?_⟩
      | refine ⟨_, _, rfl, ?_⟩))
    have ba := pow_bd a0 a1 4
    have bb := pow_bd b0 b1 3
    have bc := pow_bd c0 c1 3
    have hb0 : 0 < 1 + c ^ 3 := by omega
    refine ⟨hb0, Nat.lt_of_lt_of_le (show (1 + c ^ 3 : Int).natAbs < 2 ^ 60 by omega) (Nat.pow_le_pow_right (by decide) (by decide)), fun p hp => ?_⟩
    have s5 := s4.new (o := .tup [.int (red (a ^ 4 - b ^ 3) (1 + c ^ 3)).1, .int (red (a ^ 4 - b ^ 3) (1 + c ^ 3)).2]) hp
    exact q p (red (a ^ 4 - b ^ 3) (1 + c ^ 3)) _ _ ((((x1.trans x2).trans x3).trans x4).trans (SX.new hp)) s5 (by omega) (Nm.new upd_same) ⟨red_ok hb0, red_bd hb0 (by omega) (by omega)⟩
  · (repeat (first
      | refine ⟨_, rfl, ?_⟩
      | refine ⟨_, _, rfl, rfl, ?_⟩
      | refine Or.inl ⟨_, rfl, ?_⟩
      | refine Or.inr ⟨_, rfl, ?_⟩
      | refine ⟨Or.inl ⟨by decide, by decide⟩, ?_⟩
      | refine ⟨Or.inr ⟨by decide, by decide⟩, ?_⟩
      | refine ⟨⟨by decide, by decide⟩, ?_⟩
      | refine ⟨⟨by decide, by decide, by decide⟩, ?_⟩
      | refine ⟨by decide, ?_⟩
      | refine ⟨(by show (0 : Int) < _; decide), ?_⟩
      | refine ⟨rfl, ?_⟩
      | refine ⟨⟨_, rfl⟩, ?_⟩
      | refine ⟨_, rfl, rfl, trivial, ?_⟩
      | refine ⟨_, _, rfl, ?_⟩))
    refine ⟨st, _, 9, rfl, s1, by omega, by decide, fun a H2 a0 a1 x2 s2 => ?_⟩
    (repeat (first
      | refine ⟨_, rfl, ?_⟩
      | refine ⟨_, _, rfl, rfl, ?_⟩
      | refine Or.inl ⟨_, rfl, ?_⟩
      | refine Or.inr ⟨_, rfl, ?_⟩
      | refine ⟨Or.inl ⟨by decide, by decide⟩, ?_⟩
      | refine ⟨Or.inr ⟨by decide, by decide⟩, ?_⟩
      | refine ⟨⟨by decide, by decide⟩, ?_⟩
      | refine ⟨⟨by decide, by decide, by decide⟩, ?_⟩
      | refine ⟨by decide, ?_⟩
      | refine ⟨(by show (0 : Int) < _; decide), ?_⟩
      | refine ⟨rfl, ?_⟩
      | refine ⟨⟨_, rfl⟩, ?_⟩
      | refine ⟨_, rfl, rfl, trivial, ?_⟩
      | refine ⟨_, _, rfl, ?_⟩))
    refine ⟨st, _, 3, rfl, s2, by omega, by decide, fun b H3 b0 b1 x3 s3 => ?_⟩
    (repeat (first
      | refine ⟨_, rfl, ?_⟩
      | refine ⟨_, _, rfl, rfl, ?_⟩
      | refine Or.inl ⟨_, rfl, ?_⟩
      | refine Or.inr ⟨_, rfl, ?_⟩
      | refine ⟨Or.inl ⟨by decide, by decide⟩, ?_⟩
      | refine ⟨Or.inr ⟨by decide, by decide⟩, ?_⟩
      | refine ⟨⟨by decide, by decide⟩, ?_⟩
      | refine ⟨⟨by decide, by decide, by decide⟩, ?_⟩
      | refine ⟨by decide, ?_⟩
      | refine ⟨(by show (0 : Int) < _; decide), ?_⟩
      | refine ⟨rfl, ?_⟩
      | refine ⟨⟨_, rfl⟩, ?_⟩
      | refine ⟨_, rfl, rfl, trivial, ?_⟩
      | refine ⟨_, _, rfl, ?_⟩))
    have hb0 : 0 < 1 + b := by omega
    refine ⟨hb0, Nat.lt_of_lt_of_le (show (1 + b : Int).natAbs < 2 ^ 60 by omega) (Nat.pow_le_pow_right (by decide) (by decide)), fun p hp => ?_⟩
    have s5 := s3.new (o := .tup [.int (red (a - 4) (1 + b)).1, .int (red (a - 4) (1 + b)).2]) hp
    exact q p (red (a - 4) (1 + b)) _ _ (((x1.trans x2).trans x3).trans (SX.new hp)) s5 (by omega) (Nm.new upd_same) ⟨red_ok hb0, red_bd hb0 (by omega) (by omega)⟩
end
end My

namespace My
open PySem PySem.Spec PyProof.Rows L2
theorem mulW {x y : Int} (hx : x.natAbs < 2 ^ 1000) (hy : y.natAbs < 2 ^ 1000) : CMulW x y := wide_mul (a := 1000) (b := 1000) hx hy (by decide) (by decide) (by decide)
theorem bd2_mono {n m : Nat} {x : Q2} (h : bd2 n x) (hm : n ≤ m) : bd2 m x := ⟨Nat.lt_of_lt_of_le h.1 (Nat.pow_le_pow_right (by decide) hm), Nat.lt_of_lt_of_le h.2 (Nat.pow_le_pow_right (by decide) hm)⟩
/-! ### lists of numbers -/
def selA (f : Q2 → Bool) : List Addr → List Q2 → List Addr
  | p :: ps, x :: xs => if f x = true then p :: selA f ps xs else selA f ps xs
  | _, _ => []
theorem selA_paired {R : Addr → Q2 → Prop} (f : Q2 → Bool) : ∀ {ps : List Addr} {xs : List Q2}, Paired R ps xs → Paired R (selA f ps xs) (xs.filter f)
  | _, _, .nil => .nil
  | _, _, .cons (a := p) (b := x) r t => by
    unfold selA
    rw [List.filter_cons]
    by_cases h : f x = true
    · rw [if_pos h, if_pos h]
      exact .cons r (selA_paired f t)
    · rw [if_neg h, if_neg h]
      exact selA_paired f t
theorem selA_step (f : Q2 → Bool) : ∀ {ps : List Addr} {xs : List Q2} {i : Nat} {p : Addr} {x : Q2}, ps[i]? = some p → xs[i]? = some x →
    selA f (ps.take (i + 1)) (xs.take (i + 1)) = selA f (ps.take i) (xs.take i) ++ (if f x = true then [p] else [])
  | [], _, _, _, _, h, _ => by simp at h
  | _ :: _, [], _, _, _, _, h => by simp at h
  | q :: ps, y :: xs, 0, p, x, h1, h2 => by
    simp at h1 h2
    subst h1 h2
    simp only [List.take, selA]
    split <;> rfl
  | q :: ps, y :: xs, i + 1, p, x, h1, h2 => by
    have ih := selA_step f (ps := ps) (xs := xs) (i := i) (by simpa using h1) (by simpa using h2)
    simp only [List.take_succ_cons, selA]
    rw [ih]
    split <;> rfl
theorem selA_all (f : Q2 → Bool) {ps : List Addr} {xs : List Q2} {n : Nat} (h1 : ps.length = n) (h2 : xs.length = n) : selA f (ps.take n) (xs.take n) = selA f ps xs := by
  rw [List.take_of_length_le (by omega), List.take_of_length_le (by omega)]
theorem selA_le (f : Q2 → Bool) : ∀ (ps : List Addr) (xs : List Q2), (selA f ps xs).length ≤ ps.length
  | [], _ => by simp [selA]
  | _ :: _, [] => by simp [selA]
  | p :: ps, x :: xs => by
    have ih := selA_le f ps xs
    unfold selA
    split <;> simp <;> omega
section
variable {P : Program} {w : World} {K : PySem.W.Frag} {mg : Str → Option Value} {base : Heap}
theorem Paired.at {R : Addr → Q2 → Prop} : ∀ {ps : List Addr} {xs : List Q2} {i : Nat} {p : Addr}, Paired R ps xs → ps[i]? = some p → ∃ x, xs[i]? = some x ∧ R p x
  | _, _, _, _, .nil, h => by simp at h
  | _, _, 0, _, .cons r _, h => by simp at h; subst h; exact ⟨_, rfl, r⟩
  | _, _, i + 1, p, .cons _ t, h => by
    obtain ⟨x, e, r⟩ := Paired.at (i := i) (p := p) t (by simpa using h)
    exact ⟨x, by simpa using e, r⟩
theorem Paired.at' {R : Addr → Q2 → Prop} {ps : List Addr} {xs : List Q2} {i : Nat} {x : Q2} (r : Paired R ps xs) (h : xs[i]? = some x) : ∃ p, ps[i]? = some p ∧ R p x := by
  have hl := Paired.length r
  have hi := (List.getElem?_eq_some_iff.mp h).1
  have e : ps[i]? = some ps[i] := List.getElem?_eq_getElem (by omega)
  obtain ⟨y, ey, ry⟩ := Paired.at r e
  rw [h] at ey
  cases ey
  exact ⟨_, e, ry⟩
theorem Paired.mono {R R' : Addr → Q2 → Prop} (f : ∀ p x, R p x → R' p x) : ∀ {ps : List Addr} {xs : List Q2}, Paired R ps xs → Paired R' ps xs
  | _, _, .nil => .nil
  | _, _, .cons r t => .cons (f _ _ r) (Paired.mono f t)
theorem Paired.app {R : Addr → Q2 → Prop} : ∀ {ps ps' : List Addr} {xs xs' : List Q2}, Paired R ps xs → Paired R ps' xs' → Paired R (ps ++ ps') (xs ++ xs')
  | _, _, _, _, .nil, s => s
  | _, _, _, _, .cons r t, s => .cons r (Paired.app t s)
def Am (K : PySem.W.Frag) (H : Hp) (t : Addr) (xs : List Q2) : Prop := ∃ ps : List Addr, SqT K H t (ps.map V.ref) ∧ Paired (Nm K H) ps xs
theorem Am.sx {st : Addr} {H H' : Hp} {t : Addr} {xs : List Q2} (e : SX st H H') (h : Am K H t xs) : Am K H' t xs := by
  obtain ⟨ps, h1, h2⟩ := h
  exact ⟨ps, e.seqT h1, Paired.mono (fun _ _ q => Nm.sx e q) h2⟩
theorem Am.same {H H' : Hp} {t : Addr} {xs : List Q2} (e : L2.Same H H') (h : Am K H t xs) : Am K H' t xs := by
  obtain ⟨ps, h1, h2⟩ := h
  exact ⟨ps, My.Same.sqT e h1, Paired.mono (fun _ _ q => Nm.same e q) h2⟩
theorem ref_at {ps : List Addr} {i : Nat} {x : V} (h : (ps.map V.ref)[i]? = some x) : ∃ p, x = .ref p ∧ ps[i]? = some p := by
  rw [List.getElem?_map] at h
  cases e : ps[i]? with
  | none => rw [e] at h; cases h
  | some p => rw [e] at h; exact ⟨p, (Option.some.inj h).symm, rfl⟩
/-! ### _law_less, less -/
def sp_less2 (K : PySem.W.Frag) : Sp := fun vs H Q _ => ∃ (p q : Addr) (x y : Q2), vs = [.ref p, .ref q] ∧ Nm K H p x ∧ Nm K H q y ∧ bd2 1000 x ∧ bd2 1000 y ∧ Q (.bl (decide (lt2 x y))) H
theorem ok_law_less (T : Top K mg w) : FnOk P w K mg base CX0 1 T.a_law_less T.d_law_less ["one", "other"] (sp_less2 K) := by
  refine T.F_law_less.ok sc_law_less (fun vs H Q E h => ?_) (fun cdv A outer s H vs Q E hr h => ?_)
  · obtain ⟨p, q, x, y, rfl, _⟩ := h
    rfl
  obtain ⟨p, q, x, y, rfl, hx, hy, bx, b_y, k⟩ := h
  refine ⟨_, (pss_one (ps_ret (pe_cmpR op_lt (pe_op op_mulW (pe_ix ix_tup (pv 0) pe_int (fun _ _ => rfl)) (pe_ix ix_tup (pv 1) pe_int (fun _ _ => rfl))) (pe_op op_mulW (pe_ix ix_tup (pv 1) pe_int (fun _ _ => rfl)) (pe_ix ix_tup (pv 0) pe_int (fun _ _ => rfl))) (nomark _)))), ?_⟩
  refine ⟨_, rfl, p, _, 0, _, rfl, rfl, hx, atI_nat (j := 0) rfl, ?_⟩
  refine ⟨_, rfl, q, _, 1, _, rfl, rfl, hy, atI_nat (j := 1) rfl, ?_⟩
  refine ⟨_, _, rfl, rfl, mulW bx.1 b_y.2, ?_⟩
  refine ⟨_, rfl, q, _, 0, _, rfl, rfl, hy, atI_nat (j := 0) rfl, ?_⟩
  refine ⟨_, rfl, p, _, 1, _, rfl, rfl, hx, atI_nat (j := 1) rfl, ?_⟩
  refine ⟨_, _, rfl, rfl, mulW b_y.1 bx.2, ?_⟩
  refine ⟨_, _, rfl, rfl, ?_⟩
  exact k
theorem ok_less (T : Top K mg w) : FnOk P w K mg base CX0 1 T.a_less T.d_less ["a", "b"] (sp_less2 K) := by
  refine T.F_less.ok sc_less (fun vs H Q E h => ?_) (fun cdv A outer s H vs Q E hr h => ?_)
  · obtain ⟨p, q, x, y, rfl, _⟩ := h
    rfl
  obtain ⟨p, q, x, y, rfl, hx, hy, bx, b_y, k⟩ := h
  refine ⟨_, (pss_one (ps_ret (pe_cmpR op_lt (pe_op op_mulW (pe_ix ix_tup (pv 0) pe_int (fun _ _ => rfl)) (pe_ix ix_tup (pv 1) pe_int (fun _ _ => rfl))) (pe_op op_mulW (pe_ix ix_tup (pv 1) pe_int (fun _ _ => rfl)) (pe_ix ix_tup (pv 0) pe_int (fun _ _ => rfl))) (nomark _)))), ?_⟩
  refine ⟨_, rfl, p, _, 0, _, rfl, rfl, hx, atI_nat (j := 0) rfl, ?_⟩
  refine ⟨_, rfl, q, _, 1, _, rfl, rfl, hy, atI_nat (j := 1) rfl, ?_⟩
  refine ⟨_, _, rfl, rfl, mulW bx.1 b_y.2, ?_⟩
  refine ⟨_, rfl, q, _, 0, _, rfl, rfl, hy, atI_nat (j := 0) rfl, ?_⟩
  refine ⟨_, rfl, p, _, 1, _, rfl, rfl, hx, atI_nat (j := 1) rfl, ?_⟩
  refine ⟨_, _, rfl, rfl, mulW b_y.1 bx.2, ?_⟩
  refine ⟨_, _, rfl, rfl, ?_⟩
  exact k
/-! ### _law_with -/
def BdL (n : Nat) (xs : List Q2) : Prop := ∀ x ∈ xs, bd2 n x
def sp_law_with (K : PySem.W.Frag) : Sp := fun vs H Q _ => ∃ (t q : Addr) (xs : List Q2) (y : Q2), vs = [.ref t, .ref q] ∧ Am K H t xs ∧ Nm K H q y ∧ BdL 1000 xs ∧ bd2 1000 y ∧ xs.length ≤ 1000 ∧ ∀ p H', L2.Same H H' → Am K H' p (with2 xs y) → Q (.ref p) H'
theorem ok_law_with (T : Top K mg w) : FnOk P w K mg base CX0 2 T.a_law_with T.d_law_with ["among", "number"] (sp_law_with K) := by
  refine T.F_law_with.ok sc_law_with (fun vs H Q E h => ?_) (fun cdv A outer s H vs Q E hr h => ?_)
  · obtain ⟨t, q, x, y, rfl, _⟩ := h
    rfl
  obtain ⟨t, q, xs, y, rfl, ⟨ps, hT, hP⟩, hy, bx, b_y, hl, k⟩ := h
  have el := Paired.length hP
  refine ⟨_, (pss_cons (ps_setLc (i := 2) (own := [("one", 4)]) (g := gName 4) (by rfl) sc_law_with.nd rfl rfl (sw_true rfl rfl rfl (by decide +kernel)) (pi_tup (pv 0)) (blkOk_by (own := [("one", 4)]) (N := ["among", "number", "lower", "higher", "one"]) (sc := defScope s_law_with) (by decide +kernel)) (fun _ _ _ _ _ => (pg_name (i := 4) sc_law_with.nd rfl (Or.inl rfl))) (fun _ _ _ _ _ => pts_one (pt_val (pe_call ((ok_law_less T).mono (by decide)) hr (by rfl) T.m_law_less T.F_law_less.kp T.b_law_less .nil pass0 (pa_cons (pv 4) (pa_cons (pv 1) pa_nil))))) (fun _ _ _ _ _ => (pv 4)))
      (pss_cons (ps_setLc (i := 3) (own := [("one", 4)]) (g := gName 4) (by rfl) sc_law_with.nd rfl rfl (sw_true rfl rfl rfl (by decide +kernel)) (pi_tup (pv 0)) (blkOk_by (own := [("one", 4)]) (N := ["among", "number", "lower", "higher", "one"]) (sc := defScope s_law_with) (by decide +kernel)) (fun _ _ _ _ _ => (pg_name (i := 4) sc_law_with.nd rfl (Or.inl rfl))) (fun _ _ _ _ _ => pts_one (pt_val (pe_call ((ok_law_less T).mono (by decide)) hr (by rfl) T.m_law_less T.F_law_less.kp T.b_law_less .nil pass0 (pa_cons (pv 1) (pa_cons (pv 4) pa_nil))))) (fun _ _ _ _ _ => (pv 4)))
      (pss_one (ps_ret (pe_callTy call_tuple_of (by rfl) T.z_tuple (by decide +kernel) (pa_cons (pe_op op_cat (pe_op op_cat (pv 2) (pe_lst (pa_cons (pv 1) pa_nil))) (pv 3)) pa_nil)))))), ?_⟩
  refine ⟨_, rfl, t, rfl, ⟨_, hT⟩, fun D hD => ?_⟩
  have sD : ∀ o, L2.Same H (upd H D o) := fun o => same_upd hD
  refine lc_tup (xs := ps.map V.ref) (fun i H' => H' = upd H D (.lst ((selA (fun z => decide (lt2 z y)) (ps.take i) (xs.take i)).map V.ref))) rfl ?_ ?_ ?_
  · rintro i H' _ rfl
    exact My.Same.sqT (sD _) hT
  · rintro i x H' hx rfl
    obtain ⟨p, rfl, hp⟩ := ref_at hx
    obtain ⟨z, hz, nz⟩ := Paired.at hP hp
    refine ⟨rfl, ?_⟩
    (repeat (first
      | refine ⟨_, rfl, ?_⟩
      | refine ⟨_, _, rfl, rfl, ?_⟩
      | refine Or.inl ⟨_, rfl, ?_⟩
      | refine Or.inr ⟨_, rfl, ?_⟩
      | refine ⟨Or.inl ⟨by decide, by decide⟩, ?_⟩
      | refine ⟨Or.inr ⟨by decide, by decide⟩, ?_⟩
      | refine ⟨⟨by decide, by decide⟩, ?_⟩
      | refine ⟨⟨by decide, by decide, by decide⟩, ?_⟩
      | refine ⟨by decide, ?_⟩
      | refine ⟨(by show (0 : Int) < _; decide), ?_⟩
      | refine ⟨rfl, ?_⟩
      | refine ⟨⟨_, rfl⟩, ?_⟩
      | refine ⟨_, rfl, rfl, trivial, ?_⟩
      | refine ⟨_, _, rfl, ?_⟩))
    refine ⟨p, q, z, y, rfl, Nm.same (sD _) nz, Nm.same (sD _) hy, bx z (List.mem_of_getElem? hz), b_y, ?_⟩
    (repeat (first
      | refine ⟨_, rfl, ?_⟩
      | refine ⟨_, _, rfl, rfl, ?_⟩
      | refine Or.inl ⟨_, rfl, ?_⟩
      | refine Or.inr ⟨_, rfl, ?_⟩
      | refine ⟨Or.inl ⟨by decide, by decide⟩, ?_⟩
      | refine ⟨Or.inr ⟨by decide, by decide⟩, ?_⟩
      | refine ⟨⟨by decide, by decide⟩, ?_⟩
      | refine ⟨⟨by decide, by decide, by decide⟩, ?_⟩
      | refine ⟨by decide, ?_⟩
      | refine ⟨(by show (0 : Int) < _; decide), ?_⟩
      | refine ⟨rfl, ?_⟩
      | refine ⟨⟨_, rfl⟩, ?_⟩
      | refine ⟨_, rfl, rfl, trivial, ?_⟩
      | refine ⟨_, _, rfl, ?_⟩))
    refine ite_dec (fun c => ?_) (fun c => ?_)
    · (repeat (first
      | refine ⟨_, rfl, ?_⟩
      | refine ⟨_, _, rfl, rfl, ?_⟩
      | refine Or.inl ⟨_, rfl, ?_⟩
      | refine Or.inr ⟨_, rfl, ?_⟩
      | refine ⟨Or.inl ⟨by decide, by decide⟩, ?_⟩
      | refine ⟨Or.inr ⟨by decide, by decide⟩, ?_⟩
      | refine ⟨⟨by decide, by decide⟩, ?_⟩
      | refine ⟨⟨by decide, by decide, by decide⟩, ?_⟩
      | refine ⟨by decide, ?_⟩
      | refine ⟨(by show (0 : Int) < _; decide), ?_⟩
      | refine ⟨rfl, ?_⟩
      | refine ⟨⟨_, rfl⟩, ?_⟩
      | refine ⟨_, rfl, rfl, trivial, ?_⟩
      | refine ⟨_, _, rfl, ?_⟩))
      refine ⟨_, upd_same, smallL (by rw [List.length_map]; have := selA_le (fun z => decide (lt2 z y)) (ps.take i) (xs.take i); rw [List.length_take] at this; omega), ?_⟩
      rw [upd_upd, selA_step _ hp hz, if_pos (decide_eq_true c), List.map_append]
      rfl
    · show upd H D _ = upd H D _
      rw [selA_step _ hp hz, if_neg (fun q => c (of_decide_eq_true q)), List.append_nil]
  rintro _ rfl
  rw [List.length_map, selA_all _ rfl el.symm]
  have pl := selA_paired (fun z => decide (lt2 z y)) hP
  have ll := selA_le (fun z => decide (lt2 z y)) ps xs
  generalize hL : selA (fun z => decide (lt2 z y)) ps xs = lo at *
  generalize hH1 : upd H D (.lst (lo.map V.ref)) = H1
  have s1 : L2.Same H H1 := by rw [← hH1]; exact sD _
  have eD : H1 D = some (.lst (lo.map V.ref)) := by rw [← hH1]; exact upd_same
  have hT1 := My.Same.sqT s1 hT
  refine ⟨_, rfl, t, rfl, ⟨_, hT1⟩, fun D2 hD2 => ?_⟩
  have sD2 : ∀ o, L2.Same H1 (upd H1 D2 o) := fun o => same_upd hD2
  refine lc_tup (xs := ps.map V.ref) (fun i H' => H' = upd H1 D2 (.lst ((selA (fun z => decide (lt2 y z)) (ps.take i) (xs.take i)).map V.ref))) rfl ?_ ?_ ?_
  · rintro i H' _ rfl
    exact My.Same.sqT (sD2 _) hT1
  · rintro i x H' hx rfl
    obtain ⟨p, rfl, hp⟩ := ref_at hx
    obtain ⟨z, hz, nz⟩ := Paired.at hP hp
    refine ⟨rfl, ?_⟩
    (repeat (first
      | refine ⟨_, rfl, ?_⟩
      | refine ⟨_, _, rfl, rfl, ?_⟩
      | refine Or.inl ⟨_, rfl, ?_⟩
      | refine Or.inr ⟨_, rfl, ?_⟩
      | refine ⟨Or.inl ⟨by decide, by decide⟩, ?_⟩
      | refine ⟨Or.inr ⟨by decide, by decide⟩, ?_⟩
      | refine ⟨⟨by decide, by decide⟩, ?_⟩
      | refine ⟨⟨by decide, by decide, by decide⟩, ?_⟩
      | refine ⟨by decide, ?_⟩
      | refine ⟨(by show (0 : Int) < _; decide), ?_⟩
      | refine ⟨rfl, ?_⟩
      | refine ⟨⟨_, rfl⟩, ?_⟩
      | refine ⟨_, rfl, rfl, trivial, ?_⟩
      | refine ⟨_, _, rfl, ?_⟩))
    refine ⟨q, p, y, z, rfl, Nm.same (sD2 _) (Nm.same s1 hy), Nm.same (sD2 _) (Nm.same s1 nz), b_y, bx z (List.mem_of_getElem? hz), ?_⟩
    (repeat (first
      | refine ⟨_, rfl, ?_⟩
      | refine ⟨_, _, rfl, rfl, ?_⟩
      | refine Or.inl ⟨_, rfl, ?_⟩
      | refine Or.inr ⟨_, rfl, ?_⟩
      | refine ⟨Or.inl ⟨by decide, by decide⟩, ?_⟩
      | refine ⟨Or.inr ⟨by decide, by decide⟩, ?_⟩
      | refine ⟨⟨by decide, by decide⟩, ?_⟩
      | refine ⟨⟨by decide, by decide, by decide⟩, ?_⟩
      | refine ⟨by decide, ?_⟩
      | refine ⟨(by show (0 : Int) < _; decide), ?_⟩
      | refine ⟨rfl, ?_⟩
      | refine ⟨⟨_, rfl⟩, ?_⟩
      | refine ⟨_, rfl, rfl, trivial, ?_⟩
      | refine ⟨_, _, rfl, ?_⟩))
    refine ite_dec (fun c => ?_) (fun c => ?_)
    · (repeat (first
      | refine ⟨_, rfl, ?_⟩
      | refine ⟨_, _, rfl, rfl, ?_⟩
      | refine Or.inl ⟨_, rfl, ?_⟩
      | refine Or.inr ⟨_, rfl, ?_⟩
      | refine ⟨Or.inl ⟨by decide, by decide⟩, ?_⟩
      | refine ⟨Or.inr ⟨by decide, by decide⟩, ?_⟩
      | refine ⟨⟨by decide, by decide⟩, ?_⟩
      | refine ⟨⟨by decide, by decide, by decide⟩, ?_⟩
      | refine ⟨by decide, ?_⟩
      | refine ⟨(by show (0 : Int) < _; decide), ?_⟩
      | refine ⟨rfl, ?_⟩
      | refine ⟨⟨_, rfl⟩, ?_⟩
      | refine ⟨_, rfl, rfl, trivial, ?_⟩
      | refine ⟨_, _, rfl, ?_⟩))
      refine ⟨_, upd_same, smallL (by rw [List.length_map]; have := selA_le (fun z => decide (lt2 y z)) (ps.take i) (xs.take i); rw [List.length_take] at this; omega), ?_⟩
      rw [upd_upd, selA_step _ hp hz, if_pos (decide_eq_true c), List.map_append]
      rfl
    · show upd H1 D2 _ = upd H1 D2 _
      rw [selA_step _ hp hz, if_neg (fun q => c (of_decide_eq_true q)), List.append_nil]
  rintro _ rfl
  rw [List.length_map, selA_all _ rfl el.symm]
  have ph := selA_paired (fun z => decide (lt2 y z)) hP
  have lh := selA_le (fun z => decide (lt2 y z)) ps xs
  generalize hL2 : selA (fun z => decide (lt2 y z)) ps xs = hi at *
  generalize hH2 : upd H1 D2 (.lst (hi.map V.ref)) = H2
  have s2 : L2.Same H1 H2 := by rw [← hH2]; exact sD2 _
  have eD2 : H2 D2 = some (.lst (hi.map V.ref)) := by rw [← hH2]; exact upd_same
  (repeat (first
      | refine ⟨_, rfl, ?_⟩
      | refine ⟨_, _, rfl, rfl, ?_⟩
      | refine Or.inl ⟨_, rfl, ?_⟩
      | refine Or.inr ⟨_, rfl, ?_⟩
      | refine ⟨Or.inl ⟨by decide, by decide⟩, ?_⟩
      | refine ⟨Or.inr ⟨by decide, by decide⟩, ?_⟩
      | refine ⟨⟨by decide, by decide⟩, ?_⟩
      | refine ⟨⟨by decide, by decide, by decide⟩, ?_⟩
      | refine ⟨by decide, ?_⟩
      | refine ⟨(by show (0 : Int) < _; decide), ?_⟩
      | refine ⟨rfl, ?_⟩
      | refine ⟨⟨_, rfl⟩, ?_⟩
      | refine ⟨_, rfl, rfl, trivial, ?_⟩
      | refine ⟨_, _, rfl, ?_⟩))
  refine ⟨by show 1 ≤ sizeLine; decide, fun p3 h3 => ?_⟩
  refine ⟨D, p3, _, _, rfl, rfl, same_upd h3 _ _ (s2 _ _ eD), upd_same, small (by rw [List.length_map]; show lo.length + 1 ≤ _; omega), fun p4 h4 => ?_⟩
  refine ⟨_, rfl, p4, D2, _, _, rfl, rfl, upd_same, same_upd h4 _ _ (same_upd h3 _ _ eD2), small (by rw [List.length_append, List.length_map, List.length_map]; show lo.length + 1 + hi.length ≤ _; omega), fun p5 h5 => ?_⟩
  refine ⟨p5, _, rfl, .inl ⟨SqL.of upd_same, fun p6 h6 => ?_⟩⟩
  have sf := ((((s1.trans s2).trans (same_upd (o := .lst [.ref q]) h3)).trans (same_upd (o := .lst (lo.map V.ref ++ [.ref q])) h4)).trans (same_upd (o := .lst (lo.map V.ref ++ [.ref q] ++ hi.map V.ref)) h5)).trans (same_upd (o := .tup (lo.map V.ref ++ [.ref q] ++ hi.map V.ref)) h6)
  refine k p6 _ sf ⟨lo ++ [q] ++ hi, ?_, ?_⟩
  · rw [List.map_append, List.map_append]
    exact SqT.of upd_same
  · exact Paired.mono (fun _ _ r => Nm.same sf r) (Paired.app (Paired.app pl (.cons hy .nil)) ph)
end
end My

namespace My
open PySem PySem.Spec PyProof.Rows L2
theorem u65 {k : Nat} {A : Around} (r : Room k A) : A.units + 65 < cLine := by have := r.un; omega
/-! ### in, a tuple of data -/
def rInDT (K : PySem.W.Frag) : R2 := fun x y H Q => ∃ d ds, Dp K H x d ∧ Dp K H y (.tuple ds) ∧ SeqAt.shaped d = true ∧ SeqAt.shaped (.tuple ds) = true ∧ Q (.bl (ds.any fun z => PyData.eqv z d)) H
theorem op_inDT {X : Cx} (hu : X.A.units + 65 < cLine) : OpR X (compareOp .In) (rInDT X.K) := by
  intro pins s σ H x y v u Q I rx ry h
  obtain ⟨d, ds, hd, he, sd, se, q⟩ := h
  obtain ⟨as, r1⟩ := Dp.reads I d x v hd rx
  obtain ⟨bs, r2⟩ := Dp.reads I (.tuple ds) y u he ry
  exact SeqAt.in_tuple_reads r2 r1 (SeqAt.canLay_of_shaped se) (SeqAt.canLay_of_shaped sd) (room_in_shaped sd hu) ⟨.bl _, H, I, rfl, q⟩
def qD (z : Q2) : PyData := .tuple [.int z.1, .int z.2]
theorem qD_lay (z : Q2) : (qD z).canLay0 = true := by simp [qD, PyData.canLay0, PyData.canLayAll0]
theorem qD_depth (z : Q2) : (qD z).depth = 1 := by simp [qD, PyData.depth, PyData.depthAll]
theorem qDs_lay : ∀ zs : List Q2, PyData.canLayAll0 (zs.map qD) = true
  | [] => by simp [PyData.canLayAll0]
  | z :: zs => by
    rw [List.map_cons]
    simp only [PyData.canLayAll0]
    rw [qD_lay, qDs_lay zs]
    rfl
theorem qDs_depth : ∀ zs : List Q2, PyData.depthAll (zs.map qD) ≤ 1
  | [] => by simp [PyData.depthAll]
  | z :: zs => by
    rw [List.map_cons]
    simp only [PyData.depthAll]
    rw [qD_depth]
    have := qDs_depth zs
    omega
theorem qD_shaped (z : Q2) : SeqAt.shaped (qD z) = true := by
  have h := qD_depth z
  show ((qD z).canLay0 && decide ((qD z).depth ≤ 64)) = true
  rw [Bool.and_eq_true]
  exact ⟨qD_lay z, decide_eq_true (by omega)⟩
theorem qDs_shaped (zs : List Q2) : SeqAt.shaped (.tuple (zs.map qD)) = true := by
  have h1 := qDs_depth zs
  have h2 : PyData.depth (.tuple (zs.map qD)) ≤ 64 := by
    simp only [PyData.depth]
    omega
  show (PyData.canLay0 (.tuple (zs.map qD)) && decide (PyData.depth (.tuple (zs.map qD)) ≤ 64)) = true
  rw [Bool.and_eq_true]
  exact ⟨by simp only [PyData.canLay0]; exact qDs_lay zs, decide_eq_true h2⟩
theorem qD_eqv (z w : Q2) : PyData.eqv (qD z) (qD w) = decide (z = w) := by
  obtain ⟨a, b⟩ := z
  obtain ⟨a', b'⟩ := w
  have e : PyData.eqv (qD (a, b)) (qD (a', b')) = ((a == a') && ((b == b') && true)) := by simp only [qD, PyData.eqv, PyData.eqvAll]
  rw [e]
  by_cases h1 : a = a' <;> by_cases h2 : b = b' <;> simp [h1, h2]
theorem any_qD (xs : List Q2) (y : Q2) : ((xs.map qD).any fun z => PyData.eqv z (qD y)) = decide (y ∈ xs) := by
  induction xs with
  | nil => rfl
  | cons x r ih =>
    rw [List.map_cons, List.any_cons, ih, qD_eqv]
    by_cases h : x = y
    · subst h
      simp
    · have h' : ¬ y = x := fun e => h e.symm
      simp [h, h']
section
variable {P : Program} {w : World} {K : PySem.W.Frag} {mg : Str → Option Value} {base : Heap}
theorem Paired.dps {H : Hp} : ∀ {ps : List Addr} {xs : List Q2}, Paired (Nm K H) ps xs → DpAll K H (ps.map V.ref) (xs.map qD)
  | _, _, .nil => .nil
  | _, _, .cons r t => .cons (Nm.dp r) (Paired.dps t)
theorem Am.dp {H : Hp} {t : Addr} {xs : List Q2} (h : Am K H t xs) : Dp K H (.ref t) (.tuple (xs.map qD)) := by
  obtain ⟨ps, h1, h2⟩ := h
  exact .tup h1 (Paired.dps h2)
end
end My

namespace My
open PySem PySem.Spec PyProof.Rows L2
section
variable {P : Program} {w : World} {K : PySem.W.Frag} {mg : Str → Option Value} {base : Heap}
/-! ### _law_place -/
def sp_place (K : PySem.W.Frag) : Sp := fun vs H Q _ => ∃ (q t : Addr) (y : Q2) (xs : List Q2), vs = [.ref q, .ref t] ∧ Am K H t xs ∧ Nm K H q y ∧ BdL 1000 xs ∧ bd2 1000 y ∧ xs.length ≤ 1000 ∧ ∀ H', L2.Same H H' → Q (.int ((2 * rk y xs + (if y ∈ xs then 1 else 0) : Nat) : Int)) H'
theorem selA_rk {H : Hp} {ps : List Addr} {xs : List Q2} (h : Paired (Nm K H) ps xs) (y : Q2) : (selA (fun z => decide (lt2 z y)) ps xs).length = rk y xs := Paired.length (selA_paired _ h)
theorem ok_law_place (T : Top K mg w) : FnOk P w K mg base CX0 2 T.a_law_place T.d_law_place ["number", "among"] (sp_place K) := by
  refine T.F_law_place.ok sc_law_place (fun vs H Q E h => ?_) (fun cdv A outer s H vs Q E hr h => ?_)
  · obtain ⟨t, q, x, y, rfl, _⟩ := h
    rfl
  obtain ⟨q, t, y, xs, rfl, hA, hy, bx, b_y, hl, k⟩ := h
  have hA' := hA
  obtain ⟨ps, hT, hP⟩ := hA'
  have el := Paired.length hP
  refine ⟨_, (pss_cons (ps_set (i := 2) sc_law_place.nd rfl (Or.inl rfl) (pe_callB call_len_seq (by rfl) T.z_len (by decide +kernel) (pa_cons (pe_lc (own := [("one", 3)]) (g := gName 3) (by rfl) sc_law_place.nd (pi_tup (pv 1)) (blkOk_by (own := [("one", 3)]) (N := ["number", "among", "lower", "one"]) (sc := defScope s_law_place) (by decide +kernel)) (fun _ _ _ _ _ => (pg_name (i := 3) sc_law_place.nd rfl (Or.inl rfl))) (fun _ _ _ _ _ => pts_one (pt_val (pe_call ((ok_law_less T).mono (by decide)) hr (by rfl) T.m_law_less T.F_law_less.kp T.b_law_less .nil pass0 (pa_cons (pv 3) (pa_cons (pv 0) pa_nil))))) (fun _ _ _ _ _ => (pv 3))) pa_nil)))
      (pss_one (ps_ret (pe_op op_add (pe_op op_mul pe_int (pv 2)) (pe_callTy call_int1 (by rfl) T.z_int (by decide +kernel) (pa_cons (pe_cmpR (op_inDT (u65 hr)) (pv 0) (pv 1) (by rfl)) pa_nil)))))), ?_⟩
  refine ⟨_, rfl, t, rfl, ⟨_, hT⟩, fun D hD => ?_⟩
  have sD : ∀ o, L2.Same H (upd H D o) := fun o => same_upd hD
  refine lc_tup (xs := ps.map V.ref) (fun i H' => H' = upd H D (.lst ((selA (fun z => decide (lt2 z y)) (ps.take i) (xs.take i)).map V.ref))) rfl ?_ ?_ ?_
  · rintro i H' _ rfl
    exact My.Same.sqT (sD _) hT
  · rintro i x H' hx rfl
    obtain ⟨p, rfl, hp⟩ := ref_at hx
    obtain ⟨z, hz, nz⟩ := Paired.at hP hp
    refine ⟨rfl, ?_⟩
    (repeat (first
      | refine ⟨_, rfl, ?_⟩
      | refine ⟨_, _, rfl, rfl, ?_⟩
      | refine Or.inl ⟨_, rfl, ?_⟩
      | refine Or.inr ⟨_, rfl, ?_⟩
      | refine ⟨Or.inl ⟨by decide, by decide⟩, ?_⟩
      | refine ⟨Or.inr ⟨by decide, by decide⟩, ?_⟩
      | refine ⟨⟨by decide, by decide⟩, ?_⟩
      | refine ⟨⟨by decide, by decide, by decide⟩, ?_⟩
      | refine ⟨by decide, ?_⟩
      | refine ⟨(by show (0 : Int) < _; decide), ?_⟩
      | refine ⟨rfl, ?_⟩
      | refine ⟨⟨_, rfl⟩, ?_⟩
      | refine ⟨_, rfl, rfl, trivial, ?_⟩
      | refine ⟨_, _, rfl, ?_⟩))
    refine ⟨p, q, z, y, rfl, Nm.same (sD _) nz, Nm.same (sD _) hy, bx z (List.mem_of_getElem? hz), b_y, ?_⟩
    (repeat (first
      | refine ⟨_, rfl, ?_⟩
      | refine ⟨_, _, rfl, rfl, ?_⟩
      | refine Or.inl ⟨_, rfl, ?_⟩
      | refine Or.inr ⟨_, rfl, ?_⟩
      | refine ⟨Or.inl ⟨by decide, by decide⟩, ?_⟩
      | refine ⟨Or.inr ⟨by decide, by decide⟩, ?_⟩
      | refine ⟨⟨by decide, by decide⟩, ?_⟩
      | refine ⟨⟨by decide, by decide, by decide⟩, ?_⟩
      | refine ⟨by decide, ?_⟩
      | refine ⟨(by show (0 : Int) < _; decide), ?_⟩
      | refine ⟨rfl, ?_⟩
      | refine ⟨⟨_, rfl⟩, ?_⟩
      | refine ⟨_, rfl, rfl, trivial, ?_⟩
      | refine ⟨_, _, rfl, ?_⟩))
    refine ite_dec (fun c => ?_) (fun c => ?_)
    · (repeat (first
      | refine ⟨_, rfl, ?_⟩
      | refine ⟨_, _, rfl, rfl, ?_⟩
      | refine Or.inl ⟨_, rfl, ?_⟩
      | refine Or.inr ⟨_, rfl, ?_⟩
      | refine ⟨Or.inl ⟨by decide, by decide⟩, ?_⟩
      | refine ⟨Or.inr ⟨by decide, by decide⟩, ?_⟩
      | refine ⟨⟨by decide, by decide⟩, ?_⟩
      | refine ⟨⟨by decide, by decide, by decide⟩, ?_⟩
      | refine ⟨by decide, ?_⟩
      | refine ⟨(by show (0 : Int) < _; decide), ?_⟩
      | refine ⟨rfl, ?_⟩
      | refine ⟨⟨_, rfl⟩, ?_⟩
      | refine ⟨_, rfl, rfl, trivial, ?_⟩
      | refine ⟨_, _, rfl, ?_⟩))
      refine ⟨_, upd_same, smallL (by rw [List.length_map]; have := selA_le (fun z => decide (lt2 z y)) (ps.take i) (xs.take i); rw [List.length_take] at this; omega), ?_⟩
      rw [upd_upd, selA_step _ hp hz, if_pos (decide_eq_true c), List.map_append]
      rfl
    · show upd H D _ = upd H D _
      rw [selA_step _ hp hz, if_neg (fun q => c (of_decide_eq_true q)), List.append_nil]
  rintro _ rfl
  rw [List.length_map, selA_all _ rfl el.symm]
  refine ⟨D, _, rfl, .inl (SqL.of upd_same), ?_⟩
  (repeat (first
      | refine ⟨_, rfl, ?_⟩
      | refine ⟨_, _, rfl, rfl, ?_⟩
      | refine Or.inl ⟨_, rfl, ?_⟩
      | refine Or.inr ⟨_, rfl, ?_⟩
      | refine ⟨Or.inl ⟨by decide, by decide⟩, ?_⟩
      | refine ⟨Or.inr ⟨by decide, by decide⟩, ?_⟩
      | refine ⟨⟨by decide, by decide⟩, ?_⟩
      | refine ⟨⟨by decide, by decide, by decide⟩, ?_⟩
      | refine ⟨by decide, ?_⟩
      | refine ⟨(by show (0 : Int) < _; decide), ?_⟩
      | refine ⟨rfl, ?_⟩
      | refine ⟨⟨_, rfl⟩, ?_⟩
      | refine ⟨_, rfl, rfl, trivial, ?_⟩
      | refine ⟨_, _, rfl, ?_⟩))
  refine ⟨qD y, xs.map qD, Nm.dp (Nm.same (sD _) hy), Am.dp (Am.same (sD _) hA), qD_shaped y, qDs_shaped xs, ?_⟩
  rw [any_qD]
  refine Or.inr ⟨_, rfl, ?_⟩
  (repeat (first
      | refine ⟨_, rfl, ?_⟩
      | refine ⟨_, _, rfl, rfl, ?_⟩
      | refine Or.inl ⟨_, rfl, ?_⟩
      | refine Or.inr ⟨_, rfl, ?_⟩
      | refine ⟨Or.inl ⟨by decide, by decide⟩, ?_⟩
      | refine ⟨Or.inr ⟨by decide, by decide⟩, ?_⟩
      | refine ⟨⟨by decide, by decide⟩, ?_⟩
      | refine ⟨⟨by decide, by decide, by decide⟩, ?_⟩
      | refine ⟨by decide, ?_⟩
      | refine ⟨(by show (0 : Int) < _; decide), ?_⟩
      | refine ⟨rfl, ?_⟩
      | refine ⟨⟨_, rfl⟩, ?_⟩
      | refine ⟨_, rfl, rfl, trivial, ?_⟩
      | refine ⟨_, _, rfl, ?_⟩))
  have e : (2 : Int) * (((selA (fun z => decide (lt2 z y)) ps xs).map V.ref).length : Nat) + (if decide (y ∈ xs) = true then 1 else 0) = ((2 * rk y xs + (if y ∈ xs then 1 else 0) : Nat) : Int) := by
    rw [List.length_map, selA_rk hP]
    by_cases hm : y ∈ xs
    · rw [if_pos hm, if_pos (decide_eq_true hm)]
      omega
    · rw [if_neg hm, if_neg (fun z => hm (of_decide_eq_true z))]
      omega
  show Q (.int ((2 : Int) * (((selA (fun z => decide (lt2 z y)) ps xs).map V.ref).length : Nat) + (if decide (y ∈ xs) = true then 1 else 0))) _
  rw [e]
  exact k _ (sD _)
end
end My

namespace My
open PySem PySem.Spec PyProof.Rows L2
section
variable {P : Program} {w : World} {K : PySem.W.Frag} {mg : Str → Option Value} {base : Heap}
/-! ### position, by halves -/
theorem pos2_cut {xs : List Q2} {y : Q2} {r : Nat} (h : r ≤ xs.length) (h1 : ∀ j (h : j < xs.length), j < r → lt2 xs[j] y) (h2 : ∀ j (h : j < xs.length), r ≤ j → ¬ lt2 xs[j] y) : pos2 y xs = if r < xs.length ∧ ¬ lt2 y (xs.getD r (0, 1)) then 2 * r + 1 else 2 * r := by
  unfold pos2
  rw [rk_cut h h1 h2]
def sp_pos (K : PySem.W.Frag) : Sp := fun vs H Q _ => ∃ (q t : Addr) (y : Q2) (xs : List Q2), vs = [.ref q, .ref t] ∧ Am K H t xs ∧ Nm K H q y ∧ BdL 1000 xs ∧ bd2 1000 y ∧ Srt xs ∧ ok2 y ∧ xs.length ≤ 1000 ∧ Q (.int (pos2 y xs : Nat)) H
theorem ok_position (T : Top K mg w) : FnOk P w K mg base CX0 2 T.a_position T.d_position ["number", "among"] (sp_pos K) := by
  refine T.F_position.ok sc_position (fun vs H Q E h => ?_) (fun cdv A outer s H vs Q E hr h => ?_)
  · obtain ⟨t, q, x, y, rfl, _⟩ := h
    rfl
  obtain ⟨q, t, y, xs, rfl, hA, hy, bx, b_y, sx, oy, hl, k⟩ := h
  have hA' := hA
  obtain ⟨ps, hT, hP⟩ := hA'
  have el := Paired.length hP
  refine ⟨_, (pss_cons (ps_set (i := 2) sc_position.nd rfl (Or.inl rfl) pe_int)
      (pss_cons (ps_set (i := 3) sc_position.nd rfl (Or.inl rfl) (pe_callB call_len_seq (by rfl) T.z_len (by decide +kernel) (pa_cons (pv 1) pa_nil)))
      (pss_cons (ps_while PassesOwn.never (pt_cmpR op_lt (pv 2) (pv 3) (nomark _))
        (pss_cons (ps_set (i := 4) sc_position.nd rfl (Or.inl rfl) (pe_op op_fdiv (pe_op op_add (pv 2) (pv 3)) pe_int))
      (pss_one (ps_if (pt_val (pe_call ((ok_less T).mono (by decide)) hr (by rfl) T.m_less T.F_less.kp T.b_less .nil pass0 (pa_cons (pe_ix ix_tup (pv 1) (pv 4) (fun _ _ => rfl)) (pa_cons (pv 0) pa_nil))))
        (pss_one (ps_set (i := 2) sc_position.nd rfl (Or.inl rfl) (pe_op op_add (pv 4) pe_int)))
        (pss_one (ps_set (i := 3) sc_position.nd rfl (Or.inl rfl) (pv 4)))))))
      (pss_cons (ps_if (PW.pt (pw_and (pt_cmpR op_lt (pv 2) (pe_callB call_len_seq (by rfl) T.z_len (by decide +kernel) (pa_cons (pv 1) pa_nil)) (nomark _)) (pw_and1 (pt_not (pt_val (pe_call ((ok_less T).mono (by decide)) hr (by rfl) T.m_less T.F_less.kp T.b_less .nil pass0 (pa_cons (pv 0) (pa_cons (pe_ix ix_tup (pv 1) (pv 2) (fun _ _ => rfl)) pa_nil))))))))
        (pss_one (ps_ret (pe_op op_add (pe_op op_mul pe_int (pv 2)) pe_int)))
        pss_nil)
      (pss_one (ps_ret (pe_op op_mul pe_int (pv 2)))))))), ?_⟩
  (repeat (first
      | refine ⟨_, rfl, ?_⟩
      | refine ⟨_, _, rfl, rfl, ?_⟩
      | refine Or.inl ⟨_, rfl, ?_⟩
      | refine Or.inr ⟨_, rfl, ?_⟩
      | refine ⟨Or.inl ⟨by decide, by decide⟩, ?_⟩
      | refine ⟨Or.inr ⟨by decide, by decide⟩, ?_⟩
      | refine ⟨⟨by decide, by decide⟩, ?_⟩
      | refine ⟨⟨by decide, by decide, by decide⟩, ?_⟩
      | refine ⟨by decide, ?_⟩
      | refine ⟨(by show (0 : Int) < _; decide), ?_⟩
      | refine ⟨rfl, ?_⟩
      | refine ⟨⟨_, rfl⟩, ?_⟩
      | refine ⟨_, rfl, rfl, trivial, ?_⟩
      | refine ⟨_, _, rfl, ?_⟩))
  refine ⟨t, _, rfl, .inr hT, ?_⟩
  (repeat (first
      | refine ⟨_, rfl, ?_⟩
      | refine ⟨_, _, rfl, rfl, ?_⟩
      | refine Or.inl ⟨_, rfl, ?_⟩
      | refine Or.inr ⟨_, rfl, ?_⟩
      | refine ⟨Or.inl ⟨by decide, by decide⟩, ?_⟩
      | refine ⟨Or.inr ⟨by decide, by decide⟩, ?_⟩
      | refine ⟨⟨by decide, by decide⟩, ?_⟩
      | refine ⟨⟨by decide, by decide, by decide⟩, ?_⟩
      | refine ⟨by decide, ?_⟩
      | refine ⟨(by show (0 : Int) < _; decide), ?_⟩
      | refine ⟨rfl, ?_⟩
      | refine ⟨⟨_, rfl⟩, ?_⟩
      | refine ⟨_, rfl, rfl, trivial, ?_⟩
      | refine ⟨_, _, rfl, ?_⟩))
  rw [List.length_map, el]
  have sx' := fun (i j : Nat) (hi : i < xs.length) (hj : j < xs.length) (h : i < j) => sx.lt hi hj h
  have inv0 : (∀ j (h : j < xs.length), j < 0 → lt2 xs[j] y) ∧ (∀ j (h : j < xs.length), xs.length ≤ j → ¬ lt2 xs[j] y) := ⟨fun j _ h => absurd h (Nat.not_lt_zero _), fun j h h2 => by omega⟩
  refine ⟨fun m σ H' => ∃ (r e : Nat) (y4 : Option V), σ = [some (.ref q), some (.ref t), some (.int (r : Int)), some (.int (e : Int)), y4] ∧ H' = H ∧ r ≤ e ∧ e ≤ xs.length ∧ m = e - r ∧ (∀ j (h : j < xs.length), j < r → lt2 xs[j] y) ∧ (∀ j (h : j < xs.length), e ≤ j → ¬ lt2 xs[j] y), ⟨_, 0, xs.length, none, rfl, rfl, Nat.zero_le _, Nat.le_refl _, rfl, inv0.1, inv0.2⟩, ?_⟩
  rintro m σ H' ⟨r, e, y4, rfl, rfl, h1, h2, rfl, hlo, hhi⟩
  (repeat (first
      | refine ⟨_, rfl, ?_⟩
      | refine ⟨_, _, rfl, rfl, ?_⟩
      | refine Or.inl ⟨_, rfl, ?_⟩
      | refine Or.inr ⟨_, rfl, ?_⟩
      | refine ⟨Or.inl ⟨by decide, by decide⟩, ?_⟩
      | refine ⟨Or.inr ⟨by decide, by decide⟩, ?_⟩
      | refine ⟨⟨by decide, by decide⟩, ?_⟩
      | refine ⟨⟨by decide, by decide, by decide⟩, ?_⟩
      | refine ⟨by decide, ?_⟩
      | refine ⟨(by show (0 : Int) < _; decide), ?_⟩
      | refine ⟨rfl, ?_⟩
      | refine ⟨⟨_, rfl⟩, ?_⟩
      | refine ⟨_, rfl, rfl, trivial, ?_⟩
      | refine ⟨_, _, rfl, ?_⟩))
  refine ite_dec (fun c => ?_) (fun c => ?_)
  · have c' : r < e := by omega
    have em : ((r : Int) + (e : Int)) / 2 = (((r + e) / 2 : Nat) : Int) := by omega
    have hm : (r + e) / 2 < xs.length := by omega
    obtain ⟨p, hp, np⟩ := Paired.at' hP (List.getElem?_eq_getElem hm)
    refine ⟨fun σ' H'' => ∃ m', m' < e - r ∧ ∃ (r e : Nat) (y4 : Option V), σ' = [some (.ref q), some (.ref t), some (.int (r : Int)), some (.int (e : Int)), y4] ∧ H'' = H' ∧ r ≤ e ∧ e ≤ xs.length ∧ m' = e - r ∧ (∀ j (h : j < xs.length), j < r → lt2 xs[j] y) ∧ (∀ j (h : j < xs.length), e ≤ j → ¬ lt2 xs[j] y), fun σ' H' h => h, ?_⟩
    (repeat (first
      | refine ⟨_, rfl, ?_⟩
      | refine ⟨_, _, rfl, rfl, ?_⟩
      | refine Or.inl ⟨_, rfl, ?_⟩
      | refine Or.inr ⟨_, rfl, ?_⟩
      | refine ⟨Or.inl ⟨by decide, by decide⟩, ?_⟩
      | refine ⟨Or.inr ⟨by decide, by decide⟩, ?_⟩
      | refine ⟨⟨by decide, by decide⟩, ?_⟩
      | refine ⟨⟨by decide, by decide, by decide⟩, ?_⟩
      | refine ⟨by decide, ?_⟩
      | refine ⟨(by show (0 : Int) < _; decide), ?_⟩
      | refine ⟨rfl, ?_⟩
      | refine ⟨⟨_, rfl⟩, ?_⟩
      | refine ⟨_, rfl, rfl, trivial, ?_⟩
      | refine ⟨_, _, rfl, ?_⟩))
    refine ⟨t, _, _, _, rfl, rfl, hT, by show atI _ (((r : Int) + (e : Int)) / 2) = _; rw [em]; exact atI_nat (j := (r + e) / 2) (by rw [List.getElem?_map, hp]; rfl), ?_⟩
    (repeat (first
      | refine ⟨_, rfl, ?_⟩
      | refine ⟨_, _, rfl, rfl, ?_⟩
      | refine Or.inl ⟨_, rfl, ?_⟩
      | refine Or.inr ⟨_, rfl, ?_⟩
      | refine ⟨Or.inl ⟨by decide, by decide⟩, ?_⟩
      | refine ⟨Or.inr ⟨by decide, by decide⟩, ?_⟩
      | refine ⟨⟨by decide, by decide⟩, ?_⟩
      | refine ⟨⟨by decide, by decide, by decide⟩, ?_⟩
      | refine ⟨by decide, ?_⟩
      | refine ⟨(by show (0 : Int) < _; decide), ?_⟩
      | refine ⟨rfl, ?_⟩
      | refine ⟨⟨_, rfl⟩, ?_⟩
      | refine ⟨_, rfl, rfl, trivial, ?_⟩
      | refine ⟨_, _, rfl, ?_⟩))
    refine ⟨p, q, xs[(r + e) / 2], y, rfl, np, hy, bx _ (List.getElem_mem hm), b_y, ?_⟩
    (repeat (first
      | refine ⟨_, rfl, ?_⟩
      | refine ⟨_, _, rfl, rfl, ?_⟩
      | refine Or.inl ⟨_, rfl, ?_⟩
      | refine Or.inr ⟨_, rfl, ?_⟩
      | refine ⟨Or.inl ⟨by decide, by decide⟩, ?_⟩
      | refine ⟨Or.inr ⟨by decide, by decide⟩, ?_⟩
      | refine ⟨⟨by decide, by decide⟩, ?_⟩
      | refine ⟨⟨by decide, by decide, by decide⟩, ?_⟩
      | refine ⟨by decide, ?_⟩
      | refine ⟨(by show (0 : Int) < _; decide), ?_⟩
      | refine ⟨rfl, ?_⟩
      | refine ⟨⟨_, rfl⟩, ?_⟩
      | refine ⟨_, rfl, rfl, trivial, ?_⟩
      | refine ⟨_, _, rfl, ?_⟩))
    refine ite_dec (fun c2 => ?_) (fun c2 => ?_)
    · (repeat (first
      | refine ⟨_, rfl, ?_⟩
      | refine ⟨_, _, rfl, rfl, ?_⟩
      | refine Or.inl ⟨_, rfl, ?_⟩
      | refine Or.inr ⟨_, rfl, ?_⟩
      | refine ⟨Or.inl ⟨by decide, by decide⟩, ?_⟩
      | refine ⟨Or.inr ⟨by decide, by decide⟩, ?_⟩
      | refine ⟨⟨by decide, by decide⟩, ?_⟩
      | refine ⟨⟨by decide, by decide, by decide⟩, ?_⟩
      | refine ⟨by decide, ?_⟩
      | refine ⟨(by show (0 : Int) < _; decide), ?_⟩
      | refine ⟨rfl, ?_⟩
      | refine ⟨⟨_, rfl⟩, ?_⟩
      | refine ⟨_, rfl, rfl, trivial, ?_⟩
      | refine ⟨_, _, rfl, ?_⟩))
      rw [show (fun i j : Int => V.int (i / j)) ((r : Int) + (e : Int)) 2 = V.int (((r + e) / 2 : Nat) : Int) from congrArg V.int em]
      refine ⟨e - ((r + e) / 2 + 1), by omega, (r + e) / 2 + 1, e, _, rfl, rfl, by omega, h2, rfl, fun j hj hlt => ?_, hhi⟩
      by_cases ej : j = (r + e) / 2
      · subst ej; exact c2
      · exact lt2_trans (sx.ok hj).1 (sx.ok hm).1 oy.1 (sx' j _ hj hm (by omega)) c2
    · (repeat (first
      | refine ⟨_, rfl, ?_⟩
      | refine ⟨_, _, rfl, rfl, ?_⟩
      | refine Or.inl ⟨_, rfl, ?_⟩
      | refine Or.inr ⟨_, rfl, ?_⟩
      | refine ⟨Or.inl ⟨by decide, by decide⟩, ?_⟩
      | refine ⟨Or.inr ⟨by decide, by decide⟩, ?_⟩
      | refine ⟨⟨by decide, by decide⟩, ?_⟩
      | refine ⟨⟨by decide, by decide, by decide⟩, ?_⟩
      | refine ⟨by decide, ?_⟩
      | refine ⟨(by show (0 : Int) < _; decide), ?_⟩
      | refine ⟨rfl, ?_⟩
      | refine ⟨⟨_, rfl⟩, ?_⟩
      | refine ⟨_, rfl, rfl, trivial, ?_⟩
      | refine ⟨_, _, rfl, ?_⟩))
      refine ⟨(r + e) / 2 - r, by omega, r, (r + e) / 2, _, rfl, rfl, by omega, by omega, rfl, hlo, fun j hj hle hlt => ?_⟩
      by_cases ej : j = (r + e) / 2
      · subst ej; exact c2 hlt
      · exact c2 (lt2_trans (sx.ok hm).1 (sx.ok hj).1 oy.1 (sx' _ j hm hj (by omega)) hlt)
  · have e0 : e = r := by omega
    subst e0
    have ep := pos2_cut (y := y) h2 hlo hhi
    rw [ep] at k
    (repeat (first
      | refine ⟨_, rfl, ?_⟩
      | refine ⟨_, _, rfl, rfl, ?_⟩
      | refine Or.inl ⟨_, rfl, ?_⟩
      | refine Or.inr ⟨_, rfl, ?_⟩
      | refine ⟨Or.inl ⟨by decide, by decide⟩, ?_⟩
      | refine ⟨Or.inr ⟨by decide, by decide⟩, ?_⟩
      | refine ⟨⟨by decide, by decide⟩, ?_⟩
      | refine ⟨⟨by decide, by decide, by decide⟩, ?_⟩
      | refine ⟨by decide, ?_⟩
      | refine ⟨(by show (0 : Int) < _; decide), ?_⟩
      | refine ⟨rfl, ?_⟩
      | refine ⟨⟨_, rfl⟩, ?_⟩
      | refine ⟨_, rfl, rfl, trivial, ?_⟩
      | refine ⟨_, _, rfl, ?_⟩))
    refine ⟨t, _, rfl, .inr hT, ?_⟩
    (repeat (first
      | refine ⟨_, rfl, ?_⟩
      | refine ⟨_, _, rfl, rfl, ?_⟩
      | refine Or.inl ⟨_, rfl, ?_⟩
      | refine Or.inr ⟨_, rfl, ?_⟩
      | refine ⟨Or.inl ⟨by decide, by decide⟩, ?_⟩
      | refine ⟨Or.inr ⟨by decide, by decide⟩, ?_⟩
      | refine ⟨⟨by decide, by decide⟩, ?_⟩
      | refine ⟨⟨by decide, by decide, by decide⟩, ?_⟩
      | refine ⟨by decide, ?_⟩
      | refine ⟨(by show (0 : Int) < _; decide), ?_⟩
      | refine ⟨rfl, ?_⟩
      | refine ⟨⟨_, rfl⟩, ?_⟩
      | refine ⟨_, rfl, rfl, trivial, ?_⟩
      | refine ⟨_, _, rfl, ?_⟩))
    rw [List.length_map, el]
    refine ite_dec (fun c3 => ?_) (fun c3 => ?_)
    · have hi : e < xs.length := by omega
      obtain ⟨p, hp, np⟩ := Paired.at' hP (List.getElem?_eq_getElem hi)
      (repeat (first
      | refine ⟨_, rfl, ?_⟩
      | refine ⟨_, _, rfl, rfl, ?_⟩
      | refine Or.inl ⟨_, rfl, ?_⟩
      | refine Or.inr ⟨_, rfl, ?_⟩
      | refine ⟨Or.inl ⟨by decide, by decide⟩, ?_⟩
      | refine ⟨Or.inr ⟨by decide, by decide⟩, ?_⟩
      | refine ⟨⟨by decide, by decide⟩, ?_⟩
      | refine ⟨⟨by decide, by decide, by decide⟩, ?_⟩
      | refine ⟨by decide, ?_⟩
      | refine ⟨(by show (0 : Int) < _; decide), ?_⟩
      | refine ⟨rfl, ?_⟩
      | refine ⟨⟨_, rfl⟩, ?_⟩
      | refine ⟨_, rfl, rfl, trivial, ?_⟩
      | refine ⟨_, _, rfl, ?_⟩))
      refine ⟨t, _, _, _, rfl, rfl, hT, atI_nat (j := e) (by rw [List.getElem?_map, hp]; rfl), ?_⟩
      (repeat (first
      | refine ⟨_, rfl, ?_⟩
      | refine ⟨_, _, rfl, rfl, ?_⟩
      | refine Or.inl ⟨_, rfl, ?_⟩
      | refine Or.inr ⟨_, rfl, ?_⟩
      | refine ⟨Or.inl ⟨by decide, by decide⟩, ?_⟩
      | refine ⟨Or.inr ⟨by decide, by decide⟩, ?_⟩
      | refine ⟨⟨by decide, by decide⟩, ?_⟩
      | refine ⟨⟨by decide, by decide, by decide⟩, ?_⟩
      | refine ⟨by decide, ?_⟩
      | refine ⟨(by show (0 : Int) < _; decide), ?_⟩
      | refine ⟨rfl, ?_⟩
      | refine ⟨⟨_, rfl⟩, ?_⟩
      | refine ⟨_, rfl, rfl, trivial, ?_⟩
      | refine ⟨_, _, rfl, ?_⟩))
      refine ⟨q, p, y, xs[e], rfl, hy, np, b_y, bx _ (List.getElem_mem hi), ?_⟩
      (repeat (first
      | refine ⟨_, rfl, ?_⟩
      | refine ⟨_, _, rfl, rfl, ?_⟩
      | refine Or.inl ⟨_, rfl, ?_⟩
      | refine Or.inr ⟨_, rfl, ?_⟩
      | refine ⟨Or.inl ⟨by decide, by decide⟩, ?_⟩
      | refine ⟨Or.inr ⟨by decide, by decide⟩, ?_⟩
      | refine ⟨⟨by decide, by decide⟩, ?_⟩
      | refine ⟨⟨by decide, by decide, by decide⟩, ?_⟩
      | refine ⟨by decide, ?_⟩
      | refine ⟨(by show (0 : Int) < _; decide), ?_⟩
      | refine ⟨rfl, ?_⟩
      | refine ⟨⟨_, rfl⟩, ?_⟩
      | refine ⟨_, rfl, rfl, trivial, ?_⟩
      | refine ⟨_, _, rfl, ?_⟩))
      refine ite_nb (fun c2 => ?_) (fun c2 => ?_)
      · (repeat (first
      | refine ⟨_, rfl, ?_⟩
      | refine ⟨_, _, rfl, rfl, ?_⟩
      | refine Or.inl ⟨_, rfl, ?_⟩
      | refine Or.inr ⟨_, rfl, ?_⟩
      | refine ⟨Or.inl ⟨by decide, by decide⟩, ?_⟩
      | refine ⟨Or.inr ⟨by decide, by decide⟩, ?_⟩
      | refine ⟨⟨by decide, by decide⟩, ?_⟩
      | refine ⟨⟨by decide, by decide, by decide⟩, ?_⟩
      | refine ⟨by decide, ?_⟩
      | refine ⟨(by show (0 : Int) < _; decide), ?_⟩
      | refine ⟨rfl, ?_⟩
      | refine ⟨⟨_, rfl⟩, ?_⟩
      | refine ⟨_, rfl, rfl, trivial, ?_⟩
      | refine ⟨_, _, rfl, ?_⟩))
        rw [if_pos ⟨hi, by rw [getD_at hi]; exact of_decide_eq_false c2⟩] at k
        exact k
      · (repeat (first
      | refine ⟨_, rfl, ?_⟩
      | refine ⟨_, _, rfl, rfl, ?_⟩
      | refine Or.inl ⟨_, rfl, ?_⟩
      | refine Or.inr ⟨_, rfl, ?_⟩
      | refine ⟨Or.inl ⟨by decide, by decide⟩, ?_⟩
      | refine ⟨Or.inr ⟨by decide, by decide⟩, ?_⟩
      | refine ⟨⟨by decide, by decide⟩, ?_⟩
      | refine ⟨⟨by decide, by decide, by decide⟩, ?_⟩
      | refine ⟨by decide, ?_⟩
      | refine ⟨(by show (0 : Int) < _; decide), ?_⟩
      | refine ⟨rfl, ?_⟩
      | refine ⟨⟨_, rfl⟩, ?_⟩
      | refine ⟨_, rfl, rfl, trivial, ?_⟩
      | refine ⟨_, _, rfl, ?_⟩))
        rw [if_neg (fun z => z.2 (by rw [getD_at hi]; exact of_decide_eq_true c2))] at k
        exact k
    · rw [if_neg (fun z => c3 (by omega))] at k
      (repeat (first
      | refine ⟨_, rfl, ?_⟩
      | refine ⟨_, _, rfl, rfl, ?_⟩
      | refine Or.inl ⟨_, rfl, ?_⟩
      | refine Or.inr ⟨_, rfl, ?_⟩
      | refine ⟨Or.inl ⟨by decide, by decide⟩, ?_⟩
      | refine ⟨Or.inr ⟨by decide, by decide⟩, ?_⟩
      | refine ⟨⟨by decide, by decide⟩, ?_⟩
      | refine ⟨⟨by decide, by decide, by decide⟩, ?_⟩
      | refine ⟨by decide, ?_⟩
      | refine ⟨(by show (0 : Int) < _; decide), ?_⟩
      | refine ⟨rfl, ?_⟩
      | refine ⟨⟨_, rfl⟩, ?_⟩
      | refine ⟨_, rfl, rfl, trivial, ?_⟩
      | refine ⟨_, _, rfl, ?_⟩))
      exact k
end
end My

namespace My
open PySem PySem.Spec PyProof.Rows L2
theorem atI_neg1 {α : Type} {xs : List α} {v : α} (h : xs[xs.length - 1]? = some v) : atI xs (-1) = some v := by
  have h1 := (List.getElem?_eq_some_iff.mp h).1
  have e : ixN xs.length (-1) = some (xs.length - 1) := by
    unfold ixN
    rw [if_neg (by decide), if_pos (by omega)]
    congr 1
    omega
  unfold atI
  rw [e]
  exact h
theorem mul_bd {a b : Int} {m n : Nat} (ha : a.natAbs < 2 ^ m) (hb : b.natAbs < 2 ^ n) : (a * b).natAbs < 2 ^ (m + n) := wide_lt ha hb
theorem add_bd {a b : Int} {m : Nat} (ha : a.natAbs < 2 ^ m) (hb : b.natAbs < 2 ^ m) : (a + b).natAbs < 2 ^ (m + 1) := by
  have e : 2 ^ (m + 1) = 2 * 2 ^ m := by rw [Nat.pow_succ, Nat.mul_comm]
  omega
theorem up_bd {a : Int} {m n : Nat} (ha : a.natAbs < 2 ^ m) (h : m ≤ n) : a.natAbs < 2 ^ n := Nat.lt_of_lt_of_le ha (Nat.pow_le_pow_right (by decide) h)
theorem mid2_bd {a b : Q2} (ha : bd2 100 a) (hb : bd2 100 b) (pa : 0 < a.2) (pb : 0 < b.2) : bd2 201 (mid2 a b) := by
  refine red_bd (mid2_pos pa pb) (add_bd (mul_bd ha.1 hb.2) (mul_bd hb.1 ha.2)) ?_
  have h : (a.2 + a.2).natAbs < 2 ^ 101 := add_bd ha.2 ha.2
  have h2 := mul_bd h hb.2
  have e : 2 * a.2 * b.2 = (a.2 + a.2) * b.2 := by rw [Int.two_mul]
  rw [e]
  exact h2
theorem num2_bd {xs : List Q2} (h : ∀ x ∈ xs, bd2 100 x) (p : ∀ x ∈ xs, ok2 x) {k : Nat} (hk : k ≤ 2 * xs.length) : bd2 300 (num2 k xs) := by
  have at1 : ∀ i, i < xs.length → bd2 100 (xs.getD i (0, 1)) ∧ 0 < (xs.getD i (0, 1)).2 := fun i hi => by
    rw [getD_at hi]
    exact ⟨h _ (List.getElem_mem hi), (p _ (List.getElem_mem hi)).1⟩
  unfold num2
  split
  · exact bd2_mono (at1 _ (by omega)).1 (by decide)
  split
  · exact ⟨by decide, by decide⟩
  split
  · have q := (at1 0 (by omega)).1
    refine ⟨?_, up_bd q.2 (by decide)⟩
    have q2 := add_bd (a := (xs.getD 0 (0, 1)).1) (b := -(xs.getD 0 (0, 1)).2) q.1 (by rw [Int.natAbs_neg]; exact q.2)
    exact up_bd q2 (by decide)
  split
  · have q := (at1 (xs.length - 1) (by omega)).1
    exact ⟨up_bd (add_bd q.1 q.2) (by decide), up_bd q.2 (by decide)⟩
  · have q := at1 (k / 2 - 1) (by omega)
    have q2 := at1 (k / 2) (by omega)
    exact bd2_mono (mid2_bd q.1 q2.1 q.2 q2.2) (by decide)
theorem num2_ok {xs : List Q2} (s : Srt xs) {k : Nat} (hk : k ≤ 2 * xs.length) : ok2 (num2 k xs) := by
  have at1 : ∀ i, i < xs.length → ok2 (xs.getD i (0, 1)) := fun i hi => by
    rw [getD_at hi]
    exact s.2 _ (List.getElem_mem hi)
  unfold num2
  split
  · exact at1 _ (by omega)
  split
  · exact ⟨by decide, by decide⟩
  split
  · exact sub_ok (at1 0 (by omega))
  split
  · exact add_ok (at1 (xs.length - 1) (by omega))
  · exact red_ok (mid2_pos (at1 (k / 2 - 1) (by omega)).1 (at1 (k / 2) (by omega)).1)
section
variable {P : Program} {w : World} {K : PySem.W.Frag} {mg : Str → Option Value} {base : Heap}
theorem Am.at {H : Hp} {t : Addr} {xs : List Q2} (h : Am K H t xs) {i : Nat} (hi : i < xs.length) : ∃ ps : List Addr, ∃ p, SqT K H t (ps.map V.ref) ∧ ps.length = xs.length ∧ (ps.map V.ref)[i]? = some (.ref p) ∧ Nm K H p (xs.getD i (0, 1)) := by
  obtain ⟨ps, hT, hP⟩ := h
  obtain ⟨p, hp, np⟩ := Paired.at' hP (List.getElem?_eq_getElem hi)
  exact ⟨ps, p, hT, Paired.length hP, by rw [List.getElem?_map, hp]; rfl, by rw [getD_at hi]; exact np⟩
theorem Am.len {H : Hp} {t : Addr} {xs : List Q2} (h : Am K H t xs) : ∃ vs, SqT K H t vs ∧ vs.length = xs.length := by
  obtain ⟨ps, hT, hP⟩ := h
  exact ⟨_, hT, by rw [List.length_map]; exact Paired.length hP⟩
/-! ### _middle -/
def sp_middle (K : PySem.W.Frag) : Sp := fun vs H Q _ => ∃ (p q : Addr) (x y : Q2), vs = [.ref p, .ref q] ∧ Nm K H p x ∧ Nm K H q y ∧ bd2 100 x ∧ bd2 100 y ∧ 0 < x.2 ∧ 0 < y.2 ∧ ∀ r H', L2.Same H H' → Nm K H' r (mid2 x y) → Q (.ref r) H'
theorem ok_middle (T : Top K mg w) : FnOk P w K mg base CX0 1 T.a_middle T.d_middle ["a", "b"] (sp_middle K) := by
  refine T.F_middle.ok sc_middle (fun vs H Q E h => ?_) (fun cdv A outer s H vs Q E hr h => ?_)
  · obtain ⟨p, q, x, y, rfl, _⟩ := h
    rfl
  obtain ⟨p, q, x, y, rfl, hx, hy, bx, b_y, px, py, k⟩ := h
  have m0 := mid2_pos px py
  have up : ∀ {a : Int}, a.natAbs < 2 ^ 100 → a.natAbs < 2 ^ 1000 := fun h => up_bd h (by decide)
  have b2 : (2 * x.2).natAbs < 2 ^ 101 := by
    rw [Int.two_mul]
    exact add_bd bx.2 bx.2
  have bb : (2 * x.2 * y.2).natAbs < 2 ^ 201 := mul_bd b2 b_y.2
  refine ⟨_, (pss_cons (ps_set (i := 2) sc_middle.nd rfl (Or.inl rfl) (pe_op op_add (pe_op op_mulW (pe_ix ix_tup (pv 0) pe_int (fun _ _ => rfl)) (pe_ix ix_tup (pv 1) pe_int (fun _ _ => rfl))) (pe_op op_mulW (pe_ix ix_tup (pv 1) pe_int (fun _ _ => rfl)) (pe_ix ix_tup (pv 0) pe_int (fun _ _ => rfl)))))
      (pss_cons (ps_set (i := 3) sc_middle.nd rfl (Or.inl rfl) (pe_op op_mulW (pe_op op_mulW pe_int (pe_ix ix_tup (pv 0) pe_int (fun _ _ => rfl))) (pe_ix ix_tup (pv 1) pe_int (fun _ _ => rfl))))
      (pss_cons (ps_set (i := 4) sc_middle.nd rfl (Or.inl rfl) (pe_callBfun cr_gcd (by rfl) T.z_gcd (pa_cons (pv 2) (pa_cons (pv 3) pa_nil))))
      (pss_one (ps_ret (pe_tup (pa_cons (pe_op op_fdivW (pv 2) (pv 4)) (pa_cons (pe_op op_fdivW (pv 3) (pv 4)) pa_nil)))))))), ?_⟩
  refine ⟨_, rfl, p, _, 0, _, rfl, rfl, hx, atI_nat (j := 0) rfl, ?_⟩
  refine ⟨_, rfl, q, _, 1, _, rfl, rfl, hy, atI_nat (j := 1) rfl, ?_⟩
  refine ⟨_, _, rfl, rfl, mulW (up bx.1) (up b_y.2), ?_⟩
  refine ⟨_, rfl, q, _, 0, _, rfl, rfl, hy, atI_nat (j := 0) rfl, ?_⟩
  refine ⟨_, rfl, p, _, 1, _, rfl, rfl, hx, atI_nat (j := 1) rfl, ?_⟩
  refine ⟨_, _, rfl, rfl, mulW (up b_y.1) (up bx.2), ?_⟩
  refine ⟨_, _, rfl, rfl, ?_⟩
  refine ⟨_, rfl, p, _, 1, _, rfl, rfl, hx, atI_nat (j := 1) rfl, ?_⟩
  refine ⟨_, _, rfl, rfl, mulW (by decide) (up bx.2), ?_⟩
  refine ⟨_, rfl, q, _, 1, _, rfl, rfl, hy, atI_nat (j := 1) rfl, ?_⟩
  refine ⟨_, _, rfl, rfl, mulW (up_bd b2 (by decide)) (up b_y.2), ?_⟩
  refine ⟨_, rfl, _, rfl, _, _, rfl, ?_⟩
  have g0 : 0 < Nat.gcd (x.1 * y.2 + y.1 * x.2).natAbs (2 * x.2 * y.2).natAbs := gcd_pos m0
  have g1 : Nat.gcd (x.1 * y.2 + y.1 * x.2).natAbs (2 * x.2 * y.2).natAbs < 2 ^ 201 := Nat.lt_of_le_of_lt (Nat.gcd_le_right _ (by omega)) bb
  have gc : ∀ z : Int, CDivW z ((Nat.gcd (x.1 * y.2 + y.1 * x.2).natAbs (2 * x.2 * y.2).natAbs : Nat) : Int) := fun z => wide_div (b := 201) (by omega) (by rw [Int.natAbs_natCast]; exact g1) (by decide) (by decide)
  (repeat (first
      | refine ⟨_, rfl, ?_⟩
      | refine ⟨_, _, rfl, rfl, ?_⟩
      | refine Or.inl ⟨_, rfl, ?_⟩
      | refine Or.inr ⟨_, rfl, ?_⟩
      | refine ⟨Or.inl ⟨by decide, by decide⟩, ?_⟩
      | refine ⟨Or.inr ⟨by decide, by decide⟩, ?_⟩
      | refine ⟨⟨by decide, by decide⟩, ?_⟩
      | refine ⟨⟨by decide, by decide, by decide⟩, ?_⟩
      | refine ⟨by decide, ?_⟩
      | refine ⟨(by show (0 : Int) < _; decide), ?_⟩
      | refine ⟨rfl, ?_⟩
      | refine ⟨⟨_, rfl⟩, ?_⟩
      | refine ⟨_, rfl, rfl, trivial, ?_⟩
      | refine ⟨_, _, rfl, ?_⟩))
  refine ⟨gc _, ?_⟩
  (repeat (first
      | refine ⟨_, rfl, ?_⟩
      | refine ⟨_, _, rfl, rfl, ?_⟩
      | refine Or.inl ⟨_, rfl, ?_⟩
      | refine Or.inr ⟨_, rfl, ?_⟩
      | refine ⟨Or.inl ⟨by decide, by decide⟩, ?_⟩
      | refine ⟨Or.inr ⟨by decide, by decide⟩, ?_⟩
      | refine ⟨⟨by decide, by decide⟩, ?_⟩
      | refine ⟨⟨by decide, by decide, by decide⟩, ?_⟩
      | refine ⟨by decide, ?_⟩
      | refine ⟨(by show (0 : Int) < _; decide), ?_⟩
      | refine ⟨rfl, ?_⟩
      | refine ⟨⟨_, rfl⟩, ?_⟩
      | refine ⟨_, rfl, rfl, trivial, ?_⟩
      | refine ⟨_, _, rfl, ?_⟩))
  refine ⟨gc _, ?_⟩
  refine ⟨by show 2 ≤ sizeLine; decide, fun r hr' => ?_⟩
  exact k r _ (same_upd hr') (Nm.new upd_same)
/-! ### number_for -/
def Gd (xs : List Q2) : Prop := xs.length ≤ 1000 ∧ (∀ x ∈ xs, bd2 100 x) ∧ ∀ x ∈ xs, ok2 x
theorem Gd.at {xs : List Q2} (g : Gd xs) {i : Nat} (hi : i < xs.length) : bd2 100 (xs.getD i (0, 1)) ∧ ok2 (xs.getD i (0, 1)) := by
  rw [getD_at hi]
  exact ⟨g.2.1 _ (List.getElem_mem hi), g.2.2 _ (List.getElem_mem hi)⟩
def sp_num (K : PySem.W.Frag) : Sp := fun vs H Q _ => ∃ (k : Nat) (t : Addr) (xs : List Q2), vs = [.int (k : Int), .ref t] ∧ Am K H t xs ∧ Gd xs ∧ k ≤ 2 * xs.length ∧ ∀ r H', L2.Same H H' → Nm K H' r (num2 k xs) → Q (.ref r) H'
theorem ok_number_for (T : Top K mg w) : FnOk P w K mg base CX0 2 T.a_number_for T.d_number_for ["position", "among"] (sp_num K) := by
  refine T.F_number_for.ok sc_number_for (fun vs H Q E h => ?_) (fun cdv A outer s H vs Q E hr h => ?_)
  · obtain ⟨k, t, xs, rfl, _⟩ := h
    rfl
  obtain ⟨k, t, xs, rfl, hA, hG, hk, q⟩ := h
  obtain ⟨us, hU, eU⟩ := hA.len
  refine ⟨_, (pss_cons (ps_set (i := 2) sc_number_for.nd rfl (Or.inl rfl) (pe_op op_fdiv (pv 0) pe_int))
      (pss_cons (ps_if (pt_cmpR op_eq (pe_op op_mod (pv 0) pe_int) pe_int (nomark _))
        (pss_one (ps_ret (pe_ix ix_tup (pv 1) (pv 2) (fun _ _ => rfl))))
        pss_nil)
      (pss_cons (ps_if (pt_cmpR op_eq (pe_callB call_len_seq (by rfl) T.z_len (by decide +kernel) (pa_cons (pv 1) pa_nil)) pe_int (nomark _))
        (pss_one (ps_ret (pe_tup (pa_cons pe_int (pa_cons pe_int pa_nil)))))
        pss_nil)
      (pss_cons (ps_if (pt_cmpR op_eq (pv 2) pe_int (nomark _))
        (pss_cons (ps_asg (pe_ix ix_tup (pv 1) pe_int (fun _ _ => rfl)) (pg_tup (by rfl) (pgs_cons (pg_name (i := 3) sc_number_for.nd rfl (Or.inl rfl)) (pgs_cons (pg_name (i := 4) sc_number_for.nd rfl (Or.inl rfl)) pgs_nil))))
      (pss_one (ps_ret (pe_tup (pa_cons (pe_op op_sub (pv 3) (pv 4)) (pa_cons (pv 4) pa_nil))))))
        pss_nil)
      (pss_cons (ps_if (pt_cmpR op_eq (pv 2) (pe_callB call_len_seq (by rfl) T.z_len (by decide +kernel) (pa_cons (pv 1) pa_nil)) (nomark _))
        (pss_cons (ps_asg (pe_ix ix_tup (pv 1) (pe_un un_neg pe_int) (fun _ _ => rfl)) (pg_tup (by rfl) (pgs_cons (pg_name (i := 3) sc_number_for.nd rfl (Or.inl rfl)) (pgs_cons (pg_name (i := 4) sc_number_for.nd rfl (Or.inl rfl)) pgs_nil))))
      (pss_one (ps_ret (pe_tup (pa_cons (pe_op op_add (pv 3) (pv 4)) (pa_cons (pv 4) pa_nil))))))
        pss_nil)
      (pss_one (ps_ret (pe_call ((ok_middle T).mono (by decide)) hr (by rfl) T.m_middle T.F_middle.kp T.b_middle .nil pass0 (pa_cons (pe_ix ix_tup (pv 1) (pe_op op_sub (pv 2) pe_int) (fun _ _ => rfl)) (pa_cons (pe_ix ix_tup (pv 1) (pv 2) (fun _ _ => rfl)) pa_nil)))))))))), ?_⟩
  have ed : ((k : Int) / 2) = ((k / 2 : Nat) : Int) := rfl
  have em : ((k : Int) % 2) = ((k % 2 : Nat) : Int) := rfl
  (repeat (first
      | refine ⟨_, rfl, ?_⟩
      | refine ⟨_, _, rfl, rfl, ?_⟩
      | refine Or.inl ⟨_, rfl, ?_⟩
      | refine Or.inr ⟨_, rfl, ?_⟩
      | refine ⟨Or.inl ⟨by decide, by decide⟩, ?_⟩
      | refine ⟨Or.inr ⟨by decide, by decide⟩, ?_⟩
      | refine ⟨⟨by decide, by decide⟩, ?_⟩
      | refine ⟨⟨by decide, by decide, by decide⟩, ?_⟩
      | refine ⟨by decide, ?_⟩
      | refine ⟨(by show (0 : Int) < _; decide), ?_⟩
      | refine ⟨rfl, ?_⟩
      | refine ⟨⟨_, rfl⟩, ?_⟩
      | refine ⟨_, rfl, rfl, trivial, ?_⟩
      | refine ⟨_, _, rfl, ?_⟩))
  unfold num2 at q
  refine ite_dec (fun c => ?_) (fun c => ?_)
  · have c' : k % 2 = 1 := by have := V.int.inj c; omega
    rw [if_pos c'] at q
    obtain ⟨ps, p, hT, el, hp, np⟩ := hA.at (i := k / 2) (by omega)
    (repeat (first
      | refine ⟨_, rfl, ?_⟩
      | refine ⟨_, _, rfl, rfl, ?_⟩
      | refine Or.inl ⟨_, rfl, ?_⟩
      | refine Or.inr ⟨_, rfl, ?_⟩
      | refine ⟨Or.inl ⟨by decide, by decide⟩, ?_⟩
      | refine ⟨Or.inr ⟨by decide, by decide⟩, ?_⟩
      | refine ⟨⟨by decide, by decide⟩, ?_⟩
      | refine ⟨⟨by decide, by decide, by decide⟩, ?_⟩
      | refine ⟨by decide, ?_⟩
      | refine ⟨(by show (0 : Int) < _; decide), ?_⟩
      | refine ⟨rfl, ?_⟩
      | refine ⟨⟨_, rfl⟩, ?_⟩
      | refine ⟨_, rfl, rfl, trivial, ?_⟩
      | refine ⟨_, _, rfl, ?_⟩))
    refine ⟨t, _, _, _, rfl, rfl, hT, atI_nat (j := k / 2) hp, ?_⟩
    exact q p H (.refl H) np
  have c' : ¬ k % 2 = 1 := fun e => c (by show V.int ((k % 2 : Nat) : Int) = _; rw [e]; rfl)
  rw [if_neg c'] at q
  (repeat (first
      | refine ⟨_, rfl, ?_⟩
      | refine ⟨_, _, rfl, rfl, ?_⟩
      | refine Or.inl ⟨_, rfl, ?_⟩
      | refine Or.inr ⟨_, rfl, ?_⟩
      | refine ⟨Or.inl ⟨by decide, by decide⟩, ?_⟩
      | refine ⟨Or.inr ⟨by decide, by decide⟩, ?_⟩
      | refine ⟨⟨by decide, by decide⟩, ?_⟩
      | refine ⟨⟨by decide, by decide, by decide⟩, ?_⟩
      | refine ⟨by decide, ?_⟩
      | refine ⟨(by show (0 : Int) < _; decide), ?_⟩
      | refine ⟨rfl, ?_⟩
      | refine ⟨⟨_, rfl⟩, ?_⟩
      | refine ⟨_, rfl, rfl, trivial, ?_⟩
      | refine ⟨_, _, rfl, ?_⟩))
  refine ⟨t, _, rfl, .inr hU, ?_⟩
  rw [eU]
  (repeat (first
      | refine ⟨_, rfl, ?_⟩
      | refine ⟨_, _, rfl, rfl, ?_⟩
      | refine Or.inl ⟨_, rfl, ?_⟩
      | refine Or.inr ⟨_, rfl, ?_⟩
      | refine ⟨Or.inl ⟨by decide, by decide⟩, ?_⟩
      | refine ⟨Or.inr ⟨by decide, by decide⟩, ?_⟩
      | refine ⟨⟨by decide, by decide⟩, ?_⟩
      | refine ⟨⟨by decide, by decide, by decide⟩, ?_⟩
      | refine ⟨by decide, ?_⟩
      | refine ⟨(by show (0 : Int) < _; decide), ?_⟩
      | refine ⟨rfl, ?_⟩
      | refine ⟨⟨_, rfl⟩, ?_⟩
      | refine ⟨_, rfl, rfl, trivial, ?_⟩
      | refine ⟨_, _, rfl, ?_⟩))
  refine ite_dec (fun c => ?_) (fun c => ?_)
  · have c0 : xs.length = 0 := by have := V.int.inj c; omega
    rw [if_pos c0] at q
    (repeat (first
      | refine ⟨_, rfl, ?_⟩
      | refine ⟨_, _, rfl, rfl, ?_⟩
      | refine Or.inl ⟨_, rfl, ?_⟩
      | refine Or.inr ⟨_, rfl, ?_⟩
      | refine ⟨Or.inl ⟨by decide, by decide⟩, ?_⟩
      | refine ⟨Or.inr ⟨by decide, by decide⟩, ?_⟩
      | refine ⟨⟨by decide, by decide⟩, ?_⟩
      | refine ⟨⟨by decide, by decide, by decide⟩, ?_⟩
      | refine ⟨by decide, ?_⟩
      | refine ⟨(by show (0 : Int) < _; decide), ?_⟩
      | refine ⟨rfl, ?_⟩
      | refine ⟨⟨_, rfl⟩, ?_⟩
      | refine ⟨_, rfl, rfl, trivial, ?_⟩
      | refine ⟨_, _, rfl, ?_⟩))
    intro r hr'
    exact q r _ (same_upd hr') (Nm.new upd_same)
  have c0 : ¬ xs.length = 0 := fun e => c (by rw [e]; rfl)
  rw [if_neg c0] at q
  (repeat (first
      | refine ⟨_, rfl, ?_⟩
      | refine ⟨_, _, rfl, rfl, ?_⟩
      | refine Or.inl ⟨_, rfl, ?_⟩
      | refine Or.inr ⟨_, rfl, ?_⟩
      | refine ⟨Or.inl ⟨by decide, by decide⟩, ?_⟩
      | refine ⟨Or.inr ⟨by decide, by decide⟩, ?_⟩
      | refine ⟨⟨by decide, by decide⟩, ?_⟩
      | refine ⟨⟨by decide, by decide, by decide⟩, ?_⟩
      | refine ⟨by decide, ?_⟩
      | refine ⟨(by show (0 : Int) < _; decide), ?_⟩
      | refine ⟨rfl, ?_⟩
      | refine ⟨⟨_, rfl⟩, ?_⟩
      | refine ⟨_, rfl, rfl, trivial, ?_⟩
      | refine ⟨_, _, rfl, ?_⟩))
  refine ite_dec (fun c => ?_) (fun c => ?_)
  · have c1 : k / 2 = 0 := by have := V.int.inj c; omega
    rw [if_pos c1] at q
    obtain ⟨ps, p, hT, el, hp, np⟩ := hA.at (i := 0) (by omega)
    (repeat (first
      | refine ⟨_, rfl, ?_⟩
      | refine ⟨_, _, rfl, rfl, ?_⟩
      | refine Or.inl ⟨_, rfl, ?_⟩
      | refine Or.inr ⟨_, rfl, ?_⟩
      | refine ⟨Or.inl ⟨by decide, by decide⟩, ?_⟩
      | refine ⟨Or.inr ⟨by decide, by decide⟩, ?_⟩
      | refine ⟨⟨by decide, by decide⟩, ?_⟩
      | refine ⟨⟨by decide, by decide, by decide⟩, ?_⟩
      | refine ⟨by decide, ?_⟩
      | refine ⟨(by show (0 : Int) < _; decide), ?_⟩
      | refine ⟨rfl, ?_⟩
      | refine ⟨⟨_, rfl⟩, ?_⟩
      | refine ⟨_, rfl, rfl, trivial, ?_⟩
      | refine ⟨_, _, rfl, ?_⟩))
    refine ⟨t, _, _, _, rfl, rfl, hT, atI_nat (j := 0) hp, ?_⟩
    refine ⟨p, _, rfl, np, rfl, _, _, rfl, _, _, rfl, rfl, ?_⟩
    (repeat (first
      | refine ⟨_, rfl, ?_⟩
      | refine ⟨_, _, rfl, rfl, ?_⟩
      | refine Or.inl ⟨_, rfl, ?_⟩
      | refine Or.inr ⟨_, rfl, ?_⟩
      | refine ⟨Or.inl ⟨by decide, by decide⟩, ?_⟩
      | refine ⟨Or.inr ⟨by decide, by decide⟩, ?_⟩
      | refine ⟨⟨by decide, by decide⟩, ?_⟩
      | refine ⟨⟨by decide, by decide, by decide⟩, ?_⟩
      | refine ⟨by decide, ?_⟩
      | refine ⟨(by show (0 : Int) < _; decide), ?_⟩
      | refine ⟨rfl, ?_⟩
      | refine ⟨⟨_, rfl⟩, ?_⟩
      | refine ⟨_, rfl, rfl, trivial, ?_⟩
      | refine ⟨_, _, rfl, ?_⟩))
    refine ⟨by show 2 ≤ sizeLine; decide, fun r hr' => ?_⟩
    exact q r _ (same_upd hr') (Nm.new upd_same)
  have c1 : ¬ k / 2 = 0 := fun e => c (by show V.int ((k / 2 : Nat) : Int) = _; rw [e]; rfl)
  rw [if_neg c1] at q
  (repeat (first
      | refine ⟨_, rfl, ?_⟩
      | refine ⟨_, _, rfl, rfl, ?_⟩
      | refine Or.inl ⟨_, rfl, ?_⟩
      | refine Or.inr ⟨_, rfl, ?_⟩
      | refine ⟨Or.inl ⟨by decide, by decide⟩, ?_⟩
      | refine ⟨Or.inr ⟨by decide, by decide⟩, ?_⟩
      | refine ⟨⟨by decide, by decide⟩, ?_⟩
      | refine ⟨⟨by decide, by decide, by decide⟩, ?_⟩
      | refine ⟨by decide, ?_⟩
      | refine ⟨(by show (0 : Int) < _; decide), ?_⟩
      | refine ⟨rfl, ?_⟩
      | refine ⟨⟨_, rfl⟩, ?_⟩
      | refine ⟨_, rfl, rfl, trivial, ?_⟩
      | refine ⟨_, _, rfl, ?_⟩))
  refine ⟨t, _, rfl, .inr hU, ?_⟩
  rw [eU]
  (repeat (first
      | refine ⟨_, rfl, ?_⟩
      | refine ⟨_, _, rfl, rfl, ?_⟩
      | refine Or.inl ⟨_, rfl, ?_⟩
      | refine Or.inr ⟨_, rfl, ?_⟩
      | refine ⟨Or.inl ⟨by decide, by decide⟩, ?_⟩
      | refine ⟨Or.inr ⟨by decide, by decide⟩, ?_⟩
      | refine ⟨⟨by decide, by decide⟩, ?_⟩
      | refine ⟨⟨by decide, by decide, by decide⟩, ?_⟩
      | refine ⟨by decide, ?_⟩
      | refine ⟨(by show (0 : Int) < _; decide), ?_⟩
      | refine ⟨rfl, ?_⟩
      | refine ⟨⟨_, rfl⟩, ?_⟩
      | refine ⟨_, rfl, rfl, trivial, ?_⟩
      | refine ⟨_, _, rfl, ?_⟩))
  refine ite_dec (fun c => ?_) (fun c => ?_)
  · have c2 : k / 2 = xs.length := by have := V.int.inj c; omega
    rw [if_pos c2] at q
    obtain ⟨ps, p, hT, el, hp, np⟩ := hA.at (i := xs.length - 1) (by omega)
    (repeat (first
      | refine ⟨_, rfl, ?_⟩
      | refine ⟨_, _, rfl, rfl, ?_⟩
      | refine Or.inl ⟨_, rfl, ?_⟩
      | refine Or.inr ⟨_, rfl, ?_⟩
      | refine ⟨Or.inl ⟨by decide, by decide⟩, ?_⟩
      | refine ⟨Or.inr ⟨by decide, by decide⟩, ?_⟩
      | refine ⟨⟨by decide, by decide⟩, ?_⟩
      | refine ⟨⟨by decide, by decide, by decide⟩, ?_⟩
      | refine ⟨by decide, ?_⟩
      | refine ⟨(by show (0 : Int) < _; decide), ?_⟩
      | refine ⟨rfl, ?_⟩
      | refine ⟨⟨_, rfl⟩, ?_⟩
      | refine ⟨_, rfl, rfl, trivial, ?_⟩
      | refine ⟨_, _, rfl, ?_⟩))
    refine ⟨t, _, _, _, rfl, rfl, hT, atI_neg1 (by rw [List.length_map, el]; exact hp), ?_⟩
    refine ⟨p, _, rfl, np, rfl, _, _, rfl, _, _, rfl, rfl, ?_⟩
    (repeat (first
      | refine ⟨_, rfl, ?_⟩
      | refine ⟨_, _, rfl, rfl, ?_⟩
      | refine Or.inl ⟨_, rfl, ?_⟩
      | refine Or.inr ⟨_, rfl, ?_⟩
      | refine ⟨Or.inl ⟨by decide, by decide⟩, ?_⟩
      | refine ⟨Or.inr ⟨by decide, by decide⟩, ?_⟩
      | refine ⟨⟨by decide, by decide⟩, ?_⟩
      | refine ⟨⟨by decide, by decide, by decide⟩, ?_⟩
      | refine ⟨by decide, ?_⟩
      | refine ⟨(by show (0 : Int) < _; decide), ?_⟩
      | refine ⟨rfl, ?_⟩
      | refine ⟨⟨_, rfl⟩, ?_⟩
      | refine ⟨_, rfl, rfl, trivial, ?_⟩
      | refine ⟨_, _, rfl, ?_⟩))
    refine ⟨by show 2 ≤ sizeLine; decide, fun r hr' => ?_⟩
    exact q r _ (same_upd hr') (Nm.new upd_same)
  have c2 : ¬ k / 2 = xs.length := fun e => c (by show V.int ((k / 2 : Nat) : Int) = _; rw [e])
  rw [if_neg c2] at q
  obtain ⟨ps, p, hT, el, hp, np⟩ := hA.at (i := k / 2 - 1) (by omega)
  obtain ⟨ps', p', hT', el', hp', np'⟩ := hA.at (i := k / 2) (by omega)
  have e1 : ((k / 2 : Nat) : Int) - 1 = ((k / 2 - 1 : Nat) : Int) := by omega
  have g1 := hG.at (i := k / 2 - 1) (by omega)
  have g2 := hG.at (i := k / 2) (by omega)
  (repeat (first
      | refine ⟨_, rfl, ?_⟩
      | refine ⟨_, _, rfl, rfl, ?_⟩
      | refine Or.inl ⟨_, rfl, ?_⟩
      | refine Or.inr ⟨_, rfl, ?_⟩
      | refine ⟨Or.inl ⟨by decide, by decide⟩, ?_⟩
      | refine ⟨Or.inr ⟨by decide, by decide⟩, ?_⟩
      | refine ⟨⟨by decide, by decide⟩, ?_⟩
      | refine ⟨⟨by decide, by decide, by decide⟩, ?_⟩
      | refine ⟨by decide, ?_⟩
      | refine ⟨(by show (0 : Int) < _; decide), ?_⟩
      | refine ⟨rfl, ?_⟩
      | refine ⟨⟨_, rfl⟩, ?_⟩
      | refine ⟨_, rfl, rfl, trivial, ?_⟩
      | refine ⟨_, _, rfl, ?_⟩))
  refine ⟨t, _, _, _, rfl, rfl, hT, (by show atI _ (((k / 2 : Nat) : Int) - 1) = _; rw [e1]; exact atI_nat hp), ?_⟩
  (repeat (first
      | refine ⟨_, rfl, ?_⟩
      | refine ⟨_, _, rfl, rfl, ?_⟩
      | refine Or.inl ⟨_, rfl, ?_⟩
      | refine Or.inr ⟨_, rfl, ?_⟩
      | refine ⟨Or.inl ⟨by decide, by decide⟩, ?_⟩
      | refine ⟨Or.inr ⟨by decide, by decide⟩, ?_⟩
      | refine ⟨⟨by decide, by decide⟩, ?_⟩
      | refine ⟨⟨by decide, by decide, by decide⟩, ?_⟩
      | refine ⟨by decide, ?_⟩
      | refine ⟨(by show (0 : Int) < _; decide), ?_⟩
      | refine ⟨rfl, ?_⟩
      | refine ⟨⟨_, rfl⟩, ?_⟩
      | refine ⟨_, rfl, rfl, trivial, ?_⟩
      | refine ⟨_, _, rfl, ?_⟩))
  refine ⟨t, _, _, _, rfl, rfl, hT', atI_nat (j := k / 2) hp', ?_⟩
  exact ⟨p, p', _, _, rfl, np, np', g1.1, g2.1, g1.2.1, g2.2.1, q⟩
/-! ### _law_due -/
theorem ok_law_due (T : Top K mg w) : FnOk P w K mg base CX0 3 T.a_law_due T.d_law_due ["place", "among"] (sp_num K) := by
  refine T.F_law_due.ok sc_law_due (fun vs H Q E h => ?_) (fun cdv A outer s H vs Q E hr h => ?_)
  · obtain ⟨k, t, xs, rfl, _⟩ := h
    rfl
  obtain ⟨k, t, xs, rfl, hA, hG, hk, q⟩ := h
  obtain ⟨us, hU, eU⟩ := hA.len
  refine ⟨_, (pss_cons (ps_if (pt_cmpR op_eq (pe_op op_odd (pv 0) pe_int) pe_int (nomark _))
        (pss_one (ps_ret (pe_ix ix_tup (pv 1) (pe_op op_fdiv (pv 0) pe_int) (fun _ _ => rfl))))
        pss_nil)
      (pss_cons (ps_if (pt_cmpR op_eq (pe_callB call_len_seq (by rfl) T.z_len (by decide +kernel) (pa_cons (pv 1) pa_nil)) pe_int (nomark _))
        (pss_one (ps_ret (pe_tup (pa_cons pe_int (pa_cons pe_int pa_nil)))))
        pss_nil)
      (pss_cons (ps_if (pt_cmpR op_eq (pv 0) pe_int (nomark _))
        (pss_one (ps_ret (pe_call ((ok_law_pair T).mono (by decide)) hr (by rfl) T.m_law_pair T.F_law_pair.kp T.b_law_pair .nil pass0 (pa_cons (pe_op op_sub (pe_ix ix_tup (pe_ix ix_tup (pv 1) pe_int (fun _ _ => rfl)) pe_int (fun _ _ => rfl)) (pe_ix ix_tup (pe_ix ix_tup (pv 1) pe_int (fun _ _ => rfl)) pe_int (fun _ _ => rfl))) (pa_cons (pe_ix ix_tup (pe_ix ix_tup (pv 1) pe_int (fun _ _ => rfl)) pe_int (fun _ _ => rfl)) pa_nil)))))
        pss_nil)
      (pss_cons (ps_asg (pe_ix ix_tup (pv 1) (pe_op op_sub (pe_op op_fdiv (pv 0) pe_int) pe_int) (fun _ _ => rfl)) (pg_tup (by rfl) (pgs_cons (pg_name (i := 2) sc_law_due.nd rfl (Or.inl rfl)) (pgs_cons (pg_name (i := 3) sc_law_due.nd rfl (Or.inl rfl)) pgs_nil))))
      (pss_cons (ps_if (pt_cmpR op_eq (pv 0) (pe_op op_mul pe_int (pe_callB call_len_seq (by rfl) T.z_len (by decide +kernel) (pa_cons (pv 1) pa_nil))) (nomark _))
        (pss_one (ps_ret (pe_call ((ok_law_pair T).mono (by decide)) hr (by rfl) T.m_law_pair T.F_law_pair.kp T.b_law_pair .nil pass0 (pa_cons (pe_op op_add (pv 2) (pv 3)) (pa_cons (pv 3) pa_nil)))))
        pss_nil)
      (pss_cons (ps_set (i := 4) sc_law_due.nd rfl (Or.inl rfl) (pe_ix ix_tup (pv 1) (pe_op op_fdiv (pv 0) pe_int) (fun _ _ => rfl)))
      (pss_one (ps_ret (pe_call ((ok_law_pair T).mono (by decide)) hr (by rfl) T.m_law_pair T.F_law_pair.kp T.b_law_pair .nil pass0 (pa_cons (pe_op op_add (pe_op op_mulW (pv 2) (pe_ix ix_tup (pv 4) pe_int (fun _ _ => rfl))) (pe_op op_mulW (pe_ix ix_tup (pv 4) pe_int (fun _ _ => rfl)) (pv 3))) (pa_cons (pe_op op_mulW (pe_op op_mulW pe_int (pv 3)) (pe_ix ix_tup (pv 4) pe_int (fun _ _ => rfl))) pa_nil))))))))))), ?_⟩
  have ed : ((k : Int) / 2) = ((k / 2 : Nat) : Int) := rfl
  unfold num2 at q
  (repeat (first
      | refine ⟨_, rfl, ?_⟩
      | refine ⟨_, _, rfl, rfl, ?_⟩
      | refine Or.inl ⟨_, rfl, ?_⟩
      | refine Or.inr ⟨_, rfl, ?_⟩
      | refine ⟨Or.inl ⟨by decide, by decide⟩, ?_⟩
      | refine ⟨Or.inr ⟨by decide, by decide⟩, ?_⟩
      | refine ⟨⟨by decide, by decide⟩, ?_⟩
      | refine ⟨⟨by decide, by decide, by decide⟩, ?_⟩
      | refine ⟨by decide, ?_⟩
      | refine ⟨(by show (0 : Int) < _; decide), ?_⟩
      | refine ⟨rfl, ?_⟩
      | refine ⟨⟨_, rfl⟩, ?_⟩
      | refine ⟨_, rfl, rfl, trivial, ?_⟩
      | refine ⟨_, _, rfl, ?_⟩))
  refine ite_dec (fun c => ?_) (fun c => ?_)
  · have c' : k % 2 = 1 := by have := V.int.inj c; omega
    rw [if_pos c'] at q
    obtain ⟨ps, p, hT, el, hp, np⟩ := hA.at (i := k / 2) (by omega)
    (repeat (first
      | refine ⟨_, rfl, ?_⟩
      | refine ⟨_, _, rfl, rfl, ?_⟩
      | refine Or.inl ⟨_, rfl, ?_⟩
      | refine Or.inr ⟨_, rfl, ?_⟩
      | refine ⟨Or.inl ⟨by decide, by decide⟩, ?_⟩
      | refine ⟨Or.inr ⟨by decide, by decide⟩, ?_⟩
      | refine ⟨⟨by decide, by decide⟩, ?_⟩
      | refine ⟨⟨by decide, by decide, by decide⟩, ?_⟩
      | refine ⟨by decide, ?_⟩
      | refine ⟨(by show (0 : Int) < _; decide), ?_⟩
      | refine ⟨rfl, ?_⟩
      | refine ⟨⟨_, rfl⟩, ?_⟩
      | refine ⟨_, rfl, rfl, trivial, ?_⟩
      | refine ⟨_, _, rfl, ?_⟩))
    refine ⟨t, _, _, _, rfl, rfl, hT, atI_nat (j := k / 2) hp, ?_⟩
    exact q p H (.refl H) np
  have c' : ¬ k % 2 = 1 := fun e => c (by rw [e]; rfl)
  rw [if_neg c'] at q
  (repeat (first
      | refine ⟨_, rfl, ?_⟩
      | refine ⟨_, _, rfl, rfl, ?_⟩
      | refine Or.inl ⟨_, rfl, ?_⟩
      | refine Or.inr ⟨_, rfl, ?_⟩
      | refine ⟨Or.inl ⟨by decide, by decide⟩, ?_⟩
      | refine ⟨Or.inr ⟨by decide, by decide⟩, ?_⟩
      | refine ⟨⟨by decide, by decide⟩, ?_⟩
      | refine ⟨⟨by decide, by decide, by decide⟩, ?_⟩
      | refine ⟨by decide, ?_⟩
      | refine ⟨(by show (0 : Int) < _; decide), ?_⟩
      | refine ⟨rfl, ?_⟩
      | refine ⟨⟨_, rfl⟩, ?_⟩
      | refine ⟨_, rfl, rfl, trivial, ?_⟩
      | refine ⟨_, _, rfl, ?_⟩))
  refine ⟨t, _, rfl, .inr hU, ?_⟩
  rw [eU]
  (repeat (first
      | refine ⟨_, rfl, ?_⟩
      | refine ⟨_, _, rfl, rfl, ?_⟩
      | refine Or.inl ⟨_, rfl, ?_⟩
      | refine Or.inr ⟨_, rfl, ?_⟩
      | refine ⟨Or.inl ⟨by decide, by decide⟩, ?_⟩
      | refine ⟨Or.inr ⟨by decide, by decide⟩, ?_⟩
      | refine ⟨⟨by decide, by decide⟩, ?_⟩
      | refine ⟨⟨by decide, by decide, by decide⟩, ?_⟩
      | refine ⟨by decide, ?_⟩
      | refine ⟨(by show (0 : Int) < _; decide), ?_⟩
      | refine ⟨rfl, ?_⟩
      | refine ⟨⟨_, rfl⟩, ?_⟩
      | refine ⟨_, rfl, rfl, trivial, ?_⟩
      | refine ⟨_, _, rfl, ?_⟩))
  refine ite_dec (fun c => ?_) (fun c => ?_)
  · have c0 : xs.length = 0 := by have := V.int.inj c; omega
    rw [if_pos c0] at q
    (repeat (first
      | refine ⟨_, rfl, ?_⟩
      | refine ⟨_, _, rfl, rfl, ?_⟩
      | refine Or.inl ⟨_, rfl, ?_⟩
      | refine Or.inr ⟨_, rfl, ?_⟩
      | refine ⟨Or.inl ⟨by decide, by decide⟩, ?_⟩
      | refine ⟨Or.inr ⟨by decide, by decide⟩, ?_⟩
      | refine ⟨⟨by decide, by decide⟩, ?_⟩
      | refine ⟨⟨by decide, by decide, by decide⟩, ?_⟩
      | refine ⟨by decide, ?_⟩
      | refine ⟨(by show (0 : Int) < _; decide), ?_⟩
      | refine ⟨rfl, ?_⟩
      | refine ⟨⟨_, rfl⟩, ?_⟩
      | refine ⟨_, rfl, rfl, trivial, ?_⟩
      | refine ⟨_, _, rfl, ?_⟩))
    intro r hr'
    exact q r _ (same_upd hr') (Nm.new upd_same)
  have c0 : ¬ xs.length = 0 := fun e => c (by rw [e]; rfl)
  rw [if_neg c0] at q
  (repeat (first
      | refine ⟨_, rfl, ?_⟩
      | refine ⟨_, _, rfl, rfl, ?_⟩
      | refine Or.inl ⟨_, rfl, ?_⟩
      | refine Or.inr ⟨_, rfl, ?_⟩
      | refine ⟨Or.inl ⟨by decide, by decide⟩, ?_⟩
      | refine ⟨Or.inr ⟨by decide, by decide⟩, ?_⟩
      | refine ⟨⟨by decide, by decide⟩, ?_⟩
      | refine ⟨⟨by decide, by decide, by decide⟩, ?_⟩
      | refine ⟨by decide, ?_⟩
      | refine ⟨(by show (0 : Int) < _; decide), ?_⟩
      | refine ⟨rfl, ?_⟩
      | refine ⟨⟨_, rfl⟩, ?_⟩
      | refine ⟨_, rfl, rfl, trivial, ?_⟩
      | refine ⟨_, _, rfl, ?_⟩))
  have small_bd : ∀ {a : Int}, a.natAbs < 2 ^ 300 → a.natAbs < 2 ^ 8000 := fun h => up_bd h (by decide)
  refine ite_dec (fun c => ?_) (fun c => ?_)
  · have c1 : k / 2 = 0 := by have := V.int.inj c; omega
    rw [if_pos c1] at q
    obtain ⟨ps, p, hT, el, hp, np⟩ := hA.at (i := 0) (by omega)
    have g := hG.at (i := 0) (by omega)
    (repeat (first
      | refine ⟨_, rfl, ?_⟩
      | refine ⟨_, _, rfl, rfl, ?_⟩
      | refine Or.inl ⟨_, rfl, ?_⟩
      | refine Or.inr ⟨_, rfl, ?_⟩
      | refine ⟨Or.inl ⟨by decide, by decide⟩, ?_⟩
      | refine ⟨Or.inr ⟨by decide, by decide⟩, ?_⟩
      | refine ⟨⟨by decide, by decide⟩, ?_⟩
      | refine ⟨⟨by decide, by decide, by decide⟩, ?_⟩
      | refine ⟨by decide, ?_⟩
      | refine ⟨(by show (0 : Int) < _; decide), ?_⟩
      | refine ⟨rfl, ?_⟩
      | refine ⟨⟨_, rfl⟩, ?_⟩
      | refine ⟨_, rfl, rfl, trivial, ?_⟩
      | refine ⟨_, _, rfl, ?_⟩))
    refine ⟨t, _, _, _, rfl, rfl, hT, atI_nat (j := 0) hp, ?_⟩
    refine ⟨p, _, 0, _, rfl, rfl, np, atI_nat (j := 0) rfl, ?_⟩
    (repeat (first
      | refine ⟨_, rfl, ?_⟩
      | refine ⟨_, _, rfl, rfl, ?_⟩
      | refine Or.inl ⟨_, rfl, ?_⟩
      | refine Or.inr ⟨_, rfl, ?_⟩
      | refine ⟨Or.inl ⟨by decide, by decide⟩, ?_⟩
      | refine ⟨Or.inr ⟨by decide, by decide⟩, ?_⟩
      | refine ⟨⟨by decide, by decide⟩, ?_⟩
      | refine ⟨⟨by decide, by decide, by decide⟩, ?_⟩
      | refine ⟨by decide, ?_⟩
      | refine ⟨(by show (0 : Int) < _; decide), ?_⟩
      | refine ⟨rfl, ?_⟩
      | refine ⟨⟨_, rfl⟩, ?_⟩
      | refine ⟨_, rfl, rfl, trivial, ?_⟩
      | refine ⟨_, _, rfl, ?_⟩))
    refine ⟨t, _, _, _, rfl, rfl, hT, atI_nat (j := 0) hp, ?_⟩
    refine ⟨p, _, 1, _, rfl, rfl, np, atI_nat (j := 1) rfl, ?_⟩
    (repeat (first
      | refine ⟨_, rfl, ?_⟩
      | refine ⟨_, _, rfl, rfl, ?_⟩
      | refine Or.inl ⟨_, rfl, ?_⟩
      | refine Or.inr ⟨_, rfl, ?_⟩
      | refine ⟨Or.inl ⟨by decide, by decide⟩, ?_⟩
      | refine ⟨Or.inr ⟨by decide, by decide⟩, ?_⟩
      | refine ⟨⟨by decide, by decide⟩, ?_⟩
      | refine ⟨⟨by decide, by decide, by decide⟩, ?_⟩
      | refine ⟨by decide, ?_⟩
      | refine ⟨(by show (0 : Int) < _; decide), ?_⟩
      | refine ⟨rfl, ?_⟩
      | refine ⟨⟨_, rfl⟩, ?_⟩
      | refine ⟨_, rfl, rfl, trivial, ?_⟩
      | refine ⟨_, _, rfl, ?_⟩))
    refine ⟨t, _, _, _, rfl, rfl, hT, atI_nat (j := 0) hp, ?_⟩
    refine ⟨p, _, 1, _, rfl, rfl, np, atI_nat (j := 1) rfl, ?_⟩
    refine ⟨_, _, rfl, g.2.1, small_bd (up_bd g.1.2 (by decide)), fun r hr' => ?_⟩
    refine q r _ (same_upd hr') (Nm.new ?_)
    rw [upd_same, red_id (sub_ok g.2).2]
  have c1 : ¬ k / 2 = 0 := fun e => c (by rw [show k = 0 by omega]; rfl)
  rw [if_neg c1] at q
  obtain ⟨ps, p, hT, el, hp, np⟩ := hA.at (i := k / 2 - 1) (by omega)
  have g1 := hG.at (i := k / 2 - 1) (by omega)
  have e1 : ((k : Int) / 2) - 1 = ((k / 2 - 1 : Nat) : Int) := by omega
  (repeat (first
      | refine ⟨_, rfl, ?_⟩
      | refine ⟨_, _, rfl, rfl, ?_⟩
      | refine Or.inl ⟨_, rfl, ?_⟩
      | refine Or.inr ⟨_, rfl, ?_⟩
      | refine ⟨Or.inl ⟨by decide, by decide⟩, ?_⟩
      | refine ⟨Or.inr ⟨by decide, by decide⟩, ?_⟩
      | refine ⟨⟨by decide, by decide⟩, ?_⟩
      | refine ⟨⟨by decide, by decide, by decide⟩, ?_⟩
      | refine ⟨by decide, ?_⟩
      | refine ⟨(by show (0 : Int) < _; decide), ?_⟩
      | refine ⟨rfl, ?_⟩
      | refine ⟨⟨_, rfl⟩, ?_⟩
      | refine ⟨_, rfl, rfl, trivial, ?_⟩
      | refine ⟨_, _, rfl, ?_⟩))
  refine ⟨t, _, _, _, rfl, rfl, hT, (by show atI _ (((k : Int) / 2) - 1) = _; rw [e1]; exact atI_nat hp), ?_⟩
  refine ⟨p, _, rfl, np, rfl, _, _, rfl, _, _, rfl, rfl, ?_⟩
  (repeat (first
      | refine ⟨_, rfl, ?_⟩
      | refine ⟨_, _, rfl, rfl, ?_⟩
      | refine Or.inl ⟨_, rfl, ?_⟩
      | refine Or.inr ⟨_, rfl, ?_⟩
      | refine ⟨Or.inl ⟨by decide, by decide⟩, ?_⟩
      | refine ⟨Or.inr ⟨by decide, by decide⟩, ?_⟩
      | refine ⟨⟨by decide, by decide⟩, ?_⟩
      | refine ⟨⟨by decide, by decide, by decide⟩, ?_⟩
      | refine ⟨by decide, ?_⟩
      | refine ⟨(by show (0 : Int) < _; decide), ?_⟩
      | refine ⟨rfl, ?_⟩
      | refine ⟨⟨_, rfl⟩, ?_⟩
      | refine ⟨_, rfl, rfl, trivial, ?_⟩
      | refine ⟨_, _, rfl, ?_⟩))
  refine ⟨t, _, rfl, .inr hU, ?_⟩
  rw [eU]
  (repeat (first
      | refine ⟨_, rfl, ?_⟩
      | refine ⟨_, _, rfl, rfl, ?_⟩
      | refine Or.inl ⟨_, rfl, ?_⟩
      | refine Or.inr ⟨_, rfl, ?_⟩
      | refine ⟨Or.inl ⟨by decide, by decide⟩, ?_⟩
      | refine ⟨Or.inr ⟨by decide, by decide⟩, ?_⟩
      | refine ⟨⟨by decide, by decide⟩, ?_⟩
      | refine ⟨⟨by decide, by decide, by decide⟩, ?_⟩
      | refine ⟨by decide, ?_⟩
      | refine ⟨(by show (0 : Int) < _; decide), ?_⟩
      | refine ⟨rfl, ?_⟩
      | refine ⟨⟨_, rfl⟩, ?_⟩
      | refine ⟨_, rfl, rfl, trivial, ?_⟩
      | refine ⟨_, _, rfl, ?_⟩))
  refine ite_dec (fun c => ?_) (fun c => ?_)
  · have c2 : k / 2 = xs.length := by have := V.int.inj c; omega
    rw [if_pos c2, ← c2] at q
    (repeat (first
      | refine ⟨_, rfl, ?_⟩
      | refine ⟨_, _, rfl, rfl, ?_⟩
      | refine Or.inl ⟨_, rfl, ?_⟩
      | refine Or.inr ⟨_, rfl, ?_⟩
      | refine ⟨Or.inl ⟨by decide, by decide⟩, ?_⟩
      | refine ⟨Or.inr ⟨by decide, by decide⟩, ?_⟩
      | refine ⟨⟨by decide, by decide⟩, ?_⟩
      | refine ⟨⟨by decide, by decide, by decide⟩, ?_⟩
      | refine ⟨by decide, ?_⟩
      | refine ⟨(by show (0 : Int) < _; decide), ?_⟩
      | refine ⟨rfl, ?_⟩
      | refine ⟨⟨_, rfl⟩, ?_⟩
      | refine ⟨_, rfl, rfl, trivial, ?_⟩
      | refine ⟨_, _, rfl, ?_⟩))
    first | refine ⟨_, _, rfl, g1.2.1, small_bd (up_bd g1.1.2 (by decide)), fun r hr' => ?_⟩ | refine ⟨g1.2.1, small_bd (up_bd g1.1.2 (by decide)), fun r hr' => ?_⟩
    refine q r _ (same_upd hr') (Nm.new ?_)
    rw [upd_same, red_id (add_ok g1.2).2]
  have c2 : ¬ k / 2 = xs.length := fun e => c (by rw [show k = 2 * xs.length by omega]; rfl)
  rw [if_neg c2] at q
  obtain ⟨ps', p', hT', el', hp', np'⟩ := hA.at (i := k / 2) (by omega)
  have g2 := hG.at (i := k / 2) (by omega)
  (repeat (first
      | refine ⟨_, rfl, ?_⟩
      | refine ⟨_, _, rfl, rfl, ?_⟩
      | refine Or.inl ⟨_, rfl, ?_⟩
      | refine Or.inr ⟨_, rfl, ?_⟩
      | refine ⟨Or.inl ⟨by decide, by decide⟩, ?_⟩
      | refine ⟨Or.inr ⟨by decide, by decide⟩, ?_⟩
      | refine ⟨⟨by decide, by decide⟩, ?_⟩
      | refine ⟨⟨by decide, by decide, by decide⟩, ?_⟩
      | refine ⟨by decide, ?_⟩
      | refine ⟨(by show (0 : Int) < _; decide), ?_⟩
      | refine ⟨rfl, ?_⟩
      | refine ⟨⟨_, rfl⟩, ?_⟩
      | refine ⟨_, rfl, rfl, trivial, ?_⟩
      | refine ⟨_, _, rfl, ?_⟩))
  refine ⟨t, _, _, _, rfl, rfl, hT', atI_nat (j := k / 2) hp', ?_⟩
  refine ⟨_, rfl, _, rfl, p', _, 1, _, rfl, rfl, np', atI_nat (j := 1) rfl, ?_⟩
  generalize xs.getD (k / 2 - 1) (0, 1) = x at *
  generalize xs.getD (k / 2) (0, 1) = y at *
  have up : ∀ {a : Int}, a.natAbs < 2 ^ 100 → a.natAbs < 2 ^ 1000 := fun h => up_bd h (by decide)
  have b2 : (2 * x.2).natAbs < 2 ^ 101 := by
    rw [Int.two_mul]
    exact add_bd g1.1.2 g1.1.2
  have bb : (2 * x.2 * y.2).natAbs < 2 ^ 201 := mul_bd b2 g2.1.2
  refine ⟨_, _, rfl, rfl, mulW (up g1.1.1) (up g2.1.2), ?_⟩
  refine ⟨_, rfl, p', _, 0, _, rfl, rfl, np', atI_nat (j := 0) rfl, ?_⟩
  (repeat (first
      | refine ⟨_, rfl, ?_⟩
      | refine ⟨_, _, rfl, rfl, ?_⟩
      | refine Or.inl ⟨_, rfl, ?_⟩
      | refine Or.inr ⟨_, rfl, ?_⟩
      | refine ⟨Or.inl ⟨by decide, by decide⟩, ?_⟩
      | refine ⟨Or.inr ⟨by decide, by decide⟩, ?_⟩
      | refine ⟨⟨by decide, by decide⟩, ?_⟩
      | refine ⟨⟨by decide, by decide, by decide⟩, ?_⟩
      | refine ⟨by decide, ?_⟩
      | refine ⟨(by show (0 : Int) < _; decide), ?_⟩
      | refine ⟨rfl, ?_⟩
      | refine ⟨⟨_, rfl⟩, ?_⟩
      | refine ⟨_, rfl, rfl, trivial, ?_⟩
      | refine ⟨_, _, rfl, ?_⟩))
  refine ⟨mulW (up g2.1.1) (up g1.1.2), ?_⟩
  (repeat (first
      | refine ⟨_, rfl, ?_⟩
      | refine ⟨_, _, rfl, rfl, ?_⟩
      | refine Or.inl ⟨_, rfl, ?_⟩
      | refine Or.inr ⟨_, rfl, ?_⟩
      | refine ⟨Or.inl ⟨by decide, by decide⟩, ?_⟩
      | refine ⟨Or.inr ⟨by decide, by decide⟩, ?_⟩
      | refine ⟨⟨by decide, by decide⟩, ?_⟩
      | refine ⟨⟨by decide, by decide, by decide⟩, ?_⟩
      | refine ⟨by decide, ?_⟩
      | refine ⟨(by show (0 : Int) < _; decide), ?_⟩
      | refine ⟨rfl, ?_⟩
      | refine ⟨⟨_, rfl⟩, ?_⟩
      | refine ⟨_, rfl, rfl, trivial, ?_⟩
      | refine ⟨_, _, rfl, ?_⟩))
  refine ⟨mulW (by decide) (up g1.1.2), ?_⟩
  (repeat (first
      | refine ⟨_, rfl, ?_⟩
      | refine ⟨_, _, rfl, rfl, ?_⟩
      | refine Or.inl ⟨_, rfl, ?_⟩
      | refine Or.inr ⟨_, rfl, ?_⟩
      | refine ⟨Or.inl ⟨by decide, by decide⟩, ?_⟩
      | refine ⟨Or.inr ⟨by decide, by decide⟩, ?_⟩
      | refine ⟨⟨by decide, by decide⟩, ?_⟩
      | refine ⟨⟨by decide, by decide, by decide⟩, ?_⟩
      | refine ⟨by decide, ?_⟩
      | refine ⟨(by show (0 : Int) < _; decide), ?_⟩
      | refine ⟨rfl, ?_⟩
      | refine ⟨⟨_, rfl⟩, ?_⟩
      | refine ⟨_, rfl, rfl, trivial, ?_⟩
      | refine ⟨_, _, rfl, ?_⟩))
  refine ⟨p', _, 1, _, rfl, rfl, np', atI_nat (j := 1) rfl, ?_⟩
  (repeat (first
      | refine ⟨_, rfl, ?_⟩
      | refine ⟨_, _, rfl, rfl, ?_⟩
      | refine Or.inl ⟨_, rfl, ?_⟩
      | refine Or.inr ⟨_, rfl, ?_⟩
      | refine ⟨Or.inl ⟨by decide, by decide⟩, ?_⟩
      | refine ⟨Or.inr ⟨by decide, by decide⟩, ?_⟩
      | refine ⟨⟨by decide, by decide⟩, ?_⟩
      | refine ⟨⟨by decide, by decide, by decide⟩, ?_⟩
      | refine ⟨by decide, ?_⟩
      | refine ⟨(by show (0 : Int) < _; decide), ?_⟩
      | refine ⟨rfl, ?_⟩
      | refine ⟨⟨_, rfl⟩, ?_⟩
      | refine ⟨_, rfl, rfl, trivial, ?_⟩
      | refine ⟨_, _, rfl, ?_⟩))
  refine ⟨mulW (up_bd b2 (by decide)) (up g2.1.2), ?_⟩
  refine ⟨_, _, rfl, mid2_pos g1.2.1 g2.2.1, up_bd bb (by decide), fun r hr' => ?_⟩
  exact q r _ (same_upd hr') (Nm.new upd_same)
end
end My

namespace My
open PySem PySem.Spec PyProof.Rows L2
section
variable {P : Program} {w : World} {K : PySem.W.Frag} {mg : Str → Option Value} {base : Heap}
def spLaw (K : PySem.W.Frag) : Sp := fun vs H Q _ => ∃ (a : Addr) (ns : List Int), vs = [.ref a] ∧ SqL K H a (ns.map V.int) ∧ ns.length ≤ 63 ∧ ∀ H', Q (.bl true) H'
theorem ok_law (T : Top K mg w) : FnOk P w K mg base CX0 10 T.a_law T.d_law ["script"] (spLaw K) := by
  refine T.F_law.ok sc_law (fun vs H Q E h => ?_) (fun cdv A outer s H vs Q E hr h => ?_)
  · obtain ⟨a, ns, rfl, _⟩ := h
    rfl
  obtain ⟨a, ns, rfl, hS, h63, q⟩ := h
  have G_law_equal : FnOk P w K mg base CX0 9 T.a_law_equal T.d_law_equal ["actual", "due"] (sp_law_equal K 1) := (ok_law_equal T 1).mono (by decide)
  refine ⟨_, (pss_cons (ps_set (i := 1) sc_law.nd rfl (Or.inl rfl) (pe_lst (pa_cons (pe_call ((ok_law_tape T).mono (by decide)) hr (by rfl) T.m_law_tape T.F_law_tape.kp T.b_law_tape .nil pass0 (pa_cons (pv 0) pa_nil)) (pa_cons pe_int pa_nil))))
      (pss_cons (ps_set (i := 2) sc_law.nd rfl (Or.inl rfl) (pe_tup pa_nil))
      (pss_cons (ps_for PassesOwn.never rfl (pi_range1 (by rfl) T.z_range (pa_cons (pe_call ((ok_law_take T).mono (by decide)) hr (by rfl) T.m_law_take T.F_law_take.kp T.b_law_take .nil pass0 (pa_cons (pv 1) (pa_cons pe_int pa_nil))) pa_nil)) (pg_name (i := 3) sc_law.nd rfl (Or.inl rfl))
        (pss_one (ps_set (i := 2) sc_law.nd rfl (Or.inl rfl) (pe_call ((ok_law_with T).mono (by decide)) hr (by rfl) T.m_law_with T.F_law_with.kp T.b_law_with .nil pass0 (pa_cons (pv 2) (pa_cons (pe_call ((ok_law_number T).mono (by decide)) hr (by rfl) T.m_law_number T.F_law_number.kp T.b_law_number .nil pass0 (pa_cons (pv 1) pa_nil)) pa_nil))))))
      (pss_cons (ps_set (i := 4) sc_law.nd rfl (Or.inl rfl) (pe_call ((ok_law_number T).mono (by decide)) hr (by rfl) T.m_law_number T.F_law_number.kp T.b_law_number .nil pass0 (pa_cons (pv 1) pa_nil)))
      (pss_cons (ps_set (i := 5) sc_law.nd rfl (Or.inl rfl) (pe_call ((ok_law_number T).mono (by decide)) hr (by rfl) T.m_law_number T.F_law_number.kp T.b_law_number .nil pass0 (pa_cons (pv 1) pa_nil)))
      (C8.pss_cut (ps_if (PW.pt (pw_and (pt_cmpR op_gt (pe_callB call_len_seq (by rfl) T.z_len (by decide +kernel) (pa_cons (pv 2) pa_nil)) pe_int (nomark _)) (pw_and1 (pt_cmpR op_eq (pe_call ((ok_law_take T).mono (by decide)) hr (by rfl) T.m_law_take T.F_law_take.kp T.b_law_take .nil pass0 (pa_cons (pv 1) (pa_cons pe_int pa_nil))) pe_int (nomark _)))))
        (pss_one (ps_set (i := 5) sc_law.nd rfl (Or.inl rfl) (pe_ix ix_tup (pv 2) (pe_call ((ok_law_take T).mono (by decide)) hr (by rfl) T.m_law_take T.F_law_take.kp T.b_law_take .nil pass0 (pa_cons (pv 1) (pa_cons (pe_callB call_len_seq (by rfl) T.z_len (by decide +kernel) (pa_cons (pv 2) pa_nil)) pa_nil))) (fun _ _ => rfl))))
        pss_nil)
      (pss_cons (ps_for PassesOwn.never rfl (pi_list (pe_lst (pa_cons (pe_tup (pa_cons (pv 4) (pa_cons (pv 5) pa_nil))) (pa_cons (pe_tup (pa_cons (pv 5) (pa_cons (pv 4) pa_nil))) (pa_cons (pe_tup (pa_cons (pv 4) (pa_cons (pv 4) pa_nil))) pa_nil))))) (pg_name (i := 6) sc_law.nd rfl (Or.inl rfl))
        (pss_one (ps_if (pt_not (pt_val (pe_call G_law_equal hr (by rfl) T.m_law_equal T.F_law_equal.kp T.b_law_equal .nil pass0 (pa_cons (pe_call ((ok_less T).mono (by decide)) hr (by rfl) T.m_less T.F_less.kp T.b_less .nil pass0 (pa_cons (pe_ix ix_tup (pv 6) pe_int (fun _ _ => rfl)) (pa_cons (pe_ix ix_tup (pv 6) pe_int (fun _ _ => rfl)) pa_nil))) (pa_cons (pe_call ((ok_law_less T).mono (by decide)) hr (by rfl) T.m_law_less T.F_law_less.kp T.b_law_less .nil pass0 (pa_cons (pe_ix ix_tup (pv 6) pe_int (fun _ _ => rfl)) (pa_cons (pe_ix ix_tup (pv 6) pe_int (fun _ _ => rfl)) pa_nil))) pa_nil)))))
        (pss_one (ps_ret pe_bl))
        pss_nil)))
      (pss_cons (ps_for PassesOwn.never rfl (pi_list (pe_lst (pa_cons (pv 4) (pa_cons (pv 5) pa_nil)))) (pg_name (i := 7) sc_law.nd rfl (Or.inl rfl))
        (pss_one (ps_if (pt_not (pt_val (pe_call G_law_equal hr (by rfl) T.m_law_equal T.F_law_equal.kp T.b_law_equal .nil pass0 (pa_cons (pe_call ((ok_position T).mono (by decide)) hr (by rfl) T.m_position T.F_position.kp T.b_position .nil pass0 (pa_cons (pv 7) (pa_cons (pv 2) pa_nil))) (pa_cons (pe_call ((ok_law_place T).mono (by decide)) hr (by rfl) T.m_law_place T.F_law_place.kp T.b_law_place .nil pass0 (pa_cons (pv 7) (pa_cons (pv 2) pa_nil))) pa_nil)))))
        (pss_one (ps_ret pe_bl))
        pss_nil)))
      (pss_cons (ps_for PassesOwn.never rfl (pi_range1 (by rfl) T.z_range (pa_cons (pe_op op_add (pe_op op_mul pe_int (pe_callB call_len_seq (by rfl) T.z_len (by decide +kernel) (pa_cons (pv 2) pa_nil))) pe_int) pa_nil)) (pg_name (i := 8) sc_law.nd rfl (Or.inl rfl))
        (pss_cons (ps_set (i := 7) sc_law.nd rfl (Or.inl rfl) (pe_call ((ok_number_for T).mono (by decide)) hr (by rfl) T.m_number_for T.F_number_for.kp T.b_number_for .nil pass0 (pa_cons (pv 8) (pa_cons (pv 2) pa_nil))))
      (pss_one (ps_if (PW.pt (pw_or (pt_not (pt_val (pe_call G_law_equal hr (by rfl) T.m_law_equal T.F_law_equal.kp T.b_law_equal .nil pass0 (pa_cons (pv 7) (pa_cons (pe_call ((ok_law_due T).mono (by decide)) hr (by rfl) T.m_law_due T.F_law_due.kp T.b_law_due .nil pass0 (pa_cons (pv 8) (pa_cons (pv 2) pa_nil))) pa_nil))))) (pw_or1 (pt_not (pt_val (pe_call G_law_equal hr (by rfl) T.m_law_equal T.F_law_equal.kp T.b_law_equal .nil pass0 (pa_cons (pe_call ((ok_position T).mono (by decide)) hr (by rfl) T.m_position T.F_position.kp T.b_position .nil pass0 (pa_cons (pv 7) (pa_cons (pv 2) pa_nil))) (pa_cons (pv 8) pa_nil))))))))
        (pss_one (ps_ret pe_bl))
        pss_nil))))
      (pss_one (ps_ret pe_bl))))))))))), ?_⟩
  (repeat (first
      | refine ⟨_, rfl, ?_⟩
      | refine ⟨_, _, rfl, rfl, ?_⟩
      | refine Or.inl ⟨_, rfl, ?_⟩
      | refine Or.inr ⟨_, rfl, ?_⟩
      | refine ⟨Or.inl ⟨by decide, by decide⟩, ?_⟩
      | refine ⟨Or.inr ⟨by decide, by decide⟩, ?_⟩
      | refine ⟨⟨by decide, by decide⟩, ?_⟩
      | refine ⟨⟨by decide, by decide, by decide⟩, ?_⟩
      | refine ⟨by decide, ?_⟩
      | refine ⟨(by show (0 : Int) < _; decide), ?_⟩
      | refine ⟨rfl, ?_⟩
      | refine ⟨⟨_, rfl⟩, ?_⟩
      | refine ⟨_, rfl, rfl, trivial, ?_⟩
      | refine ⟨_, _, rfl, ?_⟩))
  refine ⟨a, ns, rfl, hS, h63, fun H1 tp ts s1 f1 e1 b1 l1 => ?_⟩
  (repeat (first
      | refine ⟨_, rfl, ?_⟩
      | refine ⟨_, _, rfl, rfl, ?_⟩
      | refine Or.inl ⟨_, rfl, ?_⟩
      | refine Or.inr ⟨_, rfl, ?_⟩
      | refine ⟨Or.inl ⟨by decide, by decide⟩, ?_⟩
      | refine ⟨Or.inr ⟨by decide, by decide⟩, ?_⟩
      | refine ⟨⟨by decide, by decide⟩, ?_⟩
      | refine ⟨⟨by decide, by decide, by decide⟩, ?_⟩
      | refine ⟨by decide, ?_⟩
      | refine ⟨(by show (0 : Int) < _; decide), ?_⟩
      | refine ⟨rfl, ?_⟩
      | refine ⟨⟨_, rfl⟩, ?_⟩
      | refine ⟨_, rfl, rfl, trivial, ?_⟩
      | refine ⟨_, _, rfl, ?_⟩))
  refine ⟨by show 2 ≤ sizeLine; decide, fun st hst => ?_⟩
  have S2 : St (upd H1 st (.lst [.ref tp, .int 0])) st 0 := ⟨tp, ts, upd_same, ne_of_none e1 hst, by rw [upd_ne (ne_of_none e1 hst)]; exact e1, l1, b1⟩
  generalize upd H1 st (.lst [.ref tp, .int 0]) = H2 at S2 ⊢
  refine ⟨by show 0 ≤ sizeLine; decide, fun t0 ht0 => ?_⟩
  have S3 : St (upd H2 t0 (.tup [])) st 0 := S2.new ht0
  have A3 : Am K (upd H2 t0 (.tup [])) t0 [] := ⟨[], SqT.of upd_same, .nil⟩
  generalize upd H2 t0 (.tup []) = H3 at S3 A3 ⊢
  (repeat (first
      | refine ⟨_, rfl, ?_⟩
      | refine ⟨_, _, rfl, rfl, ?_⟩
      | refine Or.inl ⟨_, rfl, ?_⟩
      | refine Or.inr ⟨_, rfl, ?_⟩
      | refine ⟨Or.inl ⟨by decide, by decide⟩, ?_⟩
      | refine ⟨Or.inr ⟨by decide, by decide⟩, ?_⟩
      | refine ⟨⟨by decide, by decide⟩, ?_⟩
      | refine ⟨⟨by decide, by decide, by decide⟩, ?_⟩
      | refine ⟨by decide, ?_⟩
      | refine ⟨(by show (0 : Int) < _; decide), ?_⟩
      | refine ⟨rfl, ?_⟩
      | refine ⟨⟨_, rfl⟩, ?_⟩
      | refine ⟨_, rfl, rfl, trivial, ?_⟩
      | refine ⟨_, _, rfl, ?_⟩))
  refine ⟨st, 0, 8, rfl, S3, by decide, by decide, fun v H4 v0 v1 x4 S4 => ?_⟩
  have A4 := Am.sx x4 A3
  (repeat (first
      | refine ⟨_, rfl, ?_⟩
      | refine ⟨_, _, rfl, rfl, ?_⟩
      | refine Or.inl ⟨_, rfl, ?_⟩
      | refine Or.inr ⟨_, rfl, ?_⟩
      | refine ⟨Or.inl ⟨by decide, by decide⟩, ?_⟩
      | refine ⟨Or.inr ⟨by decide, by decide⟩, ?_⟩
      | refine ⟨⟨by decide, by decide⟩, ?_⟩
      | refine ⟨⟨by decide, by decide, by decide⟩, ?_⟩
      | refine ⟨by decide, ?_⟩
      | refine ⟨(by show (0 : Int) < _; decide), ?_⟩
      | refine ⟨rfl, ?_⟩
      | refine ⟨⟨_, rfl⟩, ?_⟩
      | refine ⟨_, rfl, rfl, trivial, ?_⟩
      | refine ⟨_, _, rfl, ?_⟩))
  refine ⟨by omega, by omega, ?_⟩
  refine for_range (lo := 0) (n := v.toNat) (fun j σ H' => ∃ (t : Addr) (xs : List Q2) (n : Nat) (y3 y4 y5 y6 y7 y8 : Option V), σ = [some (.ref a), some (.ref st), some (.ref t), y3, y4, y5, y6, y7, y8] ∧ St H' st n ∧ n ≤ 1 + 4 * j ∧ Am K H' t xs ∧ Srt xs ∧ (∀ x ∈ xs, bd2 60 x) ∧ xs.length ≤ j) ?_ ?_ ?_
  · exact ⟨t0, [], 1, _, _, _, _, _, _, rfl, S4, by omega, A4, ⟨.nil, fun _ h => by cases h⟩, (fun _ h => by cases h), Nat.le_refl _⟩
  · rintro j σ H' hj ⟨t, xs, n, y3, y4, y5, y6, y7, y8, rfl, hs, hn, hA, hSr, hb, hlen⟩
    have hj8 : j < 8 := by omega
    (repeat (first
      | refine ⟨_, rfl, ?_⟩
      | refine ⟨_, _, rfl, rfl, ?_⟩
      | refine Or.inl ⟨_, rfl, ?_⟩
      | refine Or.inr ⟨_, rfl, ?_⟩
      | refine ⟨Or.inl ⟨by decide, by decide⟩, ?_⟩
      | refine ⟨Or.inr ⟨by decide, by decide⟩, ?_⟩
      | refine ⟨⟨by decide, by decide⟩, ?_⟩
      | refine ⟨⟨by decide, by decide, by decide⟩, ?_⟩
      | refine ⟨by decide, ?_⟩
      | refine ⟨(by show (0 : Int) < _; decide), ?_⟩
      | refine ⟨rfl, ?_⟩
      | refine ⟨⟨_, rfl⟩, ?_⟩
      | refine ⟨_, rfl, rfl, trivial, ?_⟩
      | refine ⟨_, _, rfl, ?_⟩))
    refine ⟨st, n, rfl, hs, by omega, fun p x n' H5 sx5 hs5 hn5 nm5 gd5 => ?_⟩
    (repeat (first
      | refine ⟨_, rfl, ?_⟩
      | refine ⟨_, _, rfl, rfl, ?_⟩
      | refine Or.inl ⟨_, rfl, ?_⟩
      | refine Or.inr ⟨_, rfl, ?_⟩
      | refine ⟨Or.inl ⟨by decide, by decide⟩, ?_⟩
      | refine ⟨Or.inr ⟨by decide, by decide⟩, ?_⟩
      | refine ⟨⟨by decide, by decide⟩, ?_⟩
      | refine ⟨⟨by decide, by decide, by decide⟩, ?_⟩
      | refine ⟨by decide, ?_⟩
      | refine ⟨(by show (0 : Int) < _; decide), ?_⟩
      | refine ⟨rfl, ?_⟩
      | refine ⟨⟨_, rfl⟩, ?_⟩
      | refine ⟨_, rfl, rfl, trivial, ?_⟩
      | refine ⟨_, _, rfl, ?_⟩))
    refine ⟨t, p, xs, x, rfl, Am.sx sx5 hA, nm5, (fun y hy => bd2_mono (hb y hy) (by decide)), bd2_mono gd5.2 (by decide), by omega, fun p' H6 sm6 am6 => ?_⟩
    exact ⟨p', with2 xs x, n', _, _, _, _, _, _, rfl, hs5.same sm6, by omega, am6, with2_srt hSr gd5.1, (fun y hy => by
      rcases with2_mem hy with e | e
      · rw [e]; exact gd5.2
      · exact hb y e), Nat.le_trans (with2_len xs x) (by omega)⟩
  rintro σ H5 ⟨t, xs, n, y3, y4, y5, y6, y7, y8, rfl, hs, hn, hA, hSr, hb, hlen⟩
  have hv : v.toNat ≤ 8 := by omega
  have hGd : Gd xs := ⟨by omega, fun x hx => bd2_mono (hb x hx) (by decide), hSr.2⟩
  have hB : BdL 1000 xs := fun x hx => bd2_mono (hb x hx) (by decide)
  (repeat (first
      | refine ⟨_, rfl, ?_⟩
      | refine ⟨_, _, rfl, rfl, ?_⟩
      | refine Or.inl ⟨_, rfl, ?_⟩
      | refine Or.inr ⟨_, rfl, ?_⟩
      | refine ⟨Or.inl ⟨by decide, by decide⟩, ?_⟩
      | refine ⟨Or.inr ⟨by decide, by decide⟩, ?_⟩
      | refine ⟨⟨by decide, by decide⟩, ?_⟩
      | refine ⟨⟨by decide, by decide, by decide⟩, ?_⟩
      | refine ⟨by decide, ?_⟩
      | refine ⟨(by show (0 : Int) < _; decide), ?_⟩
      | refine ⟨rfl, ?_⟩
      | refine ⟨⟨_, rfl⟩, ?_⟩
      | refine ⟨_, rfl, rfl, trivial, ?_⟩
      | refine ⟨_, _, rfl, ?_⟩))
  refine ⟨st, n, rfl, hs, by omega, fun p1 x1 n1 H6 sx6 hs6 hn6 nm1 gd1 => ?_⟩
  have hA6 := Am.sx sx6 hA
  (repeat (first
      | refine ⟨_, rfl, ?_⟩
      | refine ⟨_, _, rfl, rfl, ?_⟩
      | refine Or.inl ⟨_, rfl, ?_⟩
      | refine Or.inr ⟨_, rfl, ?_⟩
      | refine ⟨Or.inl ⟨by decide, by decide⟩, ?_⟩
      | refine ⟨Or.inr ⟨by decide, by decide⟩, ?_⟩
      | refine ⟨⟨by decide, by decide⟩, ?_⟩
      | refine ⟨⟨by decide, by decide, by decide⟩, ?_⟩
      | refine ⟨by decide, ?_⟩
      | refine ⟨(by show (0 : Int) < _; decide), ?_⟩
      | refine ⟨rfl, ?_⟩
      | refine ⟨⟨_, rfl⟩, ?_⟩
      | refine ⟨_, rfl, rfl, trivial, ?_⟩
      | refine ⟨_, _, rfl, ?_⟩))
  refine ⟨st, n1, rfl, hs6, by omega, fun p2 x2 n2 H7 sx7 hs7 hn7 nm2 gd2' => ?_⟩
  have hA7 := Am.sx sx7 hA6
  have nm1' := Nm.sx sx7 nm1
  refine ⟨fun σ H' => ∃ (q : Addr) (y : Q2) (y3 y6 y7 y8 : Option V), σ = [some (.ref a), some (.ref st), some (.ref t), y3, some (.ref p1), some (.ref q), y6, y7, y8] ∧ Am K H' t xs ∧ Nm K H' p1 x1 ∧ Nm K H' q y ∧ gd2 y, ?_, ?_⟩
  · obtain ⟨us, hU, eU⟩ := hA7.len
    (repeat (first
      | refine ⟨_, rfl, ?_⟩
      | refine ⟨_, _, rfl, rfl, ?_⟩
      | refine Or.inl ⟨_, rfl, ?_⟩
      | refine Or.inr ⟨_, rfl, ?_⟩
      | refine ⟨Or.inl ⟨by decide, by decide⟩, ?_⟩
      | refine ⟨Or.inr ⟨by decide, by decide⟩, ?_⟩
      | refine ⟨⟨by decide, by decide⟩, ?_⟩
      | refine ⟨⟨by decide, by decide, by decide⟩, ?_⟩
      | refine ⟨by decide, ?_⟩
      | refine ⟨(by show (0 : Int) < _; decide), ?_⟩
      | refine ⟨rfl, ?_⟩
      | refine ⟨⟨_, rfl⟩, ?_⟩
      | refine ⟨_, rfl, rfl, trivial, ?_⟩
      | refine ⟨_, _, rfl, ?_⟩))
    refine ⟨t, _, rfl, .inr hU, ?_⟩
    rw [eU]
    (repeat (first
      | refine ⟨_, rfl, ?_⟩
      | refine ⟨_, _, rfl, rfl, ?_⟩
      | refine Or.inl ⟨_, rfl, ?_⟩
      | refine Or.inr ⟨_, rfl, ?_⟩
      | refine ⟨Or.inl ⟨by decide, by decide⟩, ?_⟩
      | refine ⟨Or.inr ⟨by decide, by decide⟩, ?_⟩
      | refine ⟨⟨by decide, by decide⟩, ?_⟩
      | refine ⟨⟨by decide, by decide, by decide⟩, ?_⟩
      | refine ⟨by decide, ?_⟩
      | refine ⟨(by show (0 : Int) < _; decide), ?_⟩
      | refine ⟨rfl, ?_⟩
      | refine ⟨⟨_, rfl⟩, ?_⟩
      | refine ⟨_, rfl, rfl, trivial, ?_⟩
      | refine ⟨_, _, rfl, ?_⟩))
    refine ite_dec (fun c => ?_) (fun c => ?_)
    · have hl0 : 0 < xs.length := by omega
      (repeat (first
      | refine ⟨_, rfl, ?_⟩
      | refine ⟨_, _, rfl, rfl, ?_⟩
      | refine Or.inl ⟨_, rfl, ?_⟩
      | refine Or.inr ⟨_, rfl, ?_⟩
      | refine ⟨Or.inl ⟨by decide, by decide⟩, ?_⟩
      | refine ⟨Or.inr ⟨by decide, by decide⟩, ?_⟩
      | refine ⟨⟨by decide, by decide⟩, ?_⟩
      | refine ⟨⟨by decide, by decide, by decide⟩, ?_⟩
      | refine ⟨by decide, ?_⟩
      | refine ⟨(by show (0 : Int) < _; decide), ?_⟩
      | refine ⟨rfl, ?_⟩
      | refine ⟨⟨_, rfl⟩, ?_⟩
      | refine ⟨_, rfl, rfl, trivial, ?_⟩
      | refine ⟨_, _, rfl, ?_⟩))
      refine ⟨st, n2, 3, rfl, hs7, by omega, by decide, fun u H8 u0 u1 sx8 hs8 => ?_⟩
      have hA8 := Am.sx sx8 hA7
      have nm1'' := Nm.sx sx8 nm1'
      have nm2'' := Nm.sx sx8 nm2
      (repeat (first
      | refine ⟨_, rfl, ?_⟩
      | refine ⟨_, _, rfl, rfl, ?_⟩
      | refine Or.inl ⟨_, rfl, ?_⟩
      | refine Or.inr ⟨_, rfl, ?_⟩
      | refine ⟨Or.inl ⟨by decide, by decide⟩, ?_⟩
      | refine ⟨Or.inr ⟨by decide, by decide⟩, ?_⟩
      | refine ⟨⟨by decide, by decide⟩, ?_⟩
      | refine ⟨⟨by decide, by decide, by decide⟩, ?_⟩
      | refine ⟨by decide, ?_⟩
      | refine ⟨(by show (0 : Int) < _; decide), ?_⟩
      | refine ⟨rfl, ?_⟩
      | refine ⟨⟨_, rfl⟩, ?_⟩
      | refine ⟨_, rfl, rfl, trivial, ?_⟩
      | refine ⟨_, _, rfl, ?_⟩))
      refine ite_dec (fun c => ?_) (fun c => ?_)
      · obtain ⟨us, hU, eU⟩ := hA8.len
        (repeat (first
      | refine ⟨_, rfl, ?_⟩
      | refine ⟨_, _, rfl, rfl, ?_⟩
      | refine Or.inl ⟨_, rfl, ?_⟩
      | refine Or.inr ⟨_, rfl, ?_⟩
      | refine ⟨Or.inl ⟨by decide, by decide⟩, ?_⟩
      | refine ⟨Or.inr ⟨by decide, by decide⟩, ?_⟩
      | refine ⟨⟨by decide, by decide⟩, ?_⟩
      | refine ⟨⟨by decide, by decide, by decide⟩, ?_⟩
      | refine ⟨by decide, ?_⟩
      | refine ⟨(by show (0 : Int) < _; decide), ?_⟩
      | refine ⟨rfl, ?_⟩
      | refine ⟨⟨_, rfl⟩, ?_⟩
      | refine ⟨_, rfl, rfl, trivial, ?_⟩
      | refine ⟨_, _, rfl, ?_⟩))
        refine ⟨t, _, rfl, .inr hU, ?_⟩
        rw [eU]
        refine ⟨st, _, _, rfl, hs8, by omega, by omega, fun i H9 i0 i1 sx9 hs9 => ?_⟩
        have hA9 := Am.sx sx9 hA8
        obtain ⟨ps, r, hT, el, hr', nr⟩ := hA9.at (i := i.toNat) (by omega)
        have ei : i = (i.toNat : Int) := by omega
        refine ⟨t, _, _, _, rfl, rfl, hT, (by rw [ei]; exact atI_nat hr'), ?_⟩
        rw [getD_at (by omega)] at nr
        exact ⟨r, _, _, _, _, _, rfl, hA9, Nm.sx sx9 nm1'', nr, hSr.2 _ (List.getElem_mem _), hb _ (List.getElem_mem _)⟩
      · exact ⟨p2, x2, _, _, _, _, rfl, hA8, nm1'', nm2'', gd2'⟩
    · (repeat (first
      | refine ⟨_, rfl, ?_⟩
      | refine ⟨_, _, rfl, rfl, ?_⟩
      | refine Or.inl ⟨_, rfl, ?_⟩
      | refine Or.inr ⟨_, rfl, ?_⟩
      | refine ⟨Or.inl ⟨by decide, by decide⟩, ?_⟩
      | refine ⟨Or.inr ⟨by decide, by decide⟩, ?_⟩
      | refine ⟨⟨by decide, by decide⟩, ?_⟩
      | refine ⟨⟨by decide, by decide, by decide⟩, ?_⟩
      | refine ⟨by decide, ?_⟩
      | refine ⟨(by show (0 : Int) < _; decide), ?_⟩
      | refine ⟨rfl, ?_⟩
      | refine ⟨⟨_, rfl⟩, ?_⟩
      | refine ⟨_, rfl, rfl, trivial, ?_⟩
      | refine ⟨_, _, rfl, ?_⟩))
      exact ⟨p2, x2, _, _, _, _, rfl, hA7, nm1', nm2, gd2'⟩
  rintro σ H8 ⟨p2, x2, y3, y6, y7, y8, rfl, hA8, nm1, nm2, gd2'⟩
  have up60 : ∀ {x : Q2}, bd2 60 x → bd2 1000 x := fun h => bd2_mono h (by decide)
  -- for pair in [(one, other), (other, one), (one, one)]
  (repeat (first
      | refine ⟨_, rfl, ?_⟩
      | refine ⟨_, _, rfl, rfl, ?_⟩
      | refine Or.inl ⟨_, rfl, ?_⟩
      | refine Or.inr ⟨_, rfl, ?_⟩
      | refine ⟨Or.inl ⟨by decide, by decide⟩, ?_⟩
      | refine ⟨Or.inr ⟨by decide, by decide⟩, ?_⟩
      | refine ⟨⟨by decide, by decide⟩, ?_⟩
      | refine ⟨⟨by decide, by decide, by decide⟩, ?_⟩
      | refine ⟨by decide, ?_⟩
      | refine ⟨(by show (0 : Int) < _; decide), ?_⟩
      | refine ⟨rfl, ?_⟩
      | refine ⟨⟨_, rfl⟩, ?_⟩
      | refine ⟨_, rfl, rfl, trivial, ?_⟩
      | refine ⟨_, _, rfl, ?_⟩))
  refine ⟨by show 2 ≤ sizeLine; decide, fun q1 hq1 => ?_⟩
  (repeat (first
      | refine ⟨_, rfl, ?_⟩
      | refine ⟨_, _, rfl, rfl, ?_⟩
      | refine Or.inl ⟨_, rfl, ?_⟩
      | refine Or.inr ⟨_, rfl, ?_⟩
      | refine ⟨Or.inl ⟨by decide, by decide⟩, ?_⟩
      | refine ⟨Or.inr ⟨by decide, by decide⟩, ?_⟩
      | refine ⟨⟨by decide, by decide⟩, ?_⟩
      | refine ⟨⟨by decide, by decide, by decide⟩, ?_⟩
      | refine ⟨by decide, ?_⟩
      | refine ⟨(by show (0 : Int) < _; decide), ?_⟩
      | refine ⟨rfl, ?_⟩
      | refine ⟨⟨_, rfl⟩, ?_⟩
      | refine ⟨_, rfl, rfl, trivial, ?_⟩
      | refine ⟨_, _, rfl, ?_⟩))
  refine ⟨by show 2 ≤ sizeLine; decide, fun q2 hq2 => ?_⟩
  (repeat (first
      | refine ⟨_, rfl, ?_⟩
      | refine ⟨_, _, rfl, rfl, ?_⟩
      | refine Or.inl ⟨_, rfl, ?_⟩
      | refine Or.inr ⟨_, rfl, ?_⟩
      | refine ⟨Or.inl ⟨by decide, by decide⟩, ?_⟩
      | refine ⟨Or.inr ⟨by decide, by decide⟩, ?_⟩
      | refine ⟨⟨by decide, by decide⟩, ?_⟩
      | refine ⟨⟨by decide, by decide, by decide⟩, ?_⟩
      | refine ⟨by decide, ?_⟩
      | refine ⟨(by show (0 : Int) < _; decide), ?_⟩
      | refine ⟨rfl, ?_⟩
      | refine ⟨⟨_, rfl⟩, ?_⟩
      | refine ⟨_, rfl, rfl, trivial, ?_⟩
      | refine ⟨_, _, rfl, ?_⟩))
  refine ⟨by show 2 ≤ sizeLine; decide, fun q3 hq3 => ?_⟩
  refine ⟨by show 3 ≤ sizeLine; decide, fun l hl => ?_⟩
  have sL : L2.Same H8 (upd (upd (upd (upd H8 q1 (.tup [.ref p1, .ref p2])) q2 (.tup [.ref p2, .ref p1])) q3 (.tup [.ref p1, .ref p1])) l (.lst [.ref q1, .ref q2, .ref q3])) :=
    (((same_upd hq1).trans (same_upd hq2)).trans (same_upd hq3)).trans (same_upd hl)
  have t1 : (upd (upd (upd (upd H8 q1 (.tup [.ref p1, .ref p2])) q2 (.tup [.ref p2, .ref p1])) q3 (.tup [.ref p1, .ref p1])) l (.lst [.ref q1, .ref q2, .ref q3])) q1 = some (.tup [.ref p1, .ref p2]) :=
    same_upd hl _ _ (same_upd hq3 _ _ (same_upd hq2 _ _ upd_same))
  have t2 : (upd (upd (upd (upd H8 q1 (.tup [.ref p1, .ref p2])) q2 (.tup [.ref p2, .ref p1])) q3 (.tup [.ref p1, .ref p1])) l (.lst [.ref q1, .ref q2, .ref q3])) q2 = some (.tup [.ref p2, .ref p1]) :=
    same_upd hl _ _ (same_upd hq3 _ _ upd_same)
  have t3 : (upd (upd (upd (upd H8 q1 (.tup [.ref p1, .ref p2])) q2 (.tup [.ref p2, .ref p1])) q3 (.tup [.ref p1, .ref p1])) l (.lst [.ref q1, .ref q2, .ref q3])) q3 = some (.tup [.ref p1, .ref p1]) :=
    same_upd hl _ _ upd_same
  have tl : (upd (upd (upd (upd H8 q1 (.tup [.ref p1, .ref p2])) q2 (.tup [.ref p2, .ref p1])) q3 (.tup [.ref p1, .ref p1])) l (.lst [.ref q1, .ref q2, .ref q3])) l = some (.lst [.ref q1, .ref q2, .ref q3]) := upd_same
  generalize (upd (upd (upd (upd H8 q1 (.tup [.ref p1, .ref p2])) q2 (.tup [.ref p2, .ref p1])) q3 (.tup [.ref p1, .ref p1])) l (.lst [.ref q1, .ref q2, .ref q3])) = HL at *
  have hA8 := Am.same sL hA8
  have nm1 := Nm.same sL nm1
  have nm2 := Nm.same sL nm2
  refine ⟨l, rfl, ⟨_, SqL.of tl⟩, for_list (xs := [.ref q1, .ref q2, .ref q3]) (fun i σ H' => ∃ (y3 y6 y7 y8 : Option V), σ = [some (.ref a), some (.ref st), some (.ref t), y3, some (.ref p1), some (.ref p2), y6, y7, y8] ∧ H' = HL) ⟨_, _, _, _, rfl, rfl⟩ ?_ ?_ ?_⟩
  · rintro i σ H' _ ⟨y3, y6, y7, y8, rfl, rfl⟩
    exact SqL.of tl
  · rintro i x σ H' hx ⟨y3, y6, y7, y8, rfl, rfl⟩
    have hx' : ∃ qa u v xu xv, x = .ref qa ∧ SqT K H' qa [.ref u, .ref v] ∧ Nm K H' u xu ∧ Nm K H' v xv ∧ bd2 1000 xu ∧ bd2 1000 xv := by
      match i, hx with
      | 0, hx => exact ⟨q1, p1, p2, x1, x2, (Option.some.inj hx).symm, SqT.of t1, nm1, nm2, up60 gd1.2, up60 gd2'.2⟩
      | 1, hx => exact ⟨q2, p2, p1, x2, x1, (Option.some.inj hx).symm, SqT.of t2, nm2, nm1, up60 gd2'.2, up60 gd1.2⟩
      | 2, hx => exact ⟨q3, p1, p1, x1, x1, (Option.some.inj hx).symm, SqT.of t3, nm1, nm1, up60 gd1.2, up60 gd1.2⟩
      | n + 3, hx => simp at hx
    obtain ⟨qa, u, v, xu, xv, rfl, hT, nu, nv, bu, bv⟩ := hx'
    (repeat (first
      | refine ⟨_, rfl, ?_⟩
      | refine ⟨_, _, rfl, rfl, ?_⟩
      | refine Or.inl ⟨_, rfl, ?_⟩
      | refine Or.inr ⟨_, rfl, ?_⟩
      | refine ⟨Or.inl ⟨by decide, by decide⟩, ?_⟩
      | refine ⟨Or.inr ⟨by decide, by decide⟩, ?_⟩
      | refine ⟨⟨by decide, by decide⟩, ?_⟩
      | refine ⟨⟨by decide, by decide, by decide⟩, ?_⟩
      | refine ⟨by decide, ?_⟩
      | refine ⟨(by show (0 : Int) < _; decide), ?_⟩
      | refine ⟨rfl, ?_⟩
      | refine ⟨⟨_, rfl⟩, ?_⟩
      | refine ⟨_, rfl, rfl, trivial, ?_⟩
      | refine ⟨_, _, rfl, ?_⟩))
    refine ⟨qa, _, _, _, rfl, rfl, hT, atI_nat (j := 0) rfl, ?_⟩
    (repeat (first
      | refine ⟨_, rfl, ?_⟩
      | refine ⟨_, _, rfl, rfl, ?_⟩
      | refine Or.inl ⟨_, rfl, ?_⟩
      | refine Or.inr ⟨_, rfl, ?_⟩
      | refine ⟨Or.inl ⟨by decide, by decide⟩, ?_⟩
      | refine ⟨Or.inr ⟨by decide, by decide⟩, ?_⟩
      | refine ⟨⟨by decide, by decide⟩, ?_⟩
      | refine ⟨⟨by decide, by decide, by decide⟩, ?_⟩
      | refine ⟨by decide, ?_⟩
      | refine ⟨(by show (0 : Int) < _; decide), ?_⟩
      | refine ⟨rfl, ?_⟩
      | refine ⟨⟨_, rfl⟩, ?_⟩
      | refine ⟨_, rfl, rfl, trivial, ?_⟩
      | refine ⟨_, _, rfl, ?_⟩))
    refine ⟨qa, _, _, _, rfl, rfl, hT, atI_nat (j := 1) rfl, ?_⟩
    refine ⟨u, v, xu, xv, rfl, nu, nv, bu, bv, ?_⟩
    (repeat (first
      | refine ⟨_, rfl, ?_⟩
      | refine ⟨_, _, rfl, rfl, ?_⟩
      | refine Or.inl ⟨_, rfl, ?_⟩
      | refine Or.inr ⟨_, rfl, ?_⟩
      | refine ⟨Or.inl ⟨by decide, by decide⟩, ?_⟩
      | refine ⟨Or.inr ⟨by decide, by decide⟩, ?_⟩
      | refine ⟨⟨by decide, by decide⟩, ?_⟩
      | refine ⟨⟨by decide, by decide, by decide⟩, ?_⟩
      | refine ⟨by decide, ?_⟩
      | refine ⟨(by show (0 : Int) < _; decide), ?_⟩
      | refine ⟨rfl, ?_⟩
      | refine ⟨⟨_, rfl⟩, ?_⟩
      | refine ⟨_, rfl, rfl, trivial, ?_⟩
      | refine ⟨_, _, rfl, ?_⟩))
    refine ⟨qa, _, _, _, rfl, rfl, hT, atI_nat (j := 0) rfl, ?_⟩
    (repeat (first
      | refine ⟨_, rfl, ?_⟩
      | refine ⟨_, _, rfl, rfl, ?_⟩
      | refine Or.inl ⟨_, rfl, ?_⟩
      | refine Or.inr ⟨_, rfl, ?_⟩
      | refine ⟨Or.inl ⟨by decide, by decide⟩, ?_⟩
      | refine ⟨Or.inr ⟨by decide, by decide⟩, ?_⟩
      | refine ⟨⟨by decide, by decide⟩, ?_⟩
      | refine ⟨⟨by decide, by decide, by decide⟩, ?_⟩
      | refine ⟨by decide, ?_⟩
      | refine ⟨(by show (0 : Int) < _; decide), ?_⟩
      | refine ⟨rfl, ?_⟩
      | refine ⟨⟨_, rfl⟩, ?_⟩
      | refine ⟨_, rfl, rfl, trivial, ?_⟩
      | refine ⟨_, _, rfl, ?_⟩))
    refine ⟨qa, _, _, _, rfl, rfl, hT, atI_nat (j := 1) rfl, ?_⟩
    refine ⟨u, v, xu, xv, rfl, nu, nv, bu, bv, ?_⟩
    refine ⟨_, _, .bool _, rfl, .bl _, .bl _, True.intro, ?_⟩
    (repeat (first
      | refine ⟨_, rfl, ?_⟩
      | refine ⟨_, _, rfl, rfl, ?_⟩
      | refine Or.inl ⟨_, rfl, ?_⟩
      | refine Or.inr ⟨_, rfl, ?_⟩
      | refine ⟨Or.inl ⟨by decide, by decide⟩, ?_⟩
      | refine ⟨Or.inr ⟨by decide, by decide⟩, ?_⟩
      | refine ⟨⟨by decide, by decide⟩, ?_⟩
      | refine ⟨⟨by decide, by decide, by decide⟩, ?_⟩
      | refine ⟨by decide, ?_⟩
      | refine ⟨(by show (0 : Int) < _; decide), ?_⟩
      | refine ⟨rfl, ?_⟩
      | refine ⟨⟨_, rfl⟩, ?_⟩
      | refine ⟨_, rfl, rfl, trivial, ?_⟩
      | refine ⟨_, _, rfl, ?_⟩))
    exact ⟨_, _, _, _, rfl, rfl⟩
  rintro σ H' ⟨y3, y6, y7, y8, rfl, rfl⟩
  -- for number in [one, other]
  (repeat (first
      | refine ⟨_, rfl, ?_⟩
      | refine ⟨_, _, rfl, rfl, ?_⟩
      | refine Or.inl ⟨_, rfl, ?_⟩
      | refine Or.inr ⟨_, rfl, ?_⟩
      | refine ⟨Or.inl ⟨by decide, by decide⟩, ?_⟩
      | refine ⟨Or.inr ⟨by decide, by decide⟩, ?_⟩
      | refine ⟨⟨by decide, by decide⟩, ?_⟩
      | refine ⟨⟨by decide, by decide, by decide⟩, ?_⟩
      | refine ⟨by decide, ?_⟩
      | refine ⟨(by show (0 : Int) < _; decide), ?_⟩
      | refine ⟨rfl, ?_⟩
      | refine ⟨⟨_, rfl⟩, ?_⟩
      | refine ⟨_, rfl, rfl, trivial, ?_⟩
      | refine ⟨_, _, rfl, ?_⟩))
  refine ⟨by show 2 ≤ sizeLine; decide, fun l2 hl2 => ?_⟩
  have sL2 : L2.Same H' (upd H' l2 (.lst [.ref p1, .ref p2])) := same_upd hl2
  have tl2 : (upd H' l2 (.lst [.ref p1, .ref p2])) l2 = some (.lst [.ref p1, .ref p2]) := upd_same
  generalize (upd H' l2 (.lst [.ref p1, .ref p2])) = HM at *
  have hA8 := Am.same sL2 hA8
  have nm1 := Nm.same sL2 nm1
  have nm2 := Nm.same sL2 nm2
  refine ⟨l2, rfl, ⟨_, SqL.of tl2⟩, for_list (xs := [.ref p1, .ref p2]) (fun i σ H' => ∃ (y3 y6 y7 y8 : Option V), σ = [some (.ref a), some (.ref st), some (.ref t), y3, some (.ref p1), some (.ref p2), y6, y7, y8] ∧ L2.Same HM H') ⟨_, _, _, _, rfl, .refl _⟩ ?_ ?_ ?_⟩
  · rintro i σ H' _ ⟨y3, y6, y7, y8, rfl, sm⟩
    exact SqL.of (sm _ _ tl2)
  · rintro i x σ H' hx ⟨y3, y6, y7, y8, rfl, sm⟩
    have hx' : ∃ u xu, x = .ref u ∧ Nm K H' u xu ∧ gd2 xu := by
      match i, hx with
      | 0, hx => exact ⟨p1, x1, (Option.some.inj hx).symm, Nm.same sm nm1, gd1⟩
      | 1, hx => exact ⟨p2, x2, (Option.some.inj hx).symm, Nm.same sm nm2, gd2'⟩
      | n + 2, hx => simp at hx
    obtain ⟨u, xu, rfl, nu, gu⟩ := hx'
    have hA9 := Am.same sm hA8
    (repeat (first
      | refine ⟨_, rfl, ?_⟩
      | refine ⟨_, _, rfl, rfl, ?_⟩
      | refine Or.inl ⟨_, rfl, ?_⟩
      | refine Or.inr ⟨_, rfl, ?_⟩
      | refine ⟨Or.inl ⟨by decide, by decide⟩, ?_⟩
      | refine ⟨Or.inr ⟨by decide, by decide⟩, ?_⟩
      | refine ⟨⟨by decide, by decide⟩, ?_⟩
      | refine ⟨⟨by decide, by decide, by decide⟩, ?_⟩
      | refine ⟨by decide, ?_⟩
      | refine ⟨(by show (0 : Int) < _; decide), ?_⟩
      | refine ⟨rfl, ?_⟩
      | refine ⟨⟨_, rfl⟩, ?_⟩
      | refine ⟨_, rfl, rfl, trivial, ?_⟩
      | refine ⟨_, _, rfl, ?_⟩))
    refine ⟨u, t, xu, xs, rfl, hA9, nu, hB, up60 gu.2, hSr, gu.1, by omega, ?_⟩
    (repeat (first
      | refine ⟨_, rfl, ?_⟩
      | refine ⟨_, _, rfl, rfl, ?_⟩
      | refine Or.inl ⟨_, rfl, ?_⟩
      | refine Or.inr ⟨_, rfl, ?_⟩
      | refine ⟨Or.inl ⟨by decide, by decide⟩, ?_⟩
      | refine ⟨Or.inr ⟨by decide, by decide⟩, ?_⟩
      | refine ⟨⟨by decide, by decide⟩, ?_⟩
      | refine ⟨⟨by decide, by decide, by decide⟩, ?_⟩
      | refine ⟨by decide, ?_⟩
      | refine ⟨(by show (0 : Int) < _; decide), ?_⟩
      | refine ⟨rfl, ?_⟩
      | refine ⟨⟨_, rfl⟩, ?_⟩
      | refine ⟨_, rfl, rfl, trivial, ?_⟩
      | refine ⟨_, _, rfl, ?_⟩))
    refine ⟨u, t, xu, xs, rfl, hA9, nu, hB, up60 gu.2, by omega, fun H10 sm10 => ?_⟩
    rw [pos2_in hSr gu.1]
    refine ⟨_, _, .int _, rfl, .int _, .int _, True.intro, ?_⟩
    (repeat (first
      | refine ⟨_, rfl, ?_⟩
      | refine ⟨_, _, rfl, rfl, ?_⟩
      | refine Or.inl ⟨_, rfl, ?_⟩
      | refine Or.inr ⟨_, rfl, ?_⟩
      | refine ⟨Or.inl ⟨by decide, by decide⟩, ?_⟩
      | refine ⟨Or.inr ⟨by decide, by decide⟩, ?_⟩
      | refine ⟨⟨by decide, by decide⟩, ?_⟩
      | refine ⟨⟨by decide, by decide, by decide⟩, ?_⟩
      | refine ⟨by decide, ?_⟩
      | refine ⟨(by show (0 : Int) < _; decide), ?_⟩
      | refine ⟨rfl, ?_⟩
      | refine ⟨⟨_, rfl⟩, ?_⟩
      | refine ⟨_, rfl, rfl, trivial, ?_⟩
      | refine ⟨_, _, rfl, ?_⟩))
    exact ⟨_, _, _, _, rfl, sm.trans sm10⟩
  rintro σ H9 ⟨y3, y6, y7, y8, rfl, sm⟩
  have hA9 := Am.same sm hA8
  obtain ⟨us, hU, eU⟩ := hA9.len
  -- for place in range(2 * len(among) + 1)
  (repeat (first
      | refine ⟨_, rfl, ?_⟩
      | refine ⟨_, _, rfl, rfl, ?_⟩
      | refine Or.inl ⟨_, rfl, ?_⟩
      | refine Or.inr ⟨_, rfl, ?_⟩
      | refine ⟨Or.inl ⟨by decide, by decide⟩, ?_⟩
      | refine ⟨Or.inr ⟨by decide, by decide⟩, ?_⟩
      | refine ⟨⟨by decide, by decide⟩, ?_⟩
      | refine ⟨⟨by decide, by decide, by decide⟩, ?_⟩
      | refine ⟨by decide, ?_⟩
      | refine ⟨(by show (0 : Int) < _; decide), ?_⟩
      | refine ⟨rfl, ?_⟩
      | refine ⟨⟨_, rfl⟩, ?_⟩
      | refine ⟨_, rfl, rfl, trivial, ?_⟩
      | refine ⟨_, _, rfl, ?_⟩))
  refine ⟨t, _, rfl, .inr hU, ?_⟩
  rw [eU]
  (repeat (first
      | refine ⟨_, rfl, ?_⟩
      | refine ⟨_, _, rfl, rfl, ?_⟩
      | refine Or.inl ⟨_, rfl, ?_⟩
      | refine Or.inr ⟨_, rfl, ?_⟩
      | refine ⟨Or.inl ⟨by decide, by decide⟩, ?_⟩
      | refine ⟨Or.inr ⟨by decide, by decide⟩, ?_⟩
      | refine ⟨⟨by decide, by decide⟩, ?_⟩
      | refine ⟨⟨by decide, by decide, by decide⟩, ?_⟩
      | refine ⟨by decide, ?_⟩
      | refine ⟨(by show (0 : Int) < _; decide), ?_⟩
      | refine ⟨rfl, ?_⟩
      | refine ⟨⟨_, rfl⟩, ?_⟩
      | refine ⟨_, rfl, rfl, trivial, ?_⟩
      | refine ⟨_, _, rfl, ?_⟩))
  refine ⟨by omega, by omega, ?_⟩
  have en : (2 * ((xs.length : Nat) : Int) + 1).toNat = 2 * xs.length + 1 := by omega
  rw [en]
  refine for_range (lo := 0) (n := 2 * xs.length + 1) (fun j σ H' => ∃ (y3 y6 y7 y8 : Option V), σ = [some (.ref a), some (.ref st), some (.ref t), y3, some (.ref p1), some (.ref p2), y6, y7, y8] ∧ L2.Same H9 H') ⟨_, _, _, _, rfl, .refl _⟩ ?_ ?_
  · rintro j σ H' hj ⟨y3, y6, y7, y8, rfl, sm2⟩
    have e0 : (0 : Int) + (j : Int) = (j : Int) := Int.zero_add _
    rw [e0]
    have hA10 := Am.same sm2 hA9
    (repeat (first
      | refine ⟨_, rfl, ?_⟩
      | refine ⟨_, _, rfl, rfl, ?_⟩
      | refine Or.inl ⟨_, rfl, ?_⟩
      | refine Or.inr ⟨_, rfl, ?_⟩
      | refine ⟨Or.inl ⟨by decide, by decide⟩, ?_⟩
      | refine ⟨Or.inr ⟨by decide, by decide⟩, ?_⟩
      | refine ⟨⟨by decide, by decide⟩, ?_⟩
      | refine ⟨⟨by decide, by decide, by decide⟩, ?_⟩
      | refine ⟨by decide, ?_⟩
      | refine ⟨(by show (0 : Int) < _; decide), ?_⟩
      | refine ⟨rfl, ?_⟩
      | refine ⟨⟨_, rfl⟩, ?_⟩
      | refine ⟨_, rfl, rfl, trivial, ?_⟩
      | refine ⟨_, _, rfl, ?_⟩))
    refine ⟨j, t, xs, rfl, hA10, hGd, by omega, fun r H10 s10 nr => ?_⟩
    have hA11 := Am.same s10 hA10
    (repeat (first
      | refine ⟨_, rfl, ?_⟩
      | refine ⟨_, _, rfl, rfl, ?_⟩
      | refine Or.inl ⟨_, rfl, ?_⟩
      | refine Or.inr ⟨_, rfl, ?_⟩
      | refine ⟨Or.inl ⟨by decide, by decide⟩, ?_⟩
      | refine ⟨Or.inr ⟨by decide, by decide⟩, ?_⟩
      | refine ⟨⟨by decide, by decide⟩, ?_⟩
      | refine ⟨⟨by decide, by decide, by decide⟩, ?_⟩
      | refine ⟨by decide, ?_⟩
      | refine ⟨(by show (0 : Int) < _; decide), ?_⟩
      | refine ⟨rfl, ?_⟩
      | refine ⟨⟨_, rfl⟩, ?_⟩
      | refine ⟨_, rfl, rfl, trivial, ?_⟩
      | refine ⟨_, _, rfl, ?_⟩))
    refine ⟨j, t, xs, rfl, hA11, hGd, by omega, fun r' H11 s11 nr' => ?_⟩
    have hA12 := Am.same s11 hA11
    refine ⟨_, _, _, rfl, Nm.dp (Nm.same s11 nr), Nm.dp nr', sh_pair, ?_⟩
    (repeat (first
      | refine ⟨_, rfl, ?_⟩
      | refine ⟨_, _, rfl, rfl, ?_⟩
      | refine Or.inl ⟨_, rfl, ?_⟩
      | refine Or.inr ⟨_, rfl, ?_⟩
      | refine ⟨Or.inl ⟨by decide, by decide⟩, ?_⟩
      | refine ⟨Or.inr ⟨by decide, by decide⟩, ?_⟩
      | refine ⟨⟨by decide, by decide⟩, ?_⟩
      | refine ⟨⟨by decide, by decide, by decide⟩, ?_⟩
      | refine ⟨by decide, ?_⟩
      | refine ⟨(by show (0 : Int) < _; decide), ?_⟩
      | refine ⟨rfl, ?_⟩
      | refine ⟨⟨_, rfl⟩, ?_⟩
      | refine ⟨_, rfl, rfl, trivial, ?_⟩
      | refine ⟨_, _, rfl, ?_⟩))
    refine ⟨r, t, num2 j xs, xs, rfl, hA12, Nm.same s11 nr, hB, bd2_mono (num2_bd hGd.2.1 hGd.2.2 (by omega)) (by decide), hSr, num2_ok hSr (by omega), by omega, ?_⟩
    rw [num2_pos hSr (by omega)]
    (repeat (first
      | refine ⟨_, rfl, ?_⟩
      | refine ⟨_, _, rfl, rfl, ?_⟩
      | refine Or.inl ⟨_, rfl, ?_⟩
      | refine Or.inr ⟨_, rfl, ?_⟩
      | refine ⟨Or.inl ⟨by decide, by decide⟩, ?_⟩
      | refine ⟨Or.inr ⟨by decide, by decide⟩, ?_⟩
      | refine ⟨⟨by decide, by decide⟩, ?_⟩
      | refine ⟨⟨by decide, by decide, by decide⟩, ?_⟩
      | refine ⟨by decide, ?_⟩
      | refine ⟨(by show (0 : Int) < _; decide), ?_⟩
      | refine ⟨rfl, ?_⟩
      | refine ⟨⟨_, rfl⟩, ?_⟩
      | refine ⟨_, rfl, rfl, trivial, ?_⟩
      | refine ⟨_, _, rfl, ?_⟩))
    refine ⟨_, _, .int _, rfl, .int _, .int _, True.intro, ?_⟩
    (repeat (first
      | refine ⟨_, rfl, ?_⟩
      | refine ⟨_, _, rfl, rfl, ?_⟩
      | refine Or.inl ⟨_, rfl, ?_⟩
      | refine Or.inr ⟨_, rfl, ?_⟩
      | refine ⟨Or.inl ⟨by decide, by decide⟩, ?_⟩
      | refine ⟨Or.inr ⟨by decide, by decide⟩, ?_⟩
      | refine ⟨⟨by decide, by decide⟩, ?_⟩
      | refine ⟨⟨by decide, by decide, by decide⟩, ?_⟩
      | refine ⟨by decide, ?_⟩
      | refine ⟨(by show (0 : Int) < _; decide), ?_⟩
      | refine ⟨rfl, ?_⟩
      | refine ⟨⟨_, rfl⟩, ?_⟩
      | refine ⟨_, rfl, rfl, trivial, ?_⟩
      | refine ⟨_, _, rfl, ?_⟩))
    exact ⟨_, _, _, _, rfl, (sm2.trans s10).trans s11⟩
  · rintro σ H' ⟨y3, y6, y7, y8, rfl, _⟩
    exact q _
end
end My

namespace My
open PySem PySem.Spec PyProof.Rows L2
theorem all_mk {l : PySem.W.OpenLaw} {w : World} {K : PySem.W.Frag} {h : Heap} {mg : Str → Option Value} {fa f0 f1 f2 f3 f4 f5 f6 f7 f8 f9 f10 f11 f12 f13 f14 f15 : Addr} (X : K.In h) (G : h.Ns mainGlobals mg) (hfa : mg "law" = some (.ref fa))
    {od0 an0 od1 an1 od2 an2 od3 an3 od4 an4 od5 an5 od6 an6 od7 an7 od8 an8 od9 an9 od10 an10 od11 an11 od12 an12 od13 an13 od14 an14 od15 an15 : Option Addr} {sl0 sl1 sl2 sl3 sl4 sl5 sl6 sl7 sl8 sl9 sl10 sl11 sl12 sl13 sl14 sl15 : Array (Option Value)} {oc0 kV0 dc0 pm0 cd0 ct0 oc1 kV1 dc1 pm1 cd1 ct1 oc2 kV2 dc2 pm2 cd2 ct2 oc3 kV3 dc3 pm3 cd3 ct3 oc4 kV4 dc4 pm4 cd4 ct4 oc5 kV5 dc5 pm5 cd5 ct5 oc6 kV6 dc6 pm6 cd6 ct6 oc7 kV7 dc7 pm7 cd7 ct7 oc8 kV8 dc8 pm8 cd8 ct8 oc9 kV9 dc9 pm9 cd9 ct9 oc10 kV10 dc10 pm10 cd10 ct10 oc11 kV11 dc11 pm11 cd11 ct11 oc12 kV12 dc12 pm12 cd12 ct12 oc13 kV13 dc13 pm13 cd13 ct13 oc14 kV14 dc14 pm14 cd14 ct14 oc15 kV15 dc15 pm15 cd15 ct15 : Value}
    (a0 : PySem.W.nsIn K mainGlobals "_law_common" = some (some (.ref f0))) (l0 : K.lookup f0 = some ⟨oc0, od0, .func (PySem.W.fnOf "_law_common" "_law_common" (defArgs s_law_common) (defBody s_law_common) (defScope s_law_common) .none kV0 dc0 pm0 an0 cd0 ct0), sl0⟩) (c0 : PySem.W.codeIn K cd0 "_law_common" = true) (k0 : PySem.W.keepIn K (.ref f0) = true)
    (a1 : PySem.W.nsIn K mainGlobals "_law_pair" = some (some (.ref f1))) (l1 : K.lookup f1 = some ⟨oc1, od1, .func (PySem.W.fnOf "_law_pair" "_law_pair" (defArgs s_law_pair) (defBody s_law_pair) (defScope s_law_pair) .none kV1 dc1 pm1 an1 cd1 ct1), sl1⟩) (c1 : PySem.W.codeIn K cd1 "_law_pair" = true) (k1 : PySem.W.keepIn K (.ref f1) = true)
    (a2 : PySem.W.nsIn K mainGlobals "_law_draw" = some (some (.ref f2))) (l2 : K.lookup f2 = some ⟨oc2, od2, .func (PySem.W.fnOf "_law_draw" "_law_draw" (defArgs s_law_draw) (defBody s_law_draw) (defScope s_law_draw) .none kV2 dc2 pm2 an2 cd2 ct2), sl2⟩) (c2 : PySem.W.codeIn K cd2 "_law_draw" = true) (k2 : PySem.W.keepIn K (.ref f2) = true)
    (a3 : PySem.W.nsIn K mainGlobals "_law_take" = some (some (.ref f3))) (l3 : K.lookup f3 = some ⟨oc3, od3, .func (PySem.W.fnOf "_law_take" "_law_take" (defArgs s_law_take) (defBody s_law_take) (defScope s_law_take) .none kV3 dc3 pm3 an3 cd3 ct3), sl3⟩) (c3 : PySem.W.codeIn K cd3 "_law_take" = true) (k3 : PySem.W.keepIn K (.ref f3) = true)
    (a4 : PySem.W.nsIn K mainGlobals "_law_number" = some (some (.ref f4))) (l4 : K.lookup f4 = some ⟨oc4, od4, .func (PySem.W.fnOf "_law_number" "_law_number" (defArgs s_law_number) (defBody s_law_number) (defScope s_law_number) .none kV4 dc4 pm4 an4 cd4 ct4), sl4⟩) (c4 : PySem.W.codeIn K cd4 "_law_number" = true) (k4 : PySem.W.keepIn K (.ref f4) = true)
    (a5 : PySem.W.nsIn K mainGlobals "_law_tape" = some (some (.ref f5))) (l5 : K.lookup f5 = some ⟨oc5, od5, .func (PySem.W.fnOf "_law_tape" "_law_tape" (defArgs s_law_tape) (defBody s_law_tape) (defScope s_law_tape) .none kV5 dc5 pm5 an5 cd5 ct5), sl5⟩) (c5 : PySem.W.codeIn K cd5 "_law_tape" = true) (k5 : PySem.W.keepIn K (.ref f5) = true)
    (a6 : PySem.W.nsIn K mainGlobals "_law_less" = some (some (.ref f6))) (l6 : K.lookup f6 = some ⟨oc6, od6, .func (PySem.W.fnOf "_law_less" "_law_less" (defArgs s_law_less) (defBody s_law_less) (defScope s_law_less) .none kV6 dc6 pm6 an6 cd6 ct6), sl6⟩) (c6 : PySem.W.codeIn K cd6 "_law_less" = true) (k6 : PySem.W.keepIn K (.ref f6) = true)
    (a7 : PySem.W.nsIn K mainGlobals "_law_with" = some (some (.ref f7))) (l7 : K.lookup f7 = some ⟨oc7, od7, .func (PySem.W.fnOf "_law_with" "_law_with" (defArgs s_law_with) (defBody s_law_with) (defScope s_law_with) .none kV7 dc7 pm7 an7 cd7 ct7), sl7⟩) (c7 : PySem.W.codeIn K cd7 "_law_with" = true) (k7 : PySem.W.keepIn K (.ref f7) = true)
    (a8 : PySem.W.nsIn K mainGlobals "less" = some (some (.ref f8))) (l8 : K.lookup f8 = some ⟨oc8, od8, .func (PySem.W.fnOf "less" "less" (defArgs s_less) (defBody s_less) (defScope s_less) .none kV8 dc8 pm8 an8 cd8 ct8), sl8⟩) (c8 : PySem.W.codeIn K cd8 "less" = true) (k8 : PySem.W.keepIn K (.ref f8) = true)
    (a9 : PySem.W.nsIn K mainGlobals "position" = some (some (.ref f9))) (l9 : K.lookup f9 = some ⟨oc9, od9, .func (PySem.W.fnOf "position" "position" (defArgs s_position) (defBody s_position) (defScope s_position) .none kV9 dc9 pm9 an9 cd9 ct9), sl9⟩) (c9 : PySem.W.codeIn K cd9 "position" = true) (k9 : PySem.W.keepIn K (.ref f9) = true)
    (a10 : PySem.W.nsIn K mainGlobals "_middle" = some (some (.ref f10))) (l10 : K.lookup f10 = some ⟨oc10, od10, .func (PySem.W.fnOf "_middle" "_middle" (defArgs s_middle) (defBody s_middle) (defScope s_middle) .none kV10 dc10 pm10 an10 cd10 ct10), sl10⟩) (c10 : PySem.W.codeIn K cd10 "_middle" = true) (k10 : PySem.W.keepIn K (.ref f10) = true)
    (a11 : PySem.W.nsIn K mainGlobals "number_for" = some (some (.ref f11))) (l11 : K.lookup f11 = some ⟨oc11, od11, .func (PySem.W.fnOf "number_for" "number_for" (defArgs s_number_for) (defBody s_number_for) (defScope s_number_for) .none kV11 dc11 pm11 an11 cd11 ct11), sl11⟩) (c11 : PySem.W.codeIn K cd11 "number_for" = true) (k11 : PySem.W.keepIn K (.ref f11) = true)
    (a12 : PySem.W.nsIn K mainGlobals "_law_equal" = some (some (.ref f12))) (l12 : K.lookup f12 = some ⟨oc12, od12, .func (PySem.W.fnOf "_law_equal" "_law_equal" (defArgs s_law_equal) (defBody s_law_equal) (defScope s_law_equal) .none kV12 dc12 pm12 an12 cd12 ct12), sl12⟩) (c12 : PySem.W.codeIn K cd12 "_law_equal" = true) (k12 : PySem.W.keepIn K (.ref f12) = true)
    (a13 : PySem.W.nsIn K mainGlobals "_law_place" = some (some (.ref f13))) (l13 : K.lookup f13 = some ⟨oc13, od13, .func (PySem.W.fnOf "_law_place" "_law_place" (defArgs s_law_place) (defBody s_law_place) (defScope s_law_place) .none kV13 dc13 pm13 an13 cd13 ct13), sl13⟩) (c13 : PySem.W.codeIn K cd13 "_law_place" = true) (k13 : PySem.W.keepIn K (.ref f13) = true)
    (a14 : PySem.W.nsIn K mainGlobals "_law_due" = some (some (.ref f14))) (l14 : K.lookup f14 = some ⟨oc14, od14, .func (PySem.W.fnOf "_law_due" "_law_due" (defArgs s_law_due) (defBody s_law_due) (defScope s_law_due) .none kV14 dc14 pm14 an14 cd14 ct14), sl14⟩) (c14 : PySem.W.codeIn K cd14 "_law_due" = true) (k14 : PySem.W.keepIn K (.ref f14) = true)
    (a15 : PySem.W.nsIn K mainGlobals "law" = some (some (.ref f15))) (l15 : K.lookup f15 = some ⟨oc15, od15, .func (PySem.W.fnOf "law" "law" (defArgs s_law) (defBody s_law) (defScope s_law) .none kV15 dc15 pm15 an15 cd15 ct15), sl15⟩) (c15 : PySem.W.codeIn K cd15 "law" = true) (k15 : PySem.W.keepIn K (.ref f15) = true)
    (z0 : PySem.W.nsIn K mainGlobals "abs" = some none)
    (z1 : PySem.W.nsIn K mainGlobals "bool" = some none)
    (z2 : PySem.W.nsIn K mainGlobals "gcd" = some (some (.builtin "math.gcd")))
    (z3 : PySem.W.nsIn K mainGlobals "int" = some none)
    (z4 : PySem.W.nsIn K mainGlobals "isinstance" = some none)
    (z5 : PySem.W.nsIn K mainGlobals "len" = some none)
    (z6 : PySem.W.nsIn K mainGlobals "list" = some none)
    (z7 : PySem.W.nsIn K mainGlobals "range" = some none)
    (z8 : PySem.W.nsIn K mainGlobals "str" = some none)
    (z9 : PySem.W.nsIn K mainGlobals "tuple" = some none)
    : ∃ fd : FuncData, (∀ (s : Shared) (v : Value), BindsTo s fd ⟨[v], []⟩ [("script", v)]) ∧ ∀ base : Heap, K.In base → base.Ns mainGlobals mg → FnOk l.prog w K mg base CX0 10 fa fd ["script"] (spLaw K) := by
  have e := hfa.symm.trans (PySem.W.mg_of X G a15)
  cases e
  have F0 := fun_mk (st := s_law_common) l0 c0 k0
  have b0 := F0.binds (ps := ["one", "other"]) fun _ _ _ _ _ _ us hl => match us, hl with | [_, _], _ => rfl
  have F1 := fun_mk (st := s_law_pair) l1 c1 k1
  have b1 := F1.binds (ps := ["top", "bottom"]) fun _ _ _ _ _ _ us hl => match us, hl with | [_, _], _ => rfl
  have F2 := fun_mk (st := s_law_draw) l2 c2 k2
  have b2 := F2.binds (ps := ["tape", "at", "many"]) fun _ _ _ _ _ _ us hl => match us, hl with | [_, _, _], _ => rfl
  have F3 := fun_mk (st := s_law_take) l3 c3 k3
  have b3 := F3.binds (ps := ["state", "many"]) fun _ _ _ _ _ _ us hl => match us, hl with | [_, _], _ => rfl
  have F4 := fun_mk (st := s_law_number) l4 c4 k4
  have b4 := F4.binds (ps := ["state"]) fun _ _ _ _ _ _ us hl => match us, hl with | [_], _ => rfl
  have F5 := fun_mk (st := s_law_tape) l5 c5 k5
  have b5 := F5.binds (ps := ["script"]) fun _ _ _ _ _ _ us hl => match us, hl with | [_], _ => rfl
  have F6 := fun_mk (st := s_law_less) l6 c6 k6
  have b6 := F6.binds (ps := ["one", "other"]) fun _ _ _ _ _ _ us hl => match us, hl with | [_, _], _ => rfl
  have F7 := fun_mk (st := s_law_with) l7 c7 k7
  have b7 := F7.binds (ps := ["among", "number"]) fun _ _ _ _ _ _ us hl => match us, hl with | [_, _], _ => rfl
  have F8 := fun_mk (st := s_less) l8 c8 k8
  have b8 := F8.binds (ps := ["a", "b"]) fun _ _ _ _ _ _ us hl => match us, hl with | [_, _], _ => rfl
  have F9 := fun_mk (st := s_position) l9 c9 k9
  have b9 := F9.binds (ps := ["number", "among"]) fun _ _ _ _ _ _ us hl => match us, hl with | [_, _], _ => rfl
  have F10 := fun_mk (st := s_middle) l10 c10 k10
  have b10 := F10.binds (ps := ["a", "b"]) fun _ _ _ _ _ _ us hl => match us, hl with | [_, _], _ => rfl
  have F11 := fun_mk (st := s_number_for) l11 c11 k11
  have b11 := F11.binds (ps := ["position", "among"]) fun _ _ _ _ _ _ us hl => match us, hl with | [_, _], _ => rfl
  have F12 := fun_mk (st := s_law_equal) l12 c12 k12
  have b12 := F12.binds (ps := ["actual", "due"]) fun _ _ _ _ _ _ us hl => match us, hl with | [_, _], _ => rfl
  have F13 := fun_mk (st := s_law_place) l13 c13 k13
  have b13 := F13.binds (ps := ["number", "among"]) fun _ _ _ _ _ _ us hl => match us, hl with | [_, _], _ => rfl
  have F14 := fun_mk (st := s_law_due) l14 c14 k14
  have b14 := F14.binds (ps := ["place", "among"]) fun _ _ _ _ _ _ us hl => match us, hl with | [_, _], _ => rfl
  have F15 := fun_mk (st := s_law) l15 c15 k15
  have b15 := F15.binds (ps := ["script"]) fun _ _ _ _ _ _ us hl => match us, hl with | [_], _ => rfl
  let T : Top K mg w := ⟨f0, _, F0, b0, PySem.W.mg_of X G a0, f1, _, F1, b1, PySem.W.mg_of X G a1, f2, _, F2, b2, PySem.W.mg_of X G a2, f3, _, F3, b3, PySem.W.mg_of X G a3, f4, _, F4, b4, PySem.W.mg_of X G a4, f5, _, F5, b5, PySem.W.mg_of X G a5, f6, _, F6, b6, PySem.W.mg_of X G a6, f7, _, F7, b7, PySem.W.mg_of X G a7, f8, _, F8, b8, PySem.W.mg_of X G a8, f9, _, F9, b9, PySem.W.mg_of X G a9, f10, _, F10, b10, PySem.W.mg_of X G a10, f11, _, F11, b11, PySem.W.mg_of X G a11, f12, _, F12, b12, PySem.W.mg_of X G a12, f13, _, F13, b13, PySem.W.mg_of X G a13, f14, _, F14, b14, PySem.W.mg_of X G a14, fa, _, F15, b15, PySem.W.mg_of X G a15, PySem.W.mg_none_of X G z0, PySem.W.mg_none_of X G z1, PySem.W.mg_of X G z2, PySem.W.mg_none_of X G z3, PySem.W.mg_none_of X G z4, PySem.W.mg_none_of X G z5, PySem.W.mg_none_of X G z6, PySem.W.mg_none_of X G z7, PySem.W.mg_none_of X G z8, PySem.W.mg_none_of X G z9⟩
  refine ⟨PySem.W.fnOf "law" "law" (defArgs s_law) (defBody s_law) (defScope s_law) .none kV15 dc15 pm15 an15 cd15 ct15, fun s v => .of_eq rfl, fun base _ _ => ?_⟩
  exact ok_law (P := l.prog) (w := w) (base := base) T
theorem walk {l : PySem.W.OpenLaw} {q : Program} {loose : List Str} {XP : (Str → Option Value) → Heap → Prop} {YP : World → Heap → Prop} {d : DefRec} {K : Params → PySem.W.Frag} (hn : l.most = some 63) (hdf : d.params.defaults = [])
    (hY : ∀ (w : World) (h : Heap), YP w h → (K w.params).In h)
    (F : ∀ (w : World) (mg : Str → Option Value) (fa : Addr) (h : Heap), (K w.params).In h → h.Ns mainGlobals mg → mg d.name = some (.ref fa) →
      ∃ fd : FuncData, (∀ (s : Shared) (u : Value), BindsTo s fd ⟨[u], []⟩ [("script", u)]) ∧ ∀ base : Heap, (K w.params).In base → base.Ns mainGlobals mg → FnOk l.prog w (K w.params) mg base CX0 10 fa fd ["script"] (spLaw (K w.params))) :
    PySem.W.WalkO q loose XP YP l.row.toRowW d [] (fun f vs => PySem.call f vs) :=
  L2.walk_of (n := 63) (k := 10) (x := "script") (CX := fun _ => CX0) (sp := fun w => spLaw (K w.params)) hn (by decide) hdf ⟨rfl, by decide, by decide⟩ hY F (fun _ _ a ns hl _ hS => ⟨a, ns, rfl, hS, hl, fun _ => rfl⟩) fun _ _ _ _ _ z => z
end My
open PySem PySem.W PyProof.Rows
set_option maxRecDepth 100000 in
set_option maxHeartbeats 0 in
theorem PySem.Challenge.cw_keeproom_k02_positions_and_numbers_for_t_holds : PySem.Challenge.rw_keeproom_k02_positions_and_numbers_for_t.Holds := by
  w_on; o_law; k_head; (case hw => w_witness2)
  k_fill
  refine My.walk (l := PySem.Challenge.rw_keeproom_k02_positions_and_numbers_for_t) rfl rfl (fun w h Y => PySem.W.kIn_of Y) ?F
  case F =>
    intro w mg fa h KX G hmg
    refine' My.all_mk KX G hmg ?a0 ?l0 ?c0 ?k0 ?a1 ?l1 ?c1 ?k1 ?a2 ?l2 ?c2 ?k2 ?a3 ?l3 ?c3 ?k3 ?a4 ?l4 ?c4 ?k4 ?a5 ?l5 ?c5 ?k5 ?a6 ?l6 ?c6 ?k6 ?a7 ?l7 ?c7 ?k7 ?a8 ?l8 ?c8 ?k8 ?a9 ?l9 ?c9 ?k9 ?a10 ?l10 ?c10 ?k10 ?a11 ?l11 ?c11 ?k11 ?a12 ?l12 ?c12 ?k12 ?a13 ?l13 ?c13 ?k13 ?a14 ?l14 ?c14 ?k14 ?a15 ?l15 ?c15 ?k15 ?z0 ?z1 ?z2 ?z3 ?z4 ?z5 ?z6 ?z7 ?z8 ?z9
    (case a0 => k_is)
    (case l0 => k_is)
    (case c0 => k_is)
    (case k0 => k_is)
    (case a1 => k_is)
    (case l1 => k_is)
    (case c1 => k_is)
    (case k1 => k_is)
    (case a2 => k_is)
    (case l2 => k_is)
    (case c2 => k_is)
    (case k2 => k_is)
    (case a3 => k_is)
    (case l3 => k_is)
    (case c3 => k_is)
    (case k3 => k_is)
    (case a4 => k_is)
    (case l4 => k_is)
    (case c4 => k_is)
    (case k4 => k_is)
    (case a5 => k_is)
    (case l5 => k_is)
    (case c5 => k_is)
    (case k5 => k_is)
    (case a6 => k_is)
    (case l6 => k_is)
    (case c6 => k_is)
    (case k6 => k_is)
    (case a7 => k_is)
    (case l7 => k_is)
    (case c7 => k_is)
    (case k7 => k_is)
    (case a8 => k_is)
    (case l8 => k_is)
    (case c8 => k_is)
    (case k8 => k_is)
    (case a9 => k_is)
    (case l9 => k_is)
    (case c9 => k_is)
    (case k9 => k_is)
    (case a10 => k_is)
    (case l10 => k_is)
    (case c10 => k_is)
    (case k10 => k_is)
    (case a11 => k_is)
    (case l11 => k_is)
    (case c11 => k_is)
    (case k11 => k_is)
    (case a12 => k_is)
    (case l12 => k_is)
    (case c12 => k_is)
    (case k12 => k_is)
    (case a13 => k_is)
    (case l13 => k_is)
    (case c13 => k_is)
    (case k13 => k_is)
    (case a14 => k_is)
    (case l14 => k_is)
    (case c14 => k_is)
    (case k14 => k_is)
    (case a15 => k_is)
    (case l15 => k_is)
    (case c15 => k_is)
    (case k15 => k_is)
    (case z0 => k_is)
    (case z1 => k_is)
    (case z2 => k_is)
    (case z3 => k_is)
    (case z4 => k_is)
    (case z5 => k_is)
    (case z6 => k_is)
    (case z7 => k_is)
    (case z8 => k_is)
    (case z9 => k_is)

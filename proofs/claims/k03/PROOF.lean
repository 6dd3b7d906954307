
import PyProof.Rows.All
import Wide.All
import OpenK.AllK
import Wide.FinOn
import HandS.ForMost
import HandS.IsInst
import HandS.Gcd
import HandS.Wide
import HandS.WideBits
import HandS.StrMore
import HandS.TupAny
import HandS.FStr
import HandS.Conv
import HandS.Deep
import HandS.Codes
import HandS.Style
import HandS.RaiseMore
import HandS.Steps
import HandS.Walk
import HandS.Zip
import KE.KDictOf
import PyProof.Rows.StrOr
import PySem.Challenge.RW_keeproom_k03_questions_come_back
set_option Elab.async false
set_option linter.all false
set_option maxRecDepth 100000
set_option maxHeartbeats 4000000

namespace My
open PySem PySem.Spec PyProof.Rows L2
/-! ### the written table of openings -/
abbrev Row := Str × List PyData × Nat
def sd (x : String) : PyData := .str (Str.ofString x)
def tab0 : List Row := [
  ("now", [sd "now"], 0), ("nothing", [sd "nothing"], 0), ("less(", [sd "less"], 2), ("same(", [sd "same"], 2), ("if(", [sd "if"], 3),
  ("last(", [sd "last"], 1), ("first(", [sd "first"], 1), ("before(", [sd "before"], 1), ("great(1,", [sd "great", .int 1], 1), ("great(2,", [sd "great", .int 2], 1),
  ("least(1,", [sd "least", .int 1], 1), ("least(2,", [sd "least", .int 2], 1), ("times(1,", [sd "times", .int 1], 1), ("times(2,", [sd "times", .int 2], 1), ("times(3,", [sd "times", .int 3], 1),
  ("circle(2,0,", [sd "circle", .int 2, .int 0], 1), ("circle(2,1,", [sd "circle", .int 2, .int 1], 1), ("circle(3,0,", [sd "circle", .int 3, .int 0], 1), ("circle(3,1,", [sd "circle", .int 3, .int 1], 1), ("circle(3,2,", [sd "circle", .int 3, .int 2], 1),
  ("since(", [sd "since"], 2), ("among(", [sd "among"], 2)]
def Ent (K : PySem.W.Frag) (P : Params) (e : DictEntry) (x : Row) : Prop :=
  (∃ t, e.key = .str x.1 t) ∧ e.hash = PyData.keyHash P x.1 ∧ ∃ p q, e.val = .ref p ∧ ∀ H, SqT K H p [.ref q, .int (x.2.2 : Int)] ∧ Dp K H (.ref q) (.tuple x.2.1)
def OpenT (K : PySem.W.Frag) (P : Params) : Prop := ∃ (d : Addr) (es : Array DictEntry) (n : Nat), PySem.W.nsIn K mainGlobals "OPENINGS" = some (some (.ref d)) ∧ K.lookup d = some ⟨.type "dict", none, .dict es n, #[]⟩ ∧ (d == sysModules) = false ∧ Paired (Ent K P) es.toList tab0
def OpenM (K : PySem.W.Frag) (mg : Str → Option Value) (P : Params) : Prop := ∃ (d : Addr) (es : Array DictEntry) (n : Nat), mg "OPENINGS" = some (.ref d) ∧ K.lookup d = some ⟨.type "dict", none, .dict es n, #[]⟩ ∧ (d == sysModules) = false ∧ Paired (Ent K P) es.toList tab0
theorem OpenT.m {K : PySem.W.Frag} {h : Heap} {mg : Str → Option Value} {P : Params} (X : K.In h) (G : h.Ns mainGlobals mg) (t : OpenT K P) : OpenM K mg P := by
  obtain ⟨d, es, n, h1, h2, h3, h4⟩ := t
  exact ⟨d, es, n, PySem.W.mg_of X G h1, h2, h3, h4⟩
theorem OpenT.mk {K : PySem.W.Frag} {P : Params} {d : Addr} {es : Array DictEntry} {n : Nat} (h1 : PySem.W.nsIn K mainGlobals "OPENINGS" = some (some (.ref d))) (h2 : K.lookup d = some ⟨.type "dict", none, .dict es n, #[]⟩) (h3 : (d == sysModules) = false) (h4 : Paired (Ent K P) es.toList tab0) : OpenT K P := ⟨d, es, n, h1, h2, h3, h4⟩
theorem Ent.mk {K : PySem.W.Frag} {P : Params} {k : Str} {fs : List PyData} {c : Nat} {t : Tok} {hs : Int} {p q : Addr} {o1 o2 : Option Addr} {sl1 sl2 : Array (Option Value)} {i1 i2 : List Value} {n1 n2 : Nat} {xs : List V}
    (hh : hs = PyData.keyHash P k) (l1 : K.lookup p = some ⟨.type "tuple", o1, .seq ⟨i1⟩ n1, sl1⟩) (v1 : Vals [.ref q, .int (c : Int)] i1) (l2 : K.lookup q = some ⟨.type "tuple", o2, .seq ⟨i2⟩ n2, sl2⟩) (v2 : Vals xs i2)
    (z1 : i1.length ≤ sizeLine) (z2 : i2.length ≤ sizeLine) (al : ∀ H, DpAll K H xs fs) : Ent K P ⟨hs, .str k t, .ref p⟩ (k, fs, c) :=
  ⟨⟨t, rfl⟩, hh, p, q, rfl, fun H => ⟨.inr ⟨_, _, _, l1, rfl, rfl, z1, v1⟩, .tup (.inr ⟨_, _, _, l2, rfl, rfl, z2, v2⟩) (al H)⟩⟩
end My
namespace My
open PySem PySem.Spec PyProof.Rows L2
def Rw (K : PySem.W.Frag) (kv : Key × V) (x : Row) : Prop := kv.1 = Sum.inr x.1 ∧ ∃ p q, kv.2 = .ref p ∧ ∀ H, SqT K H p [.ref q, .int (x.2.2 : Int)] ∧ Dp K H (.ref q) (.tuple x.2.1)
theorem ent_rows {K : PySem.W.Frag} {P : Program} {w : World} : ∀ {l : List DictEntry} {tab : List Row}, Paired (Ent K w.params) l tab →
    ∃ (vs : List (Key × Value)) (kvs : List (Key × V)), Pairs (mixKind P w) l vs ∧ KV kvs vs ∧ Paired (Rw K) kvs tab ∧ vs.map (·.1) = tab.map (fun x => Sum.inr x.1) ∧ ∀ e ∈ l, ∃ k, (mixKind P w).is k e.key = true ∧ e.hash = (mixKind P w).hash k
  | [], _, .nil => ⟨[], [], .nil, .nil, .nil, rfl, fun _ h => by cases h⟩
  | e :: l, x :: tab, .cons ⟨⟨t, ek⟩, eh, p, q, ev, hd⟩ r => by
    obtain ⟨vs, kvs, h1, h2, h3, h4, h5⟩ := ent_rows (P := P) (w := w) r
    have hk : (mixKind P w).is (Sum.inr x.1) e.key = true := by
      rw [ek]
      exact strKind_is P w x.1 t
    have hh : e.hash = (mixKind P w).hash (Sum.inr x.1) := by
      rw [eh]
      rfl
    refine ⟨(Sum.inr x.1, .ref p) :: vs, (Sum.inr x.1, .ref p) :: kvs, .cons hk ev h1, .cons ⟨rfl, rfl⟩ h2, .cons ⟨rfl, p, q, rfl, hd⟩ h3, ?_, ?_⟩
    · rw [List.map_cons, List.map_cons, h4]
    · intro e' he'
      rcases List.mem_cons.mp he' with rfl | h
      · exact ⟨_, hk, hh⟩
      · exact h5 e' h
theorem call_dictK {X : Cx} {d : Addr} {es : Array DictEntry} {n : Nat} (hl : X.K.lookup d = some ⟨.type "dict", none, .dict es n, #[]⟩) (lo : (d == sysModules) = false) (hE : Paired (Ent X.K X.w.params) es.toList tab0) :
    CallR X (.type "dict") (fun xs H Q => xs = [.ref d] ∧ ∀ p kvs, H p = none → Paired (Rw X.K) kvs tab0 → Q (.ref p) (upd H p (.dK kvs))) := by
  intro pins s σ H xs us Q I r q
  obtain ⟨ex, q⟩ := q
  subst ex
  obtain ⟨u, eu, rx⟩ := vals1 r
  subst eu
  cases rx
  obtain ⟨vs, kvs, h1, rel, h3, h4, h5⟩ := ent_rows (P := X.prog) (w := X.w) hE
  have dd : s.heap.DictOf (mixKind X.prog X.w) d vs := ⟨_, es, n, I.kIn _ _ hl, ⟨rfl, rfl, rfl⟩, rfl, fun e he => h5 e (Array.mem_toList_iff.mpr he), h1, by rw [h4]; decide +kernel⟩
  have ln : kvs.length = 22 := (Paired.length h3).trans rfl
  have z : kvs.length ≤ sizeLine := by rw [ln]; decide
  refine kt_call_dict lo dd (by rw [← rel.length]; exact z) fun h' d' hs => ?_
  have hm : (s.heap.objs.size == sysModules) = false := beq_eq_false_iff_ne.mpr (Nat.ne_of_gt I.big)
  exact ⟨.ref s.heap.objs.size, upd H s.heap.objs.size (.dK kvs), I.laid (t' := s.toks) (fun b u e => (hs.2 b (Nat.ne_of_lt (Heap.lt_size e))).trans (Heap.get?_push_of_some _ e)) (Nat.le_refl _)
    (show ObjOk X.prog X.w _ _ _ (.dK kvs) from ⟨z, hm, vs, rel, d'⟩), rfl, q _ _ (I.hok.fresh (Nat.le_refl _)) h3⟩
end My

namespace My
/-! ### mathematics of fractions -/
abbrev Q2 := Int × Int
def lt2 (x y : Q2) : Prop := x.1 * y.2 < y.1 * x.2
instance (x y : Q2) : Decidable (lt2 x y) := inferInstanceAs (Decidable (_ < _))
def ok2 (x : Q2) : Prop := 0 < x.2 ∧ Nat.gcd x.1.natAbs x.2.natAbs = 1
def bd2 (n : Nat) (x : Q2) : Prop := x.1.natAbs < 2 ^ n ∧ x.2.natAbs < 2 ^ n
theorem lt2_irr (x : Q2) : ¬ lt2 x x := Int.lt_irrefl _
theorem lt2_asymm {x y : Q2} (h : lt2 x y) : ¬ lt2 y x := fun q => by
  unfold lt2 at h q
  omega
theorem lt2_trans {x y z : Q2} (hx : 0 < x.2) (hy : 0 < y.2) (hz : 0 < z.2) (h : lt2 x y) (h' : lt2 y z) : lt2 x z := by
  unfold lt2 at *
  have a : x.1 * y.2 * z.2 < y.1 * x.2 * z.2 := Int.mul_lt_mul_of_pos_right h hz
  have b : y.1 * z.2 * x.2 < z.1 * y.2 * x.2 := Int.mul_lt_mul_of_pos_right h' hx
  have c : x.1 * z.2 * y.2 < z.1 * x.2 * y.2 := by
    have e1 : x.1 * z.2 * y.2 = x.1 * y.2 * z.2 := by grind
    have e2 : y.1 * z.2 * x.2 = y.1 * x.2 * z.2 := by grind
    have e3 : z.1 * y.2 * x.2 = z.1 * x.2 * y.2 := by grind
    omega
  exact Int.lt_of_mul_lt_mul_right c (Int.le_of_lt hy)
theorem eq2 {x y : Q2} (hx : ok2 x) (hy : ok2 y) (h : ¬ lt2 x y) (h' : ¬ lt2 y x) : x = y := by
  unfold lt2 at *
  have e : x.1 * y.2 = y.1 * x.2 := by omega
  obtain ⟨x1, x2⟩ := x
  obtain ⟨y1, y2⟩ := y
  obtain ⟨p, g⟩ := hx
  obtain ⟨p', g'⟩ := hy
  simp only at *
  have en : x1.natAbs * y2.natAbs = y1.natAbs * x2.natAbs := by rw [← Int.natAbs_mul, ← Int.natAbs_mul, e]
  have d1 : x2.natAbs ∣ y2.natAbs := Nat.Coprime.dvd_of_dvd_mul_left (k := x2.natAbs) (m := x1.natAbs) (n := y2.natAbs) (by rw [Nat.Coprime, Nat.gcd_comm]; exact g) ⟨y1.natAbs, by rw [en, Nat.mul_comm]⟩
  have d2 : y2.natAbs ∣ x2.natAbs := Nat.Coprime.dvd_of_dvd_mul_left (k := y2.natAbs) (m := y1.natAbs) (n := x2.natAbs) (by rw [Nat.Coprime, Nat.gcd_comm]; exact g') ⟨x1.natAbs, by rw [← en, Nat.mul_comm]⟩
  have e2 : x2.natAbs = y2.natAbs := Nat.dvd_antisymm d1 d2
  have e3 : x2 = y2 := by omega
  subst e3
  have e4 : x1 = y1 := Int.eq_of_mul_eq_mul_right (by omega) e
  rw [e4]
def red (t b : Int) : Q2 := (t / (Nat.gcd t.natAbs b.natAbs : Nat), b / (Nat.gcd t.natAbs b.natAbs : Nat))
theorem gcd_pos {t b : Int} (hb : 0 < b) : 0 < Nat.gcd t.natAbs b.natAbs := Nat.gcd_pos_of_pos_right _ (by omega)
theorem dvd_i {g : Nat} {t : Int} (h : g ∣ t.natAbs) : (g : Int) ∣ t := Int.ofNat_dvd_left.mpr h
theorem red_mul {t b : Int} : (red t b).1 * (Nat.gcd t.natAbs b.natAbs : Nat) = t ∧ (red t b).2 * (Nat.gcd t.natAbs b.natAbs : Nat) = b :=
  ⟨Int.ediv_mul_cancel (dvd_i (Nat.gcd_dvd_left _ _)), Int.ediv_mul_cancel (dvd_i (Nat.gcd_dvd_right _ _))⟩
theorem red_pos {t b : Int} (hb : 0 < b) : 0 < (red t b).2 := by
  have h := (red_mul (t := t) (b := b)).2
  have g : (0 : Int) < (Nat.gcd t.natAbs b.natAbs : Nat) := by exact_mod_cast gcd_pos hb
  refine Int.lt_of_not_ge fun q => ?_
  have h2 : (red t b).2 * (Nat.gcd t.natAbs b.natAbs : Nat) ≤ 0 := Int.mul_nonpos_of_nonpos_of_nonneg q (Int.le_of_lt g)
  omega
theorem red_ok {t b : Int} (hb : 0 < b) : ok2 (red t b) := by
  refine ⟨red_pos hb, ?_⟩
  have g := gcd_pos (t := t) hb
  have e1 : (red t b).1.natAbs = t.natAbs / Nat.gcd t.natAbs b.natAbs := by
    refine (Nat.div_eq_of_eq_mul_left g ?_).symm
    have h := (red_mul (t := t) (b := b)).1
    have h2 := congrArg Int.natAbs h
    rw [Int.natAbs_mul, Int.natAbs_natCast] at h2
    exact h2.symm
  have e2 : (red t b).2.natAbs = b.natAbs / Nat.gcd t.natAbs b.natAbs := by
    refine (Nat.div_eq_of_eq_mul_left g ?_).symm
    have h := (red_mul (t := t) (b := b)).2
    have h2 := congrArg Int.natAbs h
    rw [Int.natAbs_mul, Int.natAbs_natCast] at h2
    exact h2.symm
  rw [e1, e2]
  exact Nat.coprime_div_gcd_div_gcd g
theorem red_id {t b : Int} (h : Nat.gcd t.natAbs b.natAbs = 1) : red t b = (t, b) := by
  unfold red
  rw [h]
  simp
theorem red_bd {n : Nat} {t b : Int} (hb : 0 < b) (h1 : t.natAbs < 2 ^ n) (h2 : b.natAbs < 2 ^ n) : bd2 n (red t b) := by
  have g := gcd_pos (t := t) hb
  have a1 := congrArg Int.natAbs (red_mul (t := t) (b := b)).1
  have a2 := congrArg Int.natAbs (red_mul (t := t) (b := b)).2
  rw [Int.natAbs_mul, Int.natAbs_natCast] at a1 a2
  exact ⟨Nat.lt_of_le_of_lt (Nat.le_trans (Nat.le_mul_of_pos_right _ g) (Nat.le_of_eq a1)) h1, Nat.lt_of_le_of_lt (Nat.le_trans (Nat.le_mul_of_pos_right _ g) (Nat.le_of_eq a2)) h2⟩
theorem lt2_red_l {t b : Int} {y : Q2} (hb : 0 < b) : lt2 (red t b) y ↔ t * y.2 < y.1 * b := by
  obtain ⟨a1, a2⟩ := red_mul (t := t) (b := b)
  have g : (0 : Int) < (Nat.gcd t.natAbs b.natAbs : Nat) := by exact_mod_cast gcd_pos hb
  generalize hk : ((Nat.gcd t.natAbs b.natAbs : Nat) : Int) = k at *
  generalize red t b = r at *
  unfold lt2
  have e1 : t * y.2 = r.1 * y.2 * k := by rw [← a1]; grind
  have e2 : y.1 * b = y.1 * r.2 * k := by rw [← a2]; grind
  rw [e1, e2]
  exact (Int.mul_lt_mul_right g).symm
theorem lt2_red_r {t b : Int} {y : Q2} (hb : 0 < b) : lt2 y (red t b) ↔ y.1 * b < t * y.2 := by
  obtain ⟨a1, a2⟩ := red_mul (t := t) (b := b)
  have g : (0 : Int) < (Nat.gcd t.natAbs b.natAbs : Nat) := by exact_mod_cast gcd_pos hb
  generalize hk : ((Nat.gcd t.natAbs b.natAbs : Nat) : Int) = k at *
  generalize red t b = r at *
  unfold lt2
  have e1 : t * y.2 = r.1 * y.2 * k := by rw [← a1]; grind
  have e2 : y.1 * b = y.1 * r.2 * k := by rw [← a2]; grind
  rw [e1, e2]
  exact (Int.mul_lt_mul_right g).symm
/-! ### the position among sorted numbers -/
def Srt (xs : List Q2) : Prop := xs.Pairwise lt2 ∧ ∀ x ∈ xs, ok2 x
def rk (x : Q2) (xs : List Q2) : Nat := (xs.filter fun y => decide (lt2 y x)).length
def pos2 (x : Q2) (xs : List Q2) : Nat := if rk x xs < xs.length ∧ ¬ lt2 x (xs.getD (rk x xs) (0, 1)) then 2 * rk x xs + 1 else 2 * rk x xs
theorem rk_le (x : Q2) (xs : List Q2) : rk x xs ≤ xs.length := List.length_filter_le _ _
theorem rk_cut {x : Q2} : ∀ {xs : List Q2} {i : Nat}, i ≤ xs.length → (∀ j (h : j < xs.length), j < i → lt2 xs[j] x) → (∀ j (h : j < xs.length), i ≤ j → ¬ lt2 xs[j] x) → rk x xs = i
  | [], i, h, _, _ => by
    have e : i = 0 := Nat.le_zero.mp h
    subst e
    rfl
  | y :: r, 0, _, _, h2 => by
    have e : ¬ lt2 y x := h2 0 (Nat.zero_lt_succ _) (Nat.le_refl _)
    have ih := rk_cut (x := x) (xs := r) (i := 0) (Nat.zero_le _) (fun j _ q => absurd q (Nat.not_lt_zero _)) fun j hj _ => h2 (j + 1) (Nat.succ_lt_succ hj) (Nat.zero_le _)
    unfold rk at *
    rw [List.filter_cons_of_neg (by simpa using e)]
    exact ih
  | y :: r, i + 1, h, h1, h2 => by
    have e : lt2 y x := h1 0 (Nat.zero_lt_succ _) (Nat.zero_lt_succ _)
    have ih := rk_cut (x := x) (xs := r) (i := i) (Nat.le_of_succ_le_succ h) (fun j hj q => h1 (j + 1) (Nat.succ_lt_succ hj) (Nat.succ_lt_succ q)) fun j hj q => h2 (j + 1) (Nat.succ_lt_succ hj) (Nat.succ_le_succ q)
    unfold rk at *
    rw [List.filter_cons_of_pos (by simpa using e), List.length_cons, ih]
theorem Srt.lt {xs : List Q2} (s : Srt xs) {i j : Nat} (hi : i < xs.length) (hj : j < xs.length) (h : i < j) : lt2 xs[i] xs[j] := List.pairwise_iff_getElem.mp s.1 i j hi hj h
theorem Srt.ok {xs : List Q2} (s : Srt xs) {i : Nat} (hi : i < xs.length) : ok2 xs[i] := s.2 _ (List.getElem_mem hi)
/-- a sorted list falls in two parts -/
theorem Srt.cut {xs : List Q2} (s : Srt xs) {x : Q2} (hx : 0 < x.2) : ∃ i, i ≤ xs.length ∧ (∀ j (h : j < xs.length), j < i → lt2 xs[j] x) ∧ (∀ j (h : j < xs.length), i ≤ j → ¬ lt2 xs[j] x) := by
  induction xs with
  | nil => exact ⟨0, Nat.le_refl _, fun j h => absurd h (Nat.not_lt_zero _), fun j h => absurd h (Nat.not_lt_zero _)⟩
  | cons y r ih =>
    obtain ⟨i, h0, h1, h2⟩ := ih ⟨(List.pairwise_cons.mp s.1).2, fun z hz => s.2 z (List.mem_cons_of_mem _ hz)⟩
    by_cases e : lt2 y x
    · refine ⟨i + 1, Nat.succ_le_succ h0, fun j h q => ?_, fun j h q => ?_⟩
      · cases j with
        | zero => exact e
        | succ j => exact h1 j (Nat.lt_of_succ_lt_succ h) (Nat.lt_of_succ_lt_succ q)
      · cases j with
        | zero => exact absurd q (Nat.not_succ_le_zero _)
        | succ j => exact h2 j (Nat.lt_of_succ_lt_succ h) (Nat.le_of_succ_le_succ q)
    · refine ⟨0, Nat.zero_le _, fun j h q => absurd q (Nat.not_lt_zero _), fun j h _ => ?_⟩
      cases j with
      | zero => exact e
      | succ j =>
        intro q
        have hj : j < r.length := Nat.lt_of_succ_lt_succ h
        have a : lt2 y r[j] := (List.pairwise_cons.mp s.1).1 _ (List.getElem_mem hj)
        exact e (lt2_trans (s.2 y List.mem_cons_self).1 (s.2 _ (List.mem_cons_of_mem _ (List.getElem_mem hj))).1 hx a q)
theorem getD_at {xs : List Q2} {i : Nat} (h : i < xs.length) (d : Q2) : xs.getD i d = xs[i] := by
  rw [List.getD_eq_getElem?_getD, List.getElem?_eq_getElem h]
  rfl
/-- a number of the list stands at an odd position, another one at an even one -/
theorem pos2_in {xs : List Q2} (s : Srt xs) {x : Q2} (hx : ok2 x) : pos2 x xs = 2 * rk x xs + (if x ∈ xs then 1 else 0) := by
  obtain ⟨i, h0, h1, h2⟩ := s.cut hx.1
  have e := rk_cut h0 h1 h2
  unfold pos2
  rw [e]
  by_cases hm : x ∈ xs
  · obtain ⟨j, hj, ej⟩ := List.getElem_of_mem hm
    have a : ¬ j < i := fun q => lt2_irr x (by have := h1 j hj q; rw [ej] at this; exact this)
    have b : ¬ i < j := fun q => h2 i (by omega) (Nat.le_refl _) (by have := s.lt (i := i) (j := j) (by omega) hj q; rw [ej] at this; exact this)
    have e2 : i = j := by omega
    subst e2
    rw [if_pos ⟨hj, by rw [getD_at hj, ej]; exact lt2_irr x⟩, if_pos hm]
  · rw [if_neg hm]
    by_cases hi : i < xs.length
    · have c : lt2 x xs[i] := by
        refine Decidable.byContradiction fun q => hm ?_
        have e3 := eq2 hx (s.ok hi) q (h2 i hi (Nat.le_refl _))
        rw [e3]
        exact List.getElem_mem hi
      rw [if_neg (by rw [getD_at hi]; exact fun q => q.2 c)]
      rfl
    · rw [if_neg (fun q => hi q.1)]
      rfl
theorem pos2_odd {xs : List Q2} (s : Srt xs) {i : Nat} (hi : i < xs.length) : pos2 xs[i] xs = 2 * i + 1 := by
  have e : rk xs[i] xs = i := rk_cut (Nat.le_of_lt hi) (fun j h q => s.lt h hi q) fun j h q => by
    by_cases e : i = j
    · subst e
      exact lt2_irr _
    · exact lt2_asymm (s.lt hi h (by omega))
  unfold pos2
  rw [e, if_pos ⟨hi, by rw [getD_at hi]; exact lt2_irr _⟩]
theorem pos2_even {xs : List Q2} (s : Srt xs) {x : Q2} (hx : 0 < x.2) {i : Nat} (hi : i ≤ xs.length) (h1 : ∀ (h : i - 1 < xs.length), 0 < i → lt2 xs[i - 1] x) (h2 : ∀ (h : i < xs.length), lt2 x xs[i]) : pos2 x xs = 2 * i := by
  have e : rk x xs = i := rk_cut hi (fun j h q => by
    have hl : i - 1 < xs.length := by omega
    have a := h1 hl (by omega)
    by_cases e : j = i - 1
    · subst e
      exact a
    · exact lt2_trans (s.ok h).1 (s.ok hl).1 hx (s.lt h hl (by omega)) a) fun j h q => by
    have hl : i < xs.length := by omega
    have a := h2 hl
    by_cases e : i = j
    · subst e
      exact lt2_asymm a
    · exact lt2_asymm (lt2_trans hx (s.ok hl).1 (s.ok h).1 a (s.lt hl h (by omega)))
  unfold pos2
  rw [e]
  by_cases hl : i < xs.length
  · rw [if_neg (by rw [getD_at hl]; exact fun q => q.2 (h2 hl))]
  · rw [if_neg (fun q => hl q.1)]
/-! ### the number for a position -/
def mid2 (a b : Q2) : Q2 := red (a.1 * b.2 + b.1 * a.2) (2 * a.2 * b.2)
def num2 (k : Nat) (xs : List Q2) : Q2 :=
  if k % 2 = 1 then xs.getD (k / 2) (0, 1) else if xs.length = 0 then (0, 1) else if k / 2 = 0 then ((xs.getD 0 (0, 1)).1 - (xs.getD 0 (0, 1)).2, (xs.getD 0 (0, 1)).2)
  else if k / 2 = xs.length then ((xs.getD (xs.length - 1) (0, 1)).1 + (xs.getD (xs.length - 1) (0, 1)).2, (xs.getD (xs.length - 1) (0, 1)).2) else mid2 (xs.getD (k / 2 - 1) (0, 1)) (xs.getD (k / 2) (0, 1))
theorem mid2_pos {a b : Q2} (ha : 0 < a.2) (hb : 0 < b.2) : 0 < 2 * a.2 * b.2 := Int.mul_pos (by omega) hb
theorem mid2_lt {a b : Q2} (ha : 0 < a.2) (hb : 0 < b.2) (h : lt2 a b) : lt2 a (mid2 a b) ∧ lt2 (mid2 a b) b := by
  have p := mid2_pos ha hb
  unfold lt2 at h
  refine ⟨(lt2_red_r p).mpr ?_, (lt2_red_l p).mpr ?_⟩
  · have m : a.1 * b.2 * a.2 < b.1 * a.2 * a.2 := Int.mul_lt_mul_of_pos_right h ha
    have e1 : a.1 * (2 * a.2 * b.2) = a.1 * b.2 * a.2 + a.1 * b.2 * a.2 := by grind
    have e2 : (a.1 * b.2 + b.1 * a.2) * a.2 = a.1 * b.2 * a.2 + b.1 * a.2 * a.2 := by grind
    omega
  · have m : a.1 * b.2 * b.2 < b.1 * a.2 * b.2 := Int.mul_lt_mul_of_pos_right h hb
    have e1 : b.1 * (2 * a.2 * b.2) = b.1 * a.2 * b.2 + b.1 * a.2 * b.2 := by grind
    have e2 : (a.1 * b.2 + b.1 * a.2) * b.2 = a.1 * b.2 * b.2 + b.1 * a.2 * b.2 := by grind
    omega
theorem sub_lt {a : Q2} (ha : 0 < a.2) : lt2 (a.1 - a.2, a.2) a := by
  unfold lt2
  have m : 0 < a.2 * a.2 := Int.mul_pos ha ha
  show (a.1 - a.2) * a.2 < a.1 * a.2
  rw [Int.sub_mul]
  omega
theorem add_lt {a : Q2} (ha : 0 < a.2) : lt2 a (a.1 + a.2, a.2) := by
  unfold lt2
  have m : 0 < a.2 * a.2 := Int.mul_pos ha ha
  show a.1 * a.2 < (a.1 + a.2) * a.2
  rw [Int.add_mul]
  omega
theorem sub_ok {a : Q2} (h : ok2 a) : ok2 (a.1 - a.2, a.2) := ⟨h.1, by
  have e : Int.gcd (a.1 - a.2) a.2 = Int.gcd a.1 a.2 := Int.gcd_sub_self_left _ _
  exact e.trans h.2⟩
theorem add_ok {a : Q2} (h : ok2 a) : ok2 (a.1 + a.2, a.2) := ⟨h.1, by
  have e : Int.gcd (a.1 + a.2) a.2 = Int.gcd a.1 a.2 := Int.gcd_add_self_left _ _
  exact e.trans h.2⟩
theorem num2_pos {xs : List Q2} (s : Srt xs) {k : Nat} (hk : k ≤ 2 * xs.length) : pos2 (num2 k xs) xs = k := by
  unfold num2
  by_cases h1 : k % 2 = 1
  · have hi : k / 2 < xs.length := by omega
    rw [if_pos h1, getD_at hi, pos2_odd s hi]
    omega
  rw [if_neg h1]
  have ek : 2 * (k / 2) = k := by omega
  by_cases h2 : xs.length = 0
  · rw [if_pos h2]
    have e := pos2_even s (x := (0, 1)) (by decide) (i := 0) (Nat.zero_le _) (fun _ q => absurd q (Nat.lt_irrefl _)) fun h => by omega
    omega
  rw [if_neg h2]
  by_cases h3 : k / 2 = 0
  · rw [if_pos h3]
    have h0 : 0 < xs.length := by omega
    rw [getD_at h0]
    have e := pos2_even s (x := (xs[0].1 - xs[0].2, xs[0].2)) (s.ok h0).1 (i := 0) (Nat.zero_le _) (fun _ q => absurd q (Nat.lt_irrefl _)) fun h => sub_lt (s.ok h0).1
    omega
  rw [if_neg h3]
  by_cases h4 : k / 2 = xs.length
  · rw [if_pos h4]
    have h0 : xs.length - 1 < xs.length := by omega
    rw [getD_at h0]
    have e := pos2_even s (x := (xs[xs.length - 1].1 + xs[xs.length - 1].2, xs[xs.length - 1].2)) (s.ok h0).1 (i := xs.length) (Nat.le_refl _) (fun _ _ => add_lt (s.ok h0).1) fun h => by omega
    omega
  rw [if_neg h4]
  have ha : k / 2 - 1 < xs.length := by omega
  have hb : k / 2 < xs.length := by omega
  rw [getD_at ha, getD_at hb]
  have m := mid2_lt (s.ok ha).1 (s.ok hb).1 (s.lt ha hb (by omega))
  have e := pos2_even s (x := mid2 xs[k / 2 - 1] xs[k / 2]) (red_pos (mid2_pos (s.ok ha).1 (s.ok hb).1)) (i := k / 2) (Nat.le_of_lt hb) (fun _ _ => m.1) fun h => m.2
  omega
/-! ### a number put in -/
def with2 (xs : List Q2) (x : Q2) : List Q2 := (xs.filter fun y => decide (lt2 y x)) ++ [x] ++ (xs.filter fun y => decide (lt2 x y))
theorem with2_srt {xs : List Q2} (s : Srt xs) {x : Q2} (hx : ok2 x) : Srt (with2 xs x) := by
  refine ⟨?_, fun y hy => ?_⟩
  · unfold with2
    rw [List.append_assoc]
    refine List.pairwise_append.mpr ⟨s.1.filter _, ?_, fun a ha b hb => ?_⟩
    · refine List.pairwise_append.mpr ⟨List.pairwise_singleton _ _, s.1.filter _, fun a ha b hb => ?_⟩
      rw [List.mem_singleton.mp ha]
      exact of_decide_eq_true (List.mem_filter.mp hb).2
    · have la : lt2 a x := of_decide_eq_true (List.mem_filter.mp ha).2
      rcases List.mem_append.mp hb with hb | hb
      · rw [List.mem_singleton.mp hb]
        exact la
      · exact lt2_trans (s.2 _ (List.mem_filter.mp ha).1).1 hx.1 (s.2 _ (List.mem_filter.mp hb).1).1 la (of_decide_eq_true (List.mem_filter.mp hb).2)
  · unfold with2 at hy
    rcases List.mem_append.mp hy with hy | hy
    · rcases List.mem_append.mp hy with hy | hy
      · exact s.2 _ (List.mem_filter.mp hy).1
      · rw [List.mem_singleton.mp hy]
        exact hx
    · exact s.2 _ (List.mem_filter.mp hy).1
theorem with2_mem {xs : List Q2} {x y : Q2} (hy : y ∈ with2 xs x) : y = x ∨ y ∈ xs := by
  unfold with2 at hy
  rcases List.mem_append.mp hy with hy | hy
  · rcases List.mem_append.mp hy with hy | hy
    · exact .inr (List.mem_filter.mp hy).1
    · exact .inl (List.mem_singleton.mp hy)
  · exact .inr (List.mem_filter.mp hy).1
theorem filter2_le {α : Type} (p q : α → Bool) (h : ∀ a, p a = true → q a = true → False) : ∀ xs : List α, (xs.filter p).length + (xs.filter q).length ≤ xs.length
  | [] => Nat.le_refl _
  | a :: r => by
    have ih := filter2_le p q h r
    rw [List.filter_cons, List.filter_cons]
    have z := h a
    cases hp : p a <;> cases hq : q a <;> simp_all <;> omega
theorem with2_len (xs : List Q2) (x : Q2) : (with2 xs x).length ≤ xs.length + 1 := by
  have h := filter2_le (fun y => decide (lt2 y x)) (fun y => decide (lt2 x y)) (fun a h1 h2 => lt2_asymm (of_decide_eq_true h1) (of_decide_eq_true h2)) xs
  unfold with2
  rw [List.length_append, List.length_append]
  simp only [List.length_singleton]
  omega
/-! ### Euclid -/
/-- left turns suffice -/
def Euc (a b r : Nat) : Prop := ∃ m, (b < 2 ^ m ∧ 2 * m + 1 ≤ r) ∨ (b < a ∧ a < 2 ^ m ∧ 2 * m ≤ r)
theorem Euc.pos {a b r : Nat} (h : Euc a b r) : 0 < r ∨ False := by
  obtain ⟨m, h | h⟩ := h
  · exact .inl (by omega)
  · cases m with
    | zero => omega
    | succ m => exact .inl (by omega)
theorem Euc.next {a b r : Nat} (h : Euc a b (r + 1)) (hb : b ≠ 0) : Euc b (a % b) r := by
  have hm := Nat.mod_lt a (Nat.pos_of_ne_zero hb)
  obtain ⟨m, h | h⟩ := h
  · exact ⟨m, .inr ⟨hm, h.1, by omega⟩⟩
  · cases m with
    | zero => omega
    | succ m =>
      refine ⟨m, .inl ⟨?_, by omega⟩⟩
      have e := Nat.div_add_mod a b
      have q : 1 ≤ a / b := Nat.div_pos (by omega) (Nat.pos_of_ne_zero hb)
      have q2 : b ≤ b * (a / b) := Nat.le_mul_of_pos_right _ q
      have p : 2 ^ (m + 1) = 2 * 2 ^ m := by rw [Nat.pow_succ, Nat.mul_comm]
      omega
theorem Euc.start {a b k r : Nat} (h : b < 2 ^ k) (hr : 2 * k + 1 ≤ r) : Euc a b r := ⟨k, .inl ⟨h, hr⟩⟩
end My

namespace My
open PySem PySem.Spec PyProof.Rows L2 NumText TL
/-! ### texts as lists of codes -/
theorem tl_len (x : Str) : (tl x).length = x.length := (len_tl x).symm
theorem starts_pre {x y : Str} (hy : tl y ≠ []) : Txt.startswith x y = pre (tl y) (tl x) := by
  have h := at_iff (x := x) hy 0
  rw [List.drop_zero] at h
  have e : Txt.startswith x y = true ↔ PySem.StrLaws.At x y x.length 0 := by
    unfold Txt.startswith PySem.StrLaws.At
    simp
  cases hp : pre (tl y) (tl x) with
  | true => exact e.mpr (h.mpr hp)
  | false =>
    cases hs : Txt.startswith x y with
    | false => rfl
    | true => rw [h.mp (e.mp hs)] at hp; cases hp
theorem pre_one (c : Nat) (l : List Nat) : pre [c] l = decide (l.head? = some c) := by
  cases l with
  | nil => rfl
  | cons d r =>
    unfold pre
    by_cases h : d = c
    · subst h; simp
    · simp [h]
def dig (c : Nat) : Bool := decide (48 ≤ c) && decide (c ≤ 57)
theorem dec_ascii : ∀ c : Nat, c < 128 → PySem.Unicode.isDecimal c = dig c := by decide +kernel
theorem asc_dec (x : Str) : (Txt.isascii x && Txt.isdecimal x) = (!(tl x).isEmpty && (tl x).all dig) := by
  have ea : Txt.isascii x = (tl x).all fun c => decide (c < 128) := by
    unfold Txt.isascii tl
    rw [Array.all_toList]
  have ed : Txt.isdecimal x = (!(tl x).isEmpty && (tl x).all PySem.Unicode.isDecimal) := by
    unfold Txt.isdecimal
    have e1 : decide (x.length > 0) = !(tl x).isEmpty := by
      rw [← tl_len]
      cases tl x <;> rfl
    rw [e1]
    unfold tl
    rw [Array.all_toList]
  rw [ea, ed]
  generalize tl x = l
  have key : ((l.all fun c => decide (c < 128)) && l.all PySem.Unicode.isDecimal) = l.all dig := by
    induction l with
    | nil => rfl
    | cons c r ih =>
      rw [List.all_cons, List.all_cons, List.all_cons, ← ih]
      by_cases h : c < 128
      · rw [decide_eq_true h, dec_ascii c h]
        cases dig c <;> simp
      · have hd : dig c = false := by unfold dig; rw [decide_eq_false (show ¬ c ≤ 57 by omega), Bool.and_false]
        rw [decide_eq_false h, hd]
        simp
  rw [← key]
  cases (l.all fun c => decide (c < 128)) <;> cases l.isEmpty <;> simp
theorem all_dig {l : List Nat} : l.all dig = true ↔ AllDigits l := by
  unfold AllDigits dig
  rw [List.all_eq_true]
  simp
def canon (l : List Nat) : Bool := !l.isEmpty && l.all dig && !(decide (l.head? = some 48) && !decide (l = [48]))
def natOf (l : List Nat) : Option Nat := if canon l = true then some (digitsVal l) else none
def intOf (l : List Nat) : Option Int := match l with
  | 45 :: r => (match natOf r with | some 0 => none | some n => some (-(n : Int)) | none => none)
  | _ => (natOf l).map Int.ofNat
/-- a text's pair -/
def ratOf (l : List Nat) : Option Q2 :=
  match intOf (l.takeWhile (· ≠ 47)) with
  | none => none
  | some t => match l.dropWhile (· ≠ 47) with
    | [] => some (t, 1)
    | _ :: b => match natOf b with
      | none => none
      | some d => if d < 2 ∨ Nat.gcd t.natAbs d ≠ 1 then none else some (t, (d : Int))
theorem natOf_some {l : List Nat} {n : Nat} (h : natOf l = some n) : AllDigits l ∧ l ≠ [] ∧ n = digitsVal l := by
  unfold natOf at h
  split at h
  · rename_i c
    unfold canon at c
    rw [Bool.and_eq_true, Bool.and_eq_true] at c
    refine ⟨all_dig.mp c.1.2, ?_, (Option.some.inj h).symm⟩
    intro e
    rw [e] at c
    simp at c
  · cases h
/-! ### values of digits -/
theorem dv_from : ∀ (l : List Nat) (a : Nat), l.foldl (fun acc c => acc * 10 + (c - 48)) a = a * 10 ^ l.length + digitsVal l
  | [], a => by simp [digitsVal]
  | c :: r, a => by
    have h1 := dv_from r (a * 10 + (c - 48))
    have h2 := dv_from r (0 * 10 + (c - 48))
    unfold digitsVal
    rw [List.foldl_cons, List.foldl_cons, h1, h2, List.length_cons, Nat.pow_succ]
    grind
theorem dv_app (a b : List Nat) : digitsVal (a ++ b) = digitsVal a * 10 ^ b.length + digitsVal b := by
  have h : digitsVal (a ++ b) = b.foldl (fun acc c => acc * 10 + (c - 48)) (digitsVal a) := by
    unfold digitsVal
    rw [List.foldl_append]
  rw [h, dv_from]
theorem dv_zero (l : List Nat) : digitsVal (48 :: l) = digitsVal l := by
  unfold digitsVal
  rw [List.foldl_cons]
theorem dv_lt : ∀ {l : List Nat}, AllDigits l → digitsVal l < 10 ^ l.length := by
  intro l
  induction l with
  | nil => intro _; decide
  | cons c r ih =>
    intro h
    have hc := h.head
    have := ih h.tail
    have e := dv_app [c] r
    have e1 : digitsVal [c] = c - 48 := by simp [digitsVal]
    rw [e1] at e
    have e2 : digitsVal (c :: r) = (c - 48) * 10 ^ r.length + digitsVal r := e
    rw [e2, List.length_cons, Nat.pow_succ]
    have m : (c - 48) * 10 ^ r.length ≤ 9 * 10 ^ r.length := Nat.mul_le_mul_right _ (by omega)
    omega
/-! ### digits of numbers -/
theorem numL_head {n : Nat} (h : 1 ≤ n) : (numL n).head? ≠ some 48 := by
  induction n using Nat.strongRecOn with
  | _ n ih =>
    by_cases h10 : n < 10
    · rw [numL_lt h10]
      simp
      omega
    · rw [numL_step (by omega), List.head?_append]
      have i := ih (n / 10) (by omega) (by omega)
      cases e : (numL (n / 10)).head? with
      | none => exact absurd (List.head?_eq_none_iff.mp e) (numL_ne _)
      | some c =>
        rw [e] at i
        exact i
theorem numL_zero : numL 0 = [48] := numL_lt (by decide)
theorem canon_num (n : Nat) : canon (numL n) = true := by
  unfold canon
  have h1 : (numL n).isEmpty = false := by
    cases e : numL n with
    | nil => exact absurd e (numL_ne n)
    | cons _ _ => rfl
  rw [h1, all_dig.mpr (numL_digits n)]
  by_cases h : n = 0
  · subst h
    rw [numL_zero]
    rfl
  · rw [decide_eq_false (numL_head (by omega))]
    rfl
theorem natOf_num (n : Nat) : natOf (numL n) = some n := by
  unfold natOf
  rw [if_pos (canon_num n), numL_val]
def intL (t : Int) : List Nat := if t < 0 then 45 :: numL t.natAbs else numL t.natAbs
theorem numL_no {n c : Nat} (h : c < 48 ∨ 57 < c) : c ∉ numL n := numL_free h
theorem intOf_num (t : Int) : intOf (intL t) = some t := by
  unfold intL
  split
  · rename_i h
    show (match natOf (numL t.natAbs) with | some 0 => none | some n => some (-(n : Int)) | none => none) = _
    rw [natOf_num]
    have h0 : t.natAbs ≠ 0 := by omega
    cases e : t.natAbs with
    | zero => exact absurd e h0
    | succ k =>
      show some (-((k + 1 : Nat) : Int)) = some t
      congr 1
      omega
  · rename_i h
    have e : intOf (numL t.natAbs) = (natOf (numL t.natAbs)).map Int.ofNat := by
      cases e : numL t.natAbs with
      | nil => rfl
      | cons c r =>
        unfold intOf
        split
        · rename_i r' e'
          injection e' with e1 e2
          have hm : c ∈ numL t.natAbs := by rw [e]; exact List.mem_cons_self
          exact absurd hm (numL_no (by omega))
        · rfl
    rw [e, natOf_num]
    show some ((t.natAbs : Nat) : Int) = some t
    congr 1
    omega
def ratL (x : Q2) : List Nat := intL x.1 ++ (if x.2 = 1 then [] else 47 :: numL x.2.natAbs)
theorem intL_no47 (t : Int) : ∀ c ∈ intL t, c ≠ 47 := by
  intro c hc e
  subst e
  unfold intL at hc
  split at hc
  · rcases List.mem_cons.mp hc with e | hc
    · cases e
    · exact absurd hc (numL_no (by omega))
  · exact absurd hc (numL_no (by omega))
theorem tw_app {l r : List Nat} (h : ∀ c ∈ l, c ≠ 47) : (l ++ 47 :: r).takeWhile (· ≠ 47) = l ∧ (l ++ 47 :: r).dropWhile (· ≠ 47) = 47 :: r := by
  induction l with
  | nil => simp
  | cons c l ih =>
    have hc := h c List.mem_cons_self
    obtain ⟨h1, h2⟩ := ih fun d hd => h d (List.mem_cons_of_mem _ hd)
    rw [List.cons_append, List.takeWhile_cons_of_pos (by simpa using hc), List.dropWhile_cons_of_pos (by simpa using hc), h1, h2]
    exact ⟨rfl, rfl⟩
theorem tw_all {l : List Nat} (h : ∀ c ∈ l, c ≠ 47) : l.takeWhile (· ≠ 47) = l ∧ l.dropWhile (· ≠ 47) = [] := by
  induction l with
  | nil => simp
  | cons c l ih =>
    have hc := h c List.mem_cons_self
    obtain ⟨h1, h2⟩ := ih fun d hd => h d (List.mem_cons_of_mem _ hd)
    rw [List.takeWhile_cons_of_pos (by simpa using hc), List.dropWhile_cons_of_pos (by simpa using hc), h1, h2]
    exact ⟨rfl, rfl⟩
theorem ratOf_text {x : Q2} (h : ok2 x) : ratOf (ratL x) = some x := by
  obtain ⟨t, b⟩ := x
  obtain ⟨h1, h2⟩ := h
  simp only at h1 h2
  unfold ratL ratOf
  simp only
  by_cases hb : b = 1
  · subst hb
    obtain ⟨e1, e2⟩ := tw_all (intL_no47 t)
    rw [if_pos rfl, List.append_nil, e1, e2, intOf_num]
  · obtain ⟨e1, e2⟩ := tw_app (r := numL b.natAbs) (intL_no47 t)
    rw [if_neg hb, e1, e2, intOf_num]
    simp only
    rw [natOf_num]
    simp only
    rw [if_neg (by rw [h2]; omega)]
    congr 2
    omega
/-! ### the law's own reading -/
/-- pieces between slashes -/
def cut47 : List Nat → List (List Nat) := spl [47] 0 []
theorem cut47_none {l : List Nat} (h : ∀ c ∈ l, c ≠ 47) : cut47 l = [l] := spl_last1 (S := []) fun hm => h 47 hm rfl
theorem cut47_one {a r : List Nat} (h : ∀ c ∈ a, c ≠ 47) : cut47 (a ++ 47 :: r) = a :: cut47 r := spl_part1 (S := []) (p := a) (rest := r) (acc := []) fun hm => h 47 hm rfl
theorem split47 (l : List Nat) : (∀ c ∈ l, c ≠ 47) ∨ ∃ a r, l = a ++ 47 :: r ∧ ∀ c ∈ a, c ≠ 47 := by
  induction l with
  | nil => exact .inl fun _ h => by cases h
  | cons c l ih =>
    by_cases hc : c = 47
    · subst hc
      exact .inr ⟨[], l, rfl, fun _ h => by cases h⟩
    · rcases ih with h | ⟨a, r, rfl, h⟩
      · exact .inl fun d hd => by
          rcases List.mem_cons.mp hd with e | hd
          · rw [e]; exact hc
          · exact h d hd
      · exact .inr ⟨c :: a, r, rfl, fun d hd => by
          rcases List.mem_cons.mp hd with e | hd
          · rw [e]; exact hc
          · exact h d hd⟩
/-- what the law makes of the body, sg telling a minus ahead -/
def lawOf (sg : Bool) (l : List Nat) : Option Q2 :=
  match natOf ((cut47 l).headD []) with
  | none => none
  | some t =>
    if 2 < (cut47 l).length ∨ (sg = true ∧ t = 0) then none
    else if (cut47 l).length = 1 then some (if sg = true then -(t : Int) else t, 1)
    else match natOf ((cut47 l).getD 1 []) with
      | none => none
      | some d => if d < 2 ∨ Nat.gcd t d ≠ 1 then none else some (if sg = true then -(t : Int) else t, (d : Int))
theorem natOf_no47 {l : List Nat} (h : 47 ∈ l) : natOf l = none := by
  cases e : natOf l with
  | none => rfl
  | some n =>
    have := (natOf_some e).1 47 h
    omega
theorem cut47_len (l : List Nat) : 1 ≤ (cut47 l).length := by
  rcases split47 l with h | ⟨a, r, rfl, h⟩
  · rw [cut47_none h]; exact Nat.le_refl _
  · rw [cut47_one h]; exact Nat.succ_le_succ (Nat.zero_le _)
theorem natOf_noMinus (l : List Nat) : natOf (45 :: l) = none := by
  cases e : natOf (45 :: l) with
  | none => rfl
  | some n =>
    have := (natOf_some e).1 45 List.mem_cons_self
    omega
theorem intOf_plain {l : List Nat} (h : l.head? ≠ some 45) : intOf l = (natOf l).map Int.ofNat := by
  cases l with
  | nil => rfl
  | cons c r =>
    unfold intOf
    split
    · rename_i e
      injection e with e1 e2
      subst e1
      exact absurd rfl h
    · rfl
theorem law_same (l : List Nat) : ratOf l = (if l.head? = some 45 then lawOf true l.tail else lawOf false l) := by
  by_cases hm : l.head? = some 45
  · rw [if_pos hm]
    cases l with
    | nil => cases hm
    | cons c l =>
      have ec : c = 45 := Option.some.inj hm
      subst ec
      show ratOf (45 :: l) = lawOf true l
      have e0 : (45 :: l).takeWhile (· ≠ 47) = 45 :: l.takeWhile (· ≠ 47) := by simp
      have e1 : (45 :: l).dropWhile (· ≠ 47) = l.dropWhile (· ≠ 47) := by simp
      unfold ratOf lawOf
      rw [e0, e1]
      have ei : intOf (45 :: l.takeWhile (· ≠ 47)) = (match natOf (l.takeWhile (· ≠ 47)) with | some 0 => none | some n => some (-(n : Int)) | none => none) := rfl
      rw [ei]
      rcases split47 l with h | ⟨a, r, rfl, h⟩
      · obtain ⟨t1, t2⟩ := tw_all h
        rw [t1, t2, cut47_none h]
        simp only [List.headD_cons, List.length_singleton]
        cases natOf l with
        | none => rfl
        | some n =>
          cases n with
          | zero => rfl
          | succ n => simp
      · obtain ⟨t1, t2⟩ := tw_app (r := r) h
        rw [t1, t2, cut47_one h]
        have hr := cut47_len r
        simp only [List.headD_cons, List.length_cons, List.getD_cons_succ, List.getD_cons_zero]
        cases natOf a with
        | none => rfl
        | some n =>
          cases n with
          | zero => simp
          | succ n =>
            simp only
            rcases split47 r with h' | ⟨a', r', rfl, h'⟩
            · rw [cut47_none h']
              simp only [List.length_singleton, List.getD_cons_zero]
              cases natOf r with
              | none => simp
              | some d =>
                have en : (-((n + 1 : Nat) : Int)).natAbs = n + 1 := by omega
                simp only [en]
                simp
            · rw [natOf_no47 (l := a' ++ 47 :: r') (by simp), cut47_one h']
              have := cut47_len r'
              simp only [List.length_cons]
              rw [if_pos (by left; omega)]
  · rw [if_neg hm]
    have hh : (l.takeWhile (· ≠ 47)).head? ≠ some 45 := by
      cases l with
      | nil => simp
      | cons c l =>
        simp only [List.takeWhile_cons]
        split
        · exact hm
        · simp
    unfold ratOf lawOf
    rw [intOf_plain hh]
    rcases split47 l with h | ⟨a, r, rfl, h⟩
    · obtain ⟨t1, t2⟩ := tw_all h
      rw [t1, t2, cut47_none h]
      simp only [List.headD_cons, List.length_singleton]
      cases natOf l with
      | none => rfl
      | some n => simp
    · obtain ⟨t1, t2⟩ := tw_app (r := r) h
      rw [t1, t2, cut47_one h]
      have hr := cut47_len r
      simp only [List.headD_cons, List.length_cons, List.getD_cons_succ, List.getD_cons_zero]
      cases natOf a with
      | none => rfl
      | some n =>
        simp only [Option.map_some, Int.ofNat_eq_natCast]
        rcases split47 r with h' | ⟨a', r', rfl, h'⟩
        · rw [cut47_none h']
          simp only [List.length_singleton, List.getD_cons_zero]
          cases natOf r with
          | none => simp
          | some d => simp
        · rw [natOf_no47 (l := a' ++ 47 :: r') (by simp), cut47_one h']
          have := cut47_len r'
          simp only [List.length_cons]
          rw [if_pos (by left; omega)]
/-! ### digits in groups -/
/-- k digits of r -/
def dg : Nat → Nat → List Nat
  | 0, _ => []
  | k + 1, r => dg k (r / 10) ++ [48 + r % 10]
theorem numL_grp : ∀ (k q r : Nat), 1 ≤ q → r < 10 ^ k → numL (q * 10 ^ k + r) = numL q ++ dg k r
  | 0, q, r, hq, hr => by
    have e : r = 0 := by simpa using hr
    subst e
    simp [dg]
  | k + 1, q, r, hq, hr => by
    have p : 10 ^ (k + 1) = 10 * 10 ^ k := by rw [Nat.pow_succ, Nat.mul_comm]
    have e1 : (q * 10 ^ (k + 1) + r) / 10 = q * 10 ^ k + r / 10 := by
      rw [p, show q * (10 * 10 ^ k) + r = 10 * (q * 10 ^ k) + r by grind]
      omega
    have e2 : (q * 10 ^ (k + 1) + r) % 10 = r % 10 := by
      rw [p, show q * (10 * 10 ^ k) + r = 10 * (q * 10 ^ k) + r by grind]
      omega
    have m : 1 ≤ 10 ^ k := Nat.pos_of_ne_zero (by simp)
    have m2 : 1 * 1 ≤ q * 10 ^ k := Nat.mul_le_mul hq m
    have h10 : 10 ≤ q * 10 ^ (k + 1) + r := by
      rw [p, show q * (10 * 10 ^ k) = 10 * (q * 10 ^ k) by grind]
      omega
    rw [numL_step h10, e1, e2, numL_grp k q (r / 10) hq (by omega), List.append_assoc]
    rfl
theorem dg_zero : ∀ k, dg k 0 = List.replicate k 48
  | 0 => rfl
  | k + 1 => by
    show dg k 0 ++ [48] = _
    rw [dg_zero k, ← List.replicate_succ']
theorem dg_pad : ∀ (k r : Nat), 1 ≤ k → r < 10 ^ k → dg k r = List.replicate (k - (numL r).length) 48 ++ numL r
  | 0, _, h, _ => by omega
  | k + 1, r, _, hr => by
    show dg k (r / 10) ++ [48 + r % 10] = _
    have p : 10 ^ (k + 1) = 10 * 10 ^ k := by rw [Nat.pow_succ, Nat.mul_comm]
    by_cases h : r < 10
    · have e1 : r / 10 = 0 := by omega
      have e2 : r % 10 = r := by omega
      rw [e1, e2, dg_zero, numL_lt h]
      rfl
    · have hk : 1 ≤ k := by
        cases k with
        | zero => simp at hr; omega
        | succ k => omega
      rw [dg_pad k (r / 10) hk (by omega), numL_step (n := r) (by omega), List.append_assoc, List.length_append]
      congr 2
      simp only [List.length_singleton]
      omega
theorem numL_le {n k : Nat} (hk : 0 < k) (h : n < 10 ^ k) : (numL n).length ≤ k := numL_len hk h
end My

namespace My
open PySem PySem.Spec PyProof.Rows L2 NumText TL
/-! ### rules: str of great ints -/
theorem ns_none {K : PySem.W.Frag} {h : Heap} {ns : Addr} {m : Str → Option Value} {n : Str} (X : K.In h) (G : h.Ns ns m) (e : PySem.W.nsIn K ns n = some none) : m n = none := by
  obtain ⟨o, es, ep, ho, hd, _, hf⟩ := G
  unfold PySem.W.nsIn at e
  split at e
  · rename_i c d es' n' sl q
    have := X _ _ q
    rw [ho] at this
    cases this
    cases hd
    split at e
    · cases e
    · rename_i he
      rw [← hf]
      unfold nsFind findBy
      rw [← Array.find?_toList, he]
      rfl
  · cases e
theorem call_str_big {X : Cx} (hc : X.calm = true) (hd : PySem.W.nsIn X.K cStatics "sys.int_max_str_digits" = some none) : CallR X (.type "str") (fun xs H Q => ∃ i, xs = [.int i] ∧ i.natAbs < 10 ^ 4300 ∧ Q (.str (toString i)) H) := by
  intro pins s σ H xs us Q I r h
  obtain ⟨i, rfl, hz, q⟩ := h
  cases r with
  | cons r1 rr =>
    cases rr
    obtain ⟨t, rfl⟩ := r1
    obtain ⟨mc, hns, _⟩ := I.nolimit
    refine str_of_int_or (I.ok.hd hc) ⟨mc, hns, ns_none I.kIn hns hd⟩ (fun _ => ⟨.str _, H, I.tok _, ⟨_, rfl⟩, q⟩) fun h => absurd hz (Nat.not_lt.mpr h)
/-! ### texts -/
def S (l : List Nat) : Str := ⟨l.toArray⟩
theorem tl_S (l : List Nat) : tl (S l) = l := rfl
theorem S_tl (x : Str) : S (tl x) = x := mk_tl x
theorem S_app (a b : List Nat) : S a ++ S b = S (a ++ b) := ext_tl (by rw [tl_append, tl_S, tl_S, tl_S])
theorem S_len (l : List Nat) : (S l).length = l.length := by rw [len_tl, tl_S]
theorem S_num (n : Nat) : Str.ofString (toString ((n : Nat) : Int)) = S (numL n) := ext_tl (by rw [tl_num, tl_S])
theorem S_int (t : Int) : Str.ofString (toString t) = S (intL t) := by
  unfold intL
  split
  · rename_i h
    have e : toString t = "-" ++ toString (0 - t) := toString_neg h
    have e2 : (0 - t) = ((t.natAbs : Nat) : Int) := by omega
    refine ext_tl ?_
    rw [tl_S, e, e2, tl_ofString, String.toList_append, List.map_append, ← tl_ofString (toString ((t.natAbs : Nat) : Int)), tl_num]
    rfl
  · rename_i h
    have e2 : t = ((t.natAbs : Nat) : Int) := by omega
    have e3 := S_num t.natAbs
    rw [← e2] at e3
    exact e3
theorem cut_pre (x : Str) {h : Nat} (hh : h ≤ x.length) : cutS x none (some (h : Int)) = S ((tl x).take h) := by
  unfold cutS
  rw [HT.sIx_none, HT.sIx_nat, List.drop_zero, Nat.sub_zero, Nat.min_eq_left hh]
  rfl
theorem cut_mid (x : Str) (a b : Nat) : cutS x (some (a : Int)) (some (b : Int)) = S (((tl x).drop a).take (b - a)) := by
  unfold cutS
  rw [HT.sIx_nat, HT.sIx_nat]
  refine ext_tl ?_
  have hl := tl_len x
  show ((tl x).drop (min a x.length)).take (min b x.length - min a x.length) = ((tl x).drop a).take (b - a)
  by_cases ha : a ≤ x.length
  · rw [Nat.min_eq_left ha]
    by_cases hb : b ≤ x.length
    · rw [Nat.min_eq_left hb]
    · rw [Nat.min_eq_right (a := b) (b := x.length) (by omega), List.take_of_length_le (by rw [List.length_drop]; omega), List.take_of_length_le (by rw [List.length_drop]; omega)]
  · rw [Nat.min_eq_right (a := a) (b := x.length) (by omega), List.drop_eq_nil_of_le (by omega), List.drop_eq_nil_of_le (by omega)]
    simp
theorem cut_from (x : Str) (a : Nat) : cutS x (some (a : Int)) none = S ((tl x).drop a) := by
  unfold cutS
  rw [HT.sIx_nat, HT.sIx_none]
  refine ext_tl ?_
  have hl := tl_len x
  show ((tl x).drop (min a x.length)).take (x.length - min a x.length) = (tl x).drop a
  by_cases ha : a ≤ x.length
  · rw [Nat.min_eq_left ha, List.take_of_length_le (by rw [List.length_drop]; omega)]
  · rw [Nat.min_eq_right (by omega), List.drop_eq_nil_of_le (by omega), List.drop_eq_nil_of_le (by omega)]
    simp
theorem cut_le (x : Str) (a b : Option Int) : (cutS x a b).length ≤ x.length := by
  unfold cutS
  rw [len_tl]
  show (((tl x).drop _).take _).length ≤ _
  rw [List.length_take, List.length_drop, ← tl_len]
  omega
theorem str_ne {x y : Str} (h : tl x ≠ tl y) : V.str x ≠ V.str y := fun e => h (by rw [V.str.inj e])
theorem str_eq {x y : Str} (h : tl x = tl y) : V.str x = V.str y := by rw [ext_tl h]
theorem int_dig {l : List Nat} (h : AllDigits l) (h1 : l ≠ []) (h2 : l.length ≤ 4300) : PySem.intText? (S l) = some ((digitsVal l : Nat) : Int) := intText_digits (x := S l) h h1 (by rw [S_len]; exact h2)
def natV (o : Option Nat) : V := match o with | none => .non | some n => .int (n : Int)
def intV (o : Option Int) : V := match o with | none => .non | some n => .int n
theorem adT {l : List Nat} (h : AllDigits l) (n : Nat) : AllDigits (l.take n) := fun c hc => h c (List.mem_of_mem_take hc)
theorem adD {l : List Nat} (h : AllDigits l) (n : Nat) : AllDigits (l.drop n) := fun c hc => h c (List.mem_of_mem_drop hc)
end My

namespace My
open PySem PySem.Spec PyProof.Rows L2 NumText TL
/-! ### texts of trees -/
mutual
def wr : PyData → List Nat
  | .str s => tl s
  | .int n => intL n
  | .tuple xs => wrT xs
  | _ => []
def wrT : List PyData → List Nat
  | [] => []
  | x :: r => wr x ++ wrR r
def wrR : List PyData → List Nat
  | [] => []
  | y :: r => 40 :: (wr y ++ wrC r)
def wrC : List PyData → List Nat
  | [] => [41]
  | y :: r => 44 :: (wr y ++ wrC r)
end
/-- a list's texts in a row -/
def fl : List PyData → List Nat
  | [] => []
  | x :: r => wr x ++ fl r
theorem fl_app : ∀ a b, fl (a ++ b) = fl a ++ fl b
  | [], b => rfl
  | x :: a, b => by
    show wr x ++ fl (a ++ b) = wr x ++ fl a ++ fl b
    rw [fl_app a b, List.append_assoc]
def itC : List PyData → List PyData
  | [] => [sd ")"]
  | y :: r => sd "," :: y :: itC r
/-- what is written for a tuple, in order -/
def items : List PyData → List PyData
  | [] => []
  | [x] => [x]
  | x :: y :: r => x :: sd "(" :: y :: itC r
theorem wr_sd (x : String) : wr (sd x) = tl (Str.ofString x) := by
  unfold sd
  rw [wr]
theorem fl_itC : ∀ r, fl (itC r) = wrC r
  | [] => by
    rw [wrC]
    show wr (sd ")") ++ [] = [41]
    rw [wr_sd]
    rfl
  | y :: r => by
    rw [wrC]
    show wr (sd ",") ++ (wr y ++ fl (itC r)) = _
    rw [fl_itC r, wr_sd]
    rfl
theorem fl_items : ∀ xs, fl (items xs) = wrT xs
  | [] => by rw [wrT]; rfl
  | [x] => by
    rw [wrT, wrR]
    rfl
  | x :: y :: r => by
    rw [wrT, wrR]
    show wr x ++ (wr (sd "(") ++ (wr y ++ fl (itC r))) = _
    rw [fl_itC r, wr_sd]
    rfl
/-! ### measures -/
mutual
/-- steps of the writing -/
def ms : PyData → Nat
  | .tuple xs => 1 + msT xs
  | _ => 1
def msT : List PyData → Nat
  | [] => 0
  | x :: r => 1 + ms x + msT r
end
def mf : List PyData → Nat
  | [] => 0
  | x :: r => ms x + mf r
theorem mf_app : ∀ a b, mf (a ++ b) = mf a + mf b
  | [], b => by simp [mf]
  | x :: a, b => by
    show ms x + mf (a ++ b) = ms x + mf a + mf b
    rw [mf_app a b]
    omega
theorem mf_rev : ∀ a, mf a.reverse = mf a
  | [] => rfl
  | x :: a => by
    rw [List.reverse_cons, mf_app, mf_rev a]
    show mf a + (ms x + 0) = ms x + mf a
    omega
theorem ms_sd (x : String) : ms (sd x) = 1 := by
  unfold sd
  rw [ms]
  intro xs h
  cases h
theorem mf_itC : ∀ r, mf (itC r) = msT r + 1
  | [] => by
    show ms (sd ")") + 0 = _
    rw [ms_sd, msT]
  | y :: r => by
    show ms (sd ",") + (ms y + mf (itC r)) = _
    rw [ms_sd, mf_itC r, msT]
    omega
theorem mf_items : ∀ xs, mf (items xs) ≤ msT xs
  | [] => Nat.le_of_eq (by rw [msT]; rfl)
  | [x] => by
    rw [msT, msT]
    show ms x + 0 ≤ _
    omega
  | x :: y :: r => by
    rw [msT, msT]
    show ms x + (ms (sd "(") + (ms y + mf (itC r))) ≤ _
    rw [ms_sd, mf_itC r]
    omega
theorem ms_pos : ∀ d, 0 < ms d
  | .tuple xs => by rw [ms]; omega
  | .none => by rw [ms]; · decide
                intro xs h; cases h
  | .bool _ => by rw [ms]; · decide
                  intro xs h; cases h
  | .int _ => by rw [ms]; · decide
                 intro xs h; cases h
  | .str _ => by rw [ms]; · decide
                 intro xs h; cases h
  | .list _ => by rw [ms]; · decide
                  intro xs h; cases h
  | .dict _ => by rw [ms]; · decide
                  intro xs h; cases h
theorem len_mf : ∀ xs : List PyData, xs.length ≤ mf xs
  | [] => Nat.le_refl _
  | x :: r => by
    have := ms_pos x
    have := len_mf r
    show r.length + 1 ≤ ms x + mf r
    omega
/-! ### what may be written -/
mutual
def tr : PyData → Bool
  | .str _ => true
  | .int n => decide (n.natAbs < 1000)
  | .tuple xs => !xs.isEmpty && trL xs
  | _ => false
def trL : List PyData → Bool
  | [] => true
  | x :: r => tr x && trL r
end
theorem trL_iff : ∀ {xs}, trL xs = true ↔ ∀ x ∈ xs, tr x = true
  | [] => by simp [trL]
  | x :: r => by
    rw [trL, Bool.and_eq_true, trL_iff]
    simp
theorem tr_sd (x : String) : tr (sd x) = true := by
  unfold sd
  rw [tr]
theorem trL_itC : ∀ {r}, trL r = true → trL (itC r) = true
  | [], _ => by
    show trL [sd ")"] = true
    rw [trL, trL, tr_sd]
    rfl
  | y :: r, h => by
    rw [trL, Bool.and_eq_true] at h
    show trL (sd "," :: y :: itC r) = true
    rw [trL, trL, tr_sd, h.1, trL_itC h.2]
    rfl
theorem trL_items : ∀ {xs}, trL xs = true → trL (items xs) = true
  | [], _ => by show trL [] = true; rw [trL]
  | [x], h => h
  | x :: y :: r, h => by
    rw [trL, trL, Bool.and_eq_true, Bool.and_eq_true] at h
    show trL (x :: sd "(" :: y :: itC r) = true
    rw [trL, trL, trL, tr_sd, h.1, h.2.1, trL_itC h.2.2]
    rfl
/-! ### parts -/
mutual
def cnt : PyData → Nat
  | .tuple xs => 1 + cntT xs
  | _ => 0
def cntT : List PyData → Nat
  | [] => 0
  | x :: r => cnt x + cntT r
end
def isT : PyData → Bool
  | .tuple _ => true
  | _ => false
theorem cntT_app : ∀ a b, cntT (a ++ b) = cntT a + cntT b
  | [], b => by rw [cntT]; simp
  | x :: a, b => by
    rw [List.cons_append, cntT, cntT, cntT_app a b]
    omega
theorem cnt_no {d : PyData} (h : isT d = false) : cnt d = 0 := by
  cases d with
  | tuple xs => cases h
  | _ => rw [cnt]; intro xs h; cases h
theorem cntT_filter : ∀ xs, cntT (xs.filter isT) = cntT xs
  | [] => rfl
  | x :: r => by
    rw [List.filter_cons]
    cases h : isT x with
    | true =>
      rw [if_pos rfl, cntT, cntT, cntT_filter r]
    | false =>
      rw [if_neg (by decide), cntT, cntT_filter r, cnt_no h]
      omega
/-! ### marks -/
def mk (c : Nat) : Bool := decide (c = 41) || decide (c = 44)
def beh : List Nat → List Nat
  | [] => []
  | c :: r => if mk c = true then beh r else c :: r
theorem beh_len : ∀ l, (beh l).length ≤ l.length
  | [] => Nat.le_refl _
  | c :: r => by
    unfold beh
    split
    · exact Nat.le_succ_of_le (beh_len r)
    · exact Nat.le_refl _
/-! ### the forms of a text, in order -/
def hit (tb : List Row) (l : List Nat) : Option Row := tb.find? fun r => pre (tl r.1) l
inductive Sc (tb : List Row) : List Nat → Option (List Row) → Prop
  | nil : Sc tb [] (some [])
  | no {l} : l ≠ [] → hit tb l = none → Sc tb l none
  | go {l r o} : l ≠ [] → hit tb l = some r → Sc tb (beh (l.drop (tl r.1).length)) o → Sc tb l (o.map (r :: ·))
/-! ### the tree of forms -/
def bld : List Row → Option (List PyData)
  | [] => some []
  | r :: rs => match bld rs with
    | none => none
    | some st => if st.length < r.2.2 then none else some (.tuple (r.2.1 ++ st.take r.2.2) :: st.drop r.2.2)
mutual
inductive Pr (tb : List Row) : PyData → List Row → Prop
  | mk {r : Row} {kids : List PyData} {rows : List Row} : r ∈ tb → kids.length = r.2.2 → PrL tb kids rows → Pr tb (.tuple (r.2.1 ++ kids)) (r :: rows)
inductive PrL (tb : List Row) : List PyData → List Row → Prop
  | nil : PrL tb [] []
  | cons {d : PyData} {ds : List PyData} {a b : List Row} : Pr tb d a → PrL tb ds b → PrL tb (d :: ds) (a ++ b)
end
mutual
theorem bld_pr {tb : List Row} : ∀ {d : PyData} {a : List Row} (rs : List Row) {st : List PyData}, Pr tb d a → bld rs = some st → bld (a ++ rs) = some (d :: st)
  | _, _, rs, st, .mk (r := r) (kids := kids) (rows := rows) hr hk h, hs => by
    have e := bld_prL rs h hs
    show bld (r :: (rows ++ rs)) = _
    unfold bld
    rw [e]
    show (if (kids ++ st).length < r.2.2 then none else _) = _
    rw [if_neg (by rw [List.length_append]; omega), ← hk, List.take_left, List.drop_left]
theorem bld_prL {tb : List Row} : ∀ {ds : List PyData} {a : List Row} (rs : List Row) {st : List PyData}, PrL tb ds a → bld rs = some st → bld (a ++ rs) = some (ds ++ st)
  | _, _, rs, st, .nil, hs => hs
  | _, _, rs, st, .cons (d := d) (ds := ds) (a := a) (b := b) h t, hs => by
    have e := bld_prL rs t hs
    have e2 := bld_pr (b ++ rs) h e
    rw [List.append_assoc]
    exact e2
end
end My

namespace My
open PySem PySem.Spec PyProof.Rows L2 NumText TL
/-! ### beginnings -/
theorem pre_ex {a l : List Nat} : pre a l = true ↔ ∃ t, l = a ++ t := by
  unfold pre
  rw [beq_iff_eq]
  constructor
  · intro h
    have e := List.take_append_drop a.length l
    rw [h] at e
    exact ⟨l.drop a.length, e.symm⟩
  · rintro ⟨t, rfl⟩
    exact List.take_left
theorem pre_or {a b c : List Nat} (h : pre a (b ++ c) = true) : pre a b = true ∨ pre b a = true := by
  obtain ⟨t, e⟩ := pre_ex.mp h
  rcases List.append_eq_append_iff.mp e with ⟨u, e1, _⟩ | ⟨u, e1, _⟩
  · exact .inr (pre_ex.mpr ⟨u, e1⟩)
  · exact .inl (pre_ex.mpr ⟨u, e1⟩)
/-! ### the rows -/
def isR (x : Str) : Row := (S (105 :: 115 :: 40 :: (tl x ++ [41])), [sd "is", .str x], 0)
def kt : List PyData → List Nat
  | [] => []
  | k :: ks => wr k ++ wrC ks
/-- a row's key is the text of its fields -/
def Ck (r : Row) : Prop := match r.2.1, r.2.2 with
  | [f], 0 => tl r.1 = wr f
  | [f], _ + 1 => tl r.1 = wr f ++ [40]
  | [f, g], 0 => tl r.1 = wr f ++ 40 :: (wr g ++ [41])
  | [f, g], _ + 1 => tl r.1 = wr f ++ 40 :: (wr g ++ [44])
  | [f, g, h], _ + 1 => tl r.1 = wr f ++ 40 :: (wr g ++ 44 :: (wr h ++ [44]))
  | _, _ => False
theorem ck_text {r : Row} (h : Ck r) {kids : List PyData} (hk : kids.length = r.2.2) : wrT (r.2.1 ++ kids) = tl r.1 ++ kt kids := by
  obtain ⟨key, fs, n⟩ := r
  unfold Ck at h
  dsimp only at h hk ⊢
  match fs, n, kids with
  | [f], 0, [] =>
    rw [h]
    show wrT [f] = _
    rw [wrT, wrR]
    rfl
  | [f], _ + 1, k :: ks =>
    rw [h]
    show wrT (f :: k :: ks) = _
    rw [wrT, wrR]
    simp [kt]
  | [f, g], 0, [] =>
    rw [h]
    show wrT [f, g] = _
    rw [wrT, wrR, wrC]
    simp [kt]
  | [f, g], _ + 1, k :: ks =>
    rw [h]
    show wrT (f :: g :: k :: ks) = _
    rw [wrT, wrR, wrC]
    simp [kt]
  | [f, g, z], _ + 1, k :: ks =>
    rw [h]
    show wrT (f :: g :: z :: k :: ks) = _
    rw [wrT, wrR, wrC, wrC]
    simp [kt]
structure Uni (U : List Row) : Prop where
  ck : ∀ r ∈ U, Ck r
  pf : ∀ r ∈ U, ∀ r' ∈ U, pre (tl r.1) (tl r'.1) = true → r = r'
  hd : ∀ r ∈ U, ∃ c t, tl r.1 = c :: t ∧ mk c = false
theorem hit_some {U tb : List Row} (hU : Uni U) (htb : ∀ r ∈ tb, r ∈ U) {r : Row} (hr : r ∈ tb) (t : List Nat) : hit tb (tl r.1 ++ t) = some r := by
  unfold hit
  cases e : tb.find? fun x => pre (tl x.1) (tl r.1 ++ t) with
  | none =>
    have := List.find?_eq_none.mp e r hr
    exact absurd (pre_self _ _) this
  | some x =>
    have hx := List.mem_of_find?_eq_some e
    have hp := List.find?_some e
    rcases pre_or hp with h | h
    · rw [hU.pf x (htb x hx) r (htb r hr) h]
    · rw [hU.pf r (htb r hr) x (htb x hx) h]
theorem hit_none {U tb : List Row} (hU : Uni U) (htb : ∀ r ∈ tb, r ∈ U) {r : Row} (hr : r ∈ U) (hn : r ∉ tb) (t : List Nat) : hit tb (tl r.1 ++ t) = none := by
  unfold hit
  refine List.find?_eq_none.mpr fun x hx hp => ?_
  rcases pre_or hp with h | h
  · rw [← hU.pf x (htb x hx) r hr h] at hn
    exact hn hx
  · rw [hU.pf r hr x (htb x hx) h] at hn
    exact hn hx
theorem pr_wr {U : List Row} (hU : Uni U) {d : PyData} {a : List Row} (h : Pr U d a) : ∃ c t, wr d = c :: t ∧ mk c = false := by
  cases h with
  | @mk r kids rows hr hk h =>
    obtain ⟨c, t, e, m⟩ := hU.hd r hr
    rw [wr, ck_text (hU.ck r hr) hk, e]
    exact ⟨c, _, rfl, m⟩
theorem beh_pr {U : List Row} (hU : Uni U) {d : PyData} {a : List Row} (h : Pr U d a) (t : List Nat) : beh (wr d ++ t) = wr d ++ t := by
  obtain ⟨c, u, e, m⟩ := pr_wr hU h
  rw [e]
  show beh (c :: (u ++ t)) = c :: (u ++ t)
  unfold beh
  rw [m]
  rfl
theorem go_row {U tb : List Row} (hU : Uni U) (htb : ∀ r ∈ tb, r ∈ U) {r : Row} (hr : r ∈ tb) {t : List Nat} {o : Option (List Row)} (h : Sc tb (beh t) o) : Sc tb (tl r.1 ++ t) (o.map (r :: ·)) := by
  obtain ⟨c, u, e, m⟩ := hU.hd r (htb r hr)
  refine .go (by rw [e]; simp) (hit_some hU htb hr t) ?_
  rw [List.drop_left]
  exact h
theorem map_cons_app (r : Row) (a : List Row) (o : Option (List Row)) : (o.map (a ++ ·)).map (r :: ·) = o.map ((r :: a) ++ ·) := by
  cases o <;> rfl
theorem map_app_app (a b : List Row) (o : Option (List Row)) : (o.map (b ++ ·)).map (a ++ ·) = o.map ((a ++ b) ++ ·) := by
  cases o
  · rfl
  · simp
theorem beh_44 {U : List Row} (hU : Uni U) {k : PyData} {a : List Row} (hx : Pr U k a) (t rest : List Nat) : beh ((44 :: (wr k ++ t)) ++ rest) = wr k ++ (t ++ rest) := by
  show beh (44 :: ((wr k ++ t) ++ rest)) = _
  rw [List.append_assoc]
  show beh (wr k ++ (t ++ rest)) = _
  exact beh_pr hU hx _
mutual
theorem sc_pr {U tb : List Row} (hU : Uni U) (htb : ∀ r ∈ tb, r ∈ U) : ∀ {d : PyData} {a : List Row} {rest : List Nat} {o : Option (List Row)}, Pr U d a → (∀ r ∈ a, r ∈ tb) → Sc tb (beh rest) o → Sc tb (wr d ++ rest) (o.map (a ++ ·))
  | _, _, rest, o, .mk (r := r) (kids := kids) (rows := rows) hr hk h, ha, hs => by
    have s1 := sc_prK hU htb h (fun x hx => ha x (List.mem_cons_of_mem _ hx)) hs
    have s3 := go_row hU htb (ha r (List.mem_cons_self ..)) s1
    rw [map_cons_app] at s3
    rw [wr, ck_text (hU.ck r hr) hk, List.append_assoc]
    exact s3
theorem sc_prK {U tb : List Row} (hU : Uni U) (htb : ∀ r ∈ tb, r ∈ U) : ∀ {ds : List PyData} {a : List Row} {rest : List Nat} {o : Option (List Row)}, PrL U ds a → (∀ r ∈ a, r ∈ tb) → Sc tb (beh rest) o → Sc tb (beh (kt ds ++ rest)) (o.map (a ++ ·))
  | _, _, rest, o, .nil, ha, h => by
    have e : (o.map fun x => ([] : List Row) ++ x) = o := by cases o <;> rfl
    rw [e]
    exact h
  | _, _, rest, o, .cons (d := k) (ds := ks) (a := a) (b := b) hx t, ha, h => by
    have s1 := sc_prC hU htb t (fun x hx => ha x (List.mem_append_right _ hx)) h
    have s2 := sc_pr hU htb hx (fun x hx => ha x (List.mem_append_left _ hx)) s1
    rw [map_app_app] at s2
    rw [show kt (k :: ks) = wr k ++ wrC ks from rfl, List.append_assoc, beh_pr hU hx]
    exact s2
theorem sc_prC {U tb : List Row} (hU : Uni U) (htb : ∀ r ∈ tb, r ∈ U) : ∀ {ds : List PyData} {a : List Row} {rest : List Nat} {o : Option (List Row)}, PrL U ds a → (∀ r ∈ a, r ∈ tb) → Sc tb (beh rest) o → Sc tb (beh (wrC ds ++ rest)) (o.map (a ++ ·))
  | _, _, rest, o, .nil, ha, h => by
    rw [wrC]
    have e : (o.map fun x => ([] : List Row) ++ x) = o := by cases o <;> rfl
    rw [e]
    exact h
  | _, _, rest, o, .cons (d := k) (ds := ks) (a := a) (b := b) hx t, ha, h => by
    have s1 := sc_prC hU htb t (fun x hx => ha x (List.mem_append_right _ hx)) h
    have s2 := sc_pr hU htb hx (fun x hx => ha x (List.mem_append_left _ hx)) s1
    rw [map_app_app] at s2
    rw [wrC, beh_44 hU hx]
    exact s2
end
theorem bad_app {tb a b : List Row} (h : ∃ r ∈ a ++ b, r ∉ tb) : (∃ r ∈ a, r ∉ tb) ∨ ((∀ r ∈ a, r ∈ tb) ∧ ∃ r ∈ b, r ∉ tb) := by
  by_cases hg : ∃ r ∈ a, r ∉ tb
  · exact .inl hg
  · refine .inr ⟨fun x hx => Classical.byContradiction fun hn => hg ⟨x, hx, hn⟩, ?_⟩
    obtain ⟨x, hx, hn⟩ := h
    rcases List.mem_append.mp hx with hx | hx
    · exact absurd ⟨x, hx, hn⟩ hg
    · exact ⟨x, hx, hn⟩
mutual
theorem sc_bad {U tb : List Row} (hU : Uni U) (htb : ∀ r ∈ tb, r ∈ U) : ∀ {d : PyData} {a : List Row} {rest : List Nat}, Pr U d a → (∃ r ∈ a, r ∉ tb) → Sc tb (wr d ++ rest) none
  | _, _, rest, .mk (r := r) (kids := kids) (rows := rows) hr hk h, ha => by
    obtain ⟨c, u, e, m⟩ := hU.hd r hr
    rw [wr, ck_text (hU.ck r hr) hk, List.append_assoc]
    by_cases hrt : r ∈ tb
    · have hb : ∃ x ∈ rows, x ∉ tb := by
        obtain ⟨x, hx, hn⟩ := ha
        rcases List.mem_cons.mp hx with rfl | hx
        · exact absurd hrt hn
        · exact ⟨x, hx, hn⟩
      exact go_row (o := none) hU htb hrt (sc_badK hU htb h hb)
    · exact .no (by rw [e]; simp) (hit_none hU htb hr hrt _)
theorem sc_badK {U tb : List Row} (hU : Uni U) (htb : ∀ r ∈ tb, r ∈ U) : ∀ {ds : List PyData} {a : List Row} {rest : List Nat}, PrL U ds a → (∃ r ∈ a, r ∉ tb) → Sc tb (beh (kt ds ++ rest)) none
  | _, _, rest, .nil, hb => by
    obtain ⟨x, hx, _⟩ := hb
    cases hx
  | _, _, rest, .cons (d := k) (ds := ks) (a := a) (b := b) hx t, hb => by
    rw [show kt (k :: ks) = wr k ++ wrC ks from rfl, List.append_assoc, beh_pr hU hx]
    rcases bad_app hb with h | ⟨h1, h2⟩
    · exact sc_bad hU htb hx h
    · exact sc_pr (o := none) hU htb hx h1 (sc_badC hU htb t h2)
theorem sc_badC {U tb : List Row} (hU : Uni U) (htb : ∀ r ∈ tb, r ∈ U) : ∀ {ds : List PyData} {a : List Row} {rest : List Nat}, PrL U ds a → (∃ r ∈ a, r ∉ tb) → Sc tb (beh (wrC ds ++ rest)) none
  | _, _, rest, .nil, hb => by
    obtain ⟨x, hx, _⟩ := hb
    cases hx
  | _, _, rest, .cons (d := k) (ds := ks) (a := a) (b := b) hx t, hb => by
    rw [wrC, beh_44 hU hx]
    rcases bad_app hb with h | ⟨h1, h2⟩
    · exact sc_bad hU htb hx h
    · exact sc_pr (o := none) hU htb hx h1 (sc_badC hU htb t h2)
end
/-! ### the menu's rows -/
def menu : List Str := ["a", "now", "tick", "zz", "b", "is", "abcdefgh"]
def menu9 : List Str := menu ++ (["other", "x"] : List Str)
def UT : List Row := tab0 ++ menu9.map isR
theorem numL1 : numL 1 = [49] := by decide +kernel
theorem ck_UT : ∀ r ∈ UT, Ck r := by
  intro r hr
  have key : ∀ l : List Row, (∀ i, (h : i < l.length) → Ck l[i]) → ∀ r ∈ l, Ck r := fun l h r hr => by
    obtain ⟨i, hi, e⟩ := List.getElem_of_mem hr
    rw [← e]
    exact h i hi
  unfold UT tab0 menu9 menu at hr
  simp only [List.map, List.cons_append, List.nil_append, List.append_eq, List.mem_cons, List.not_mem_nil, or_false] at hr
  have u0 : intL 0 = [48] := by decide +kernel
  have u1 : intL 1 = [49] := by decide +kernel
  have u2 : intL 2 = [50] := by decide +kernel
  have u3 : intL 3 = [51] := by decide +kernel
  rcases hr with rfl | rfl | rfl | rfl | rfl | rfl | rfl | rfl | rfl | rfl | rfl | rfl | rfl | rfl | rfl | rfl | rfl | rfl | rfl | rfl | rfl | rfl | rfl | rfl | rfl | rfl | rfl | rfl | rfl | rfl | rfl <;>
    (first | unfold Ck | skip) <;> (try unfold isR) <;> dsimp only <;> simp only [sd, wr, u0, u1, u2, u3] <;> first | decide +kernel | rfl
theorem uni_UT : Uni UT where
  ck := ck_UT
  pf := fun r hr r' hr' hp => by
    have key : ∀ i : Fin UT.length, ∀ j : Fin UT.length, pre (tl (UT[i.1]'i.2).1) (tl (UT[j.1]'j.2).1) = true → i = j := by decide +kernel
    obtain ⟨i, hi, rfl⟩ := List.getElem_of_mem hr
    obtain ⟨j, hj, rfl⟩ := List.getElem_of_mem hr'
    have e := key ⟨i, hi⟩ ⟨j, hj⟩ hp
    have e2 : i = j := congrArg Fin.val e
    subst e2
    rfl
  hd := fun r hr => by
    have key : ∀ i : Fin UT.length, (match tl (UT[i.1]'i.2).1 with | c :: _ => !mk c | [] => false) = true := by decide +kernel
    obtain ⟨i, hi, rfl⟩ := List.getElem_of_mem hr
    have := key ⟨i, hi⟩
    dsimp only at this
    split at this
    · rename_i c t e
      exact ⟨c, t, e, by simpa using this⟩
    · cases this
end My

namespace My
open PySem PySem.Spec PyProof.Rows L2
/-! ### the text -/
def topS (i : Nat) : Stmt := PySem.Challenge.pw_keeproom_k03_questions_come_back.main.body.getD i (.Pass ⟨0, 0, 0, 0⟩)
abbrev s_law_draw : Stmt := topS 13
theorem sc_law_draw : FnScope ["tape", "at", "many", "number"] ["tape", "at", "many"] (defScope s_law_draw) := ⟨rfl, rfl, rfl, by decide +kernel, rfl, by decide +kernel, by decide +kernel⟩
abbrev s_law_take : Stmt := topS 15
theorem sc_law_take : FnScope ["state", "many"] ["state", "many"] (defScope s_law_take) := ⟨rfl, rfl, rfl, by decide +kernel, rfl, by decide +kernel, by decide +kernel⟩
abbrev s_law_names : Stmt := topS 16
theorem sc_law_names : FnScope ["state", "menu", "first", "k"] ["state"] (defScope s_law_names) := ⟨rfl, rfl, rfl, by decide +kernel, rfl, by decide +kernel, by decide +kernel⟩
abbrev s_law_leaf : Stmt := topS 17
theorem sc_law_leaf : FnScope ["state", "names", "pick"] ["state", "names"] (defScope s_law_leaf) := ⟨rfl, rfl, rfl, by decide +kernel, rfl, by decide +kernel, by decide +kernel⟩
abbrev s_law_tree : Stmt := topS 18
theorem sc_law_tree : FnScope ["state", "names", "room", "pick", "many", "kids", "first", "word", "k"] ["state", "names", "room"] (defScope s_law_tree) := ⟨rfl, rfl, rfl, by decide +kernel, rfl, by decide +kernel, by decide +kernel⟩
abbrev s_law_text : Stmt := topS 19
theorem sc_law_text : FnScope ["tree", "pieces", "one"] ["tree"] (defScope s_law_text) := ⟨rfl, rfl, rfl, by decide +kernel, rfl, by decide +kernel, by decide +kernel⟩
abbrev s_law_named : Stmt := topS 21
theorem sc_law_named : FnScope ["tree", "one"] ["tree"] (defScope s_law_named) := ⟨rfl, rfl, rfl, by decide +kernel, rfl, by decide +kernel, by decide +kernel⟩
abbrev s_law_tape : Stmt := topS 12
theorem sc_law_tape : FnScope ["script", "tape", "cell", "number", "k", "first"] ["script"] (defScope s_law_tape) := ⟨rfl, rfl, rfl, by decide +kernel, rfl, by decide +kernel, by decide +kernel⟩
abbrev s_law_equal : Stmt := topS 14
theorem sc_law_equal : FnScope ["actual", "due", "k"] ["actual", "due"] (defScope s_law_equal) := ⟨rfl, rfl, rfl, by decide +kernel, rfl, by decide +kernel, by decide +kernel⟩
abbrev s_questions_in : Stmt := topS 5
theorem sc_questions_in : FnScope ["tree", "item"] ["tree"] (defScope s_questions_in) := ⟨rfl, rfl, rfl, by decide +kernel, rfl, by decide +kernel, by decide +kernel⟩
abbrev s_parts : Stmt := topS 4
theorem sc_parts : FnScope ["tree", "count", "waiting", "part"] ["tree"] (defScope s_parts) := ⟨rfl, rfl, rfl, by decide +kernel, rfl, by decide +kernel, by decide +kernel⟩
abbrev s_law_parts : Stmt := topS 20
theorem sc_law_parts : FnScope ["tree", "one"] ["tree"] (defScope s_law_parts) := ⟨rfl, rfl, rfl, by decide +kernel, rfl, by decide +kernel, by decide +kernel⟩
abbrev s_opening_at : Stmt := topS 8
theorem sc_opening_at : FnScope ["text", "at", "openings", "opening"] ["text", "at", "openings"] (defScope s_opening_at) := ⟨rfl, rfl, rfl, by decide +kernel, rfl, by decide +kernel, by decide +kernel⟩
abbrev s_behind_marks : Stmt := topS 9
theorem sc_behind_marks : FnScope ["text", "at"] ["text", "at"] (defScope s_behind_marks) := ⟨rfl, rfl, rfl, by decide +kernel, rfl, by decide +kernel, by decide +kernel⟩
abbrev s_forms_in_order : Stmt := topS 7
theorem sc_forms_in_order : FnScope ["text", "names", "openings", "name", "forms", "at", "opening"] ["text", "names"] (defScope s_forms_in_order) := ⟨rfl, rfl, rfl, by decide +kernel, rfl, by decide +kernel, by decide +kernel⟩
abbrev s_tree_of : Stmt := topS 10
theorem sc_tree_of : FnScope ["forms", "trees", "fields", "count", "split", "tree"] ["forms"] (defScope s_tree_of) := ⟨rfl, rfl, rfl, by decide +kernel, rfl, by decide +kernel, by decide +kernel⟩
abbrev s_items : Stmt := topS 6
theorem sc_items : FnScope ["tree", "items", "item"] ["tree"] (defScope s_items) := ⟨rfl, rfl, rfl, by decide +kernel, rfl, by decide +kernel, by decide +kernel⟩
abbrev s_write_question : Stmt := topS 3
theorem sc_write_question : FnScope ["tree", "pieces", "waiting", "item"] ["tree"] (defScope s_write_question) := ⟨rfl, rfl, rfl, by decide +kernel, rfl, by decide +kernel, by decide +kernel⟩
abbrev s_read_question : Stmt := topS 2
theorem sc_read_question : FnScope ["text", "names", "forms", "tree"] ["text", "names"] (defScope s_read_question) := ⟨rfl, rfl, rfl, by decide +kernel, rfl, by decide +kernel, by decide +kernel⟩
abbrev s_law : Stmt := topS 22
theorem sc_law : FnScope ["script", "state", "names", "tree", "text", "due"] ["script"] (defScope s_law) := ⟨rfl, rfl, rfl, by decide +kernel, rfl, by decide +kernel, by decide +kernel⟩
structure Top (K : PySem.W.Frag) (mg : Str → Option Value) (w : World) : Type where
  a_law_draw : Addr
  d_law_draw : FuncData
  F_law_draw : Fun K "_law_draw" "_law_draw" s_law_draw a_law_draw d_law_draw
  b_law_draw : Binds K d_law_draw ["tape", "at", "many"] []
  m_law_draw : mg "_law_draw" = some (.ref a_law_draw)
  a_law_take : Addr
  d_law_take : FuncData
  F_law_take : Fun K "_law_take" "_law_take" s_law_take a_law_take d_law_take
  b_law_take : Binds K d_law_take ["state", "many"] []
  m_law_take : mg "_law_take" = some (.ref a_law_take)
  a_law_names : Addr
  d_law_names : FuncData
  F_law_names : Fun K "_law_names" "_law_names" s_law_names a_law_names d_law_names
  b_law_names : Binds K d_law_names ["state"] []
  m_law_names : mg "_law_names" = some (.ref a_law_names)
  a_law_leaf : Addr
  d_law_leaf : FuncData
  F_law_leaf : Fun K "_law_leaf" "_law_leaf" s_law_leaf a_law_leaf d_law_leaf
  b_law_leaf : Binds K d_law_leaf ["state", "names"] []
  m_law_leaf : mg "_law_leaf" = some (.ref a_law_leaf)
  a_law_tree : Addr
  d_law_tree : FuncData
  F_law_tree : Fun K "_law_tree" "_law_tree" s_law_tree a_law_tree d_law_tree
  b_law_tree : Binds K d_law_tree ["state", "names", "room"] []
  m_law_tree : mg "_law_tree" = some (.ref a_law_tree)
  a_law_text : Addr
  d_law_text : FuncData
  F_law_text : Fun K "_law_text" "_law_text" s_law_text a_law_text d_law_text
  b_law_text : Binds K d_law_text ["tree"] []
  m_law_text : mg "_law_text" = some (.ref a_law_text)
  a_law_named : Addr
  d_law_named : FuncData
  F_law_named : Fun K "_law_named" "_law_named" s_law_named a_law_named d_law_named
  b_law_named : Binds K d_law_named ["tree"] []
  m_law_named : mg "_law_named" = some (.ref a_law_named)
  a_law_tape : Addr
  d_law_tape : FuncData
  F_law_tape : Fun K "_law_tape" "_law_tape" s_law_tape a_law_tape d_law_tape
  b_law_tape : Binds K d_law_tape ["script"] []
  m_law_tape : mg "_law_tape" = some (.ref a_law_tape)
  a_law_equal : Addr
  d_law_equal : FuncData
  F_law_equal : Fun K "_law_equal" "_law_equal" s_law_equal a_law_equal d_law_equal
  b_law_equal : Binds K d_law_equal ["actual", "due"] []
  m_law_equal : mg "_law_equal" = some (.ref a_law_equal)
  a_questions_in : Addr
  d_questions_in : FuncData
  F_questions_in : Fun K "questions_in" "questions_in" s_questions_in a_questions_in d_questions_in
  b_questions_in : Binds K d_questions_in ["tree"] []
  m_questions_in : mg "questions_in" = some (.ref a_questions_in)
  a_parts : Addr
  d_parts : FuncData
  F_parts : Fun K "parts" "parts" s_parts a_parts d_parts
  b_parts : Binds K d_parts ["tree"] []
  m_parts : mg "parts" = some (.ref a_parts)
  a_law_parts : Addr
  d_law_parts : FuncData
  F_law_parts : Fun K "_law_parts" "_law_parts" s_law_parts a_law_parts d_law_parts
  b_law_parts : Binds K d_law_parts ["tree"] []
  m_law_parts : mg "_law_parts" = some (.ref a_law_parts)
  a_opening_at : Addr
  d_opening_at : FuncData
  F_opening_at : Fun K "_opening_at" "_opening_at" s_opening_at a_opening_at d_opening_at
  b_opening_at : Binds K d_opening_at ["text", "at", "openings"] []
  m_opening_at : mg "_opening_at" = some (.ref a_opening_at)
  a_behind_marks : Addr
  d_behind_marks : FuncData
  F_behind_marks : Fun K "_behind_marks" "_behind_marks" s_behind_marks a_behind_marks d_behind_marks
  b_behind_marks : Binds K d_behind_marks ["text", "at"] []
  m_behind_marks : mg "_behind_marks" = some (.ref a_behind_marks)
  a_forms_in_order : Addr
  d_forms_in_order : FuncData
  F_forms_in_order : Fun K "_forms_in_order" "_forms_in_order" s_forms_in_order a_forms_in_order d_forms_in_order
  b_forms_in_order : Binds K d_forms_in_order ["text", "names"] []
  m_forms_in_order : mg "_forms_in_order" = some (.ref a_forms_in_order)
  a_tree_of : Addr
  d_tree_of : FuncData
  F_tree_of : Fun K "_tree_of" "_tree_of" s_tree_of a_tree_of d_tree_of
  b_tree_of : Binds K d_tree_of ["forms"] []
  m_tree_of : mg "_tree_of" = some (.ref a_tree_of)
  a_items : Addr
  d_items : FuncData
  F_items : Fun K "_items" "_items" s_items a_items d_items
  b_items : Binds K d_items ["tree"] []
  m_items : mg "_items" = some (.ref a_items)
  a_write_question : Addr
  d_write_question : FuncData
  F_write_question : Fun K "write_question" "write_question" s_write_question a_write_question d_write_question
  b_write_question : Binds K d_write_question ["tree"] []
  m_write_question : mg "write_question" = some (.ref a_write_question)
  a_read_question : Addr
  d_read_question : FuncData
  F_read_question : Fun K "read_question" "read_question" s_read_question a_read_question d_read_question
  b_read_question : Binds K d_read_question ["text", "names"] []
  m_read_question : mg "read_question" = some (.ref a_read_question)
  a_law : Addr
  d_law : FuncData
  F_law : Fun K "law" "law" s_law a_law d_law
  b_law : Binds K d_law ["script"] []
  m_law : mg "law" = some (.ref a_law)
  z_bool : mg "bool" = none
  z_dict : mg "dict" = none
  z_int : mg "int" = none
  z_isinstance : mg "isinstance" = none
  z_len : mg "len" = none
  z_list : mg "list" = none
  z_range : mg "range" = none
  z_reversed : mg "reversed" = none
  z_str : mg "str" = none
  z_sum : mg "sum" = none
  z_tuple : mg "tuple" = none
  x_op : OpenM K mg w.params

/-! ### heaps -/
theorem same_upd {H : Hp} {p : Addr} {o : HO} (h : H p = none) : Same H (upd H p o) := fun b x e => by
  rw [upd_ne (ne_of_none e h)]
  exact e
theorem same_upd2 {H H' : Hp} {p : Addr} {o : HO} (h : H p = none) (s : Same H H') : Same H (upd H' p o) := fun b x e => by
  rw [upd_ne (ne_of_none e h)]
  exact s _ _ e
theorem small {n : Nat} (h : n ≤ 100000) : n ≤ sizeLine := Nat.le_trans h (by decide)
theorem smallL {n : Nat} (h : n < 100000) : n < sizeLine := Nat.lt_of_lt_of_le h (by decide)
theorem ite_dec {c : Prop} [Decidable c] {A B : Prop} (h1 : c → A) (h2 : ¬ c → B) : if decide c = true then A else B := by
  by_cases h : c
  · rw [if_pos (decide_eq_true h)]; exact h1 h
  · rw [if_neg (fun q => h (of_decide_eq_true q))]; exact h2 h
theorem ifT {c : Bool} {A B : Prop} (h : A) (e : c = true := by rfl) : if c = true then A else B := by
  rw [e]
  exact iteT h
theorem ifF {c : Bool} {A B : Prop} (h : B) (e : c = false := by rfl) : if c = true then A else B := by
  rw [e]
  exact iteF h
theorem ite_b {b : Bool} {A B : Prop} (h1 : b = true → A) (h2 : b = false → B) : if b = true then A else B := by
  cases b
  · exact iteF (h2 rfl)
  · exact iteT (h1 rfl)
theorem ite_nb {b : Bool} {A B : Prop} (h1 : b = false → A) (h2 : b = true → B) : if (!b) = true then A else B := by
  cases b
  · exact iteT (h1 rfl)
  · exact iteF (h2 rfl)

theorem bnd_app {ts : List Int} {lo hi : Int} {v : Int} (h : ∀ t ∈ ts, lo ≤ t ∧ t < hi) (hv : lo ≤ v ∧ v < hi) : ∀ t ∈ ts ++ [v], lo ≤ t ∧ t < hi := fun t ht => by
  rcases List.mem_append.mp ht with h1 | h1
  · exact h t h1
  · rw [List.mem_singleton.mp h1]; exact hv
/-! ### heaps that are alike but for the list at st -/
def SX (st : Addr) (H H' : Hp) : Prop := (∀ b o, H b = some o → (b = st → ∀ xs, o ≠ .lst xs) → H' b = some o) ∧ ∀ tp v, H st = some (.lst [.ref tp, v]) → ∃ v', H' st = some (.lst [.ref tp, v'])
theorem SX.refl (st : Addr) (H : Hp) : SX st H H := ⟨fun _ _ h _ => h, fun _ v h => ⟨v, h⟩⟩
theorem SX.trans {st : Addr} {H H1 H2 : Hp} (a : SX st H H1) (b : SX st H1 H2) : SX st H H2 := ⟨fun c o h k => b.1 c o (a.1 c o h k) k, fun tp v h => by
  obtain ⟨v1, h1⟩ := a.2 tp v h
  exact b.2 tp v1 h1⟩
theorem SX.same {st : Addr} {H H' : Hp} (a : Same H H') : SX st H H' := ⟨fun b o h _ => a b o h, fun _ v h => ⟨v, a _ _ h⟩⟩
theorem SX.new {st : Addr} {H : Hp} {p : Addr} {o : HO} (h : H p = none) : SX st H (upd H p o) := .same (same_upd h)
theorem SX.new2 {st : Addr} {H H' : Hp} {p : Addr} {o : HO} (h : H p = none) (a : SX st H H') : SX st H (upd H' p o) := ⟨fun b u e k => by
  rw [upd_ne (ne_of_none e h)]
  exact a.1 b u e k, fun tp v e => by
  rw [upd_ne (ne_of_none e h)]
  exact a.2 tp v e⟩
theorem SX.at {st : Addr} {H : Hp} {tp : Addr} {v v' : V} (h : H st = some (.lst [.ref tp, v])) : SX st H (upd H st (.lst [.ref tp, v'])) := ⟨fun b u e k => by
  by_cases hb : b = st
  · subst hb
    rw [h] at e
    cases e
    exact absurd rfl (k rfl _)
  · rw [upd_ne hb]
    exact e, fun t u e => by
  rw [h] at e
  cases e
  exact ⟨v', upd_same⟩⟩
theorem SX.seqT {K : PySem.W.Frag} {st : Addr} {H H' : Hp} {a : Addr} {xs : List V} (e : SX st H H') (h : SqT K H a xs) : SqT K H' a xs := by
  rcases h with (h | ⟨o, h⟩) | h
  · exact .inl (.inl (e.1 _ _ h fun _ _ q => by cases q))
  · exact .inl (.inr ⟨o, e.1 _ _ h fun _ _ q => by cases q⟩)
  · exact .inr h
theorem SX.lst {st : Addr} {H H' : Hp} {a : Addr} {xs : List V} (e : SX st H H') (ha : a ≠ st) (h : H a = some (.lst xs)) : H' a = some (.lst xs) := e.1 _ _ h fun q => absurd q ha
/-- the law's tape and its place -/
def TapeOk (ts : List Int) : Prop := ts.length ≤ 2520 ∧ ∀ t ∈ ts, 0 ≤ t ∧ t < 2147483629
structure St (H : Hp) (st : Addr) (n : Nat) : Prop where
  ex : ∃ (tp : Addr) (ts : List Int), H st = some (.lst [.ref tp, .int (n : Int)]) ∧ tp ≠ st ∧ H tp = some (.lst (ts.map V.int)) ∧ TapeOk ts
theorem St.same {H H' : Hp} {st : Addr} {n : Nat} (h : St H st n) (e : Same H H') : St H' st n := by
  obtain ⟨tp, ts, h1, h2, h3, h4⟩ := h.ex
  exact ⟨tp, ts, e _ _ h1, h2, e _ _ h3, h4⟩
theorem St.new {H : Hp} {st : Addr} {n : Nat} {p : Addr} {o : HO} (h : St H st n) (hp : H p = none) : St (upd H p o) st n := h.same (same_upd hp)
theorem St.upd {H1 H2 : Hp} {st D : Addr} {n n2 : Nat} {o : HO} (s1 : St H1 st n) (hD : H1 D = none) (x : SX st H1 H2) (s2 : St H2 st n2) : St (upd H2 D o) st n2 := by
  obtain ⟨tp, ts, h1, h2, h3, h4⟩ := s1.ex
  obtain ⟨tp2, ts2, k1, k2, k3, k4⟩ := s2.ex
  obtain ⟨v, e⟩ := x.2 _ _ h1
  have k1' := k1
  rw [e] at k1
  have et : tp = tp2 := by
    injection k1 with k1
    injection k1 with k1
    injection k1 with k1 _
    injection k1
  subst et
  exact ⟨tp, ts2, by rw [upd_ne (fun z => by rw [z, hD] at h1; cases h1)]; exact k1', k2, by rw [upd_ne (fun z => by rw [z, hD] at h3; cases h3)]; exact k3, k4⟩
theorem St.isL {H : Hp} {st : Addr} {n : Nat} (h : St H st n) : ∃ xs, H st = some (.lst xs) := by
  obtain ⟨tp, ts, h1, _⟩ := h.ex
  exact ⟨_, h1⟩
/-! ### data -/
/-- at most n deep, no dicts, bounded widths -/
def Sh : Nat → PyData → Prop
  | _, .none => True
  | _, .bool _ => True
  | _, .int _ => True
  | _, .str _ => True
  | 0, _ => False
  | n + 1, .list xs => xs.length ≤ 1000000 ∧ ∀ x ∈ xs, Sh n x
  | n + 1, .tuple xs => xs.length ≤ 1000000 ∧ ∀ x ∈ xs, Sh n x
  | _, .dict _ => False
def tyN : PyData → String
  | .none => "NoneType"
  | .bool _ => "bool"
  | .int _ => "int"
  | .str _ => "str"
  | .list _ => "list"
  | .tuple _ => "tuple"
  | .dict _ => "dict"
theorem Dp.ty {K : PySem.W.Frag} {H : Hp} {x : V} {d : PyData} (h : Dp K H x d) : TyX K H x (.type (tyN d)) := by
  cases h with
  | non => exact .base .non
  | bl b => exact .base (.bl b)
  | int b => exact .base (.int b)
  | str b => exact .base (.str b)
  | lst h _ =>
    rcases h with (h | ⟨o, h⟩) | ⟨o, its, n, h1, h2, _⟩
    · exact .base (.lst h)
    · exact .base (.frz h)
    · exact .kList h1 h2
  | tup h _ =>
    rcases h with (h | ⟨o, h⟩) | ⟨o, its, n, h1, h2, _⟩
    · exact .base (.tup h)
    · exact .fTuple h
    · exact .kTuple h1 h2
theorem DpAll.len {K : PySem.W.Frag} {H : Hp} : ∀ {xs : List V} {ds : List PyData}, DpAll K H xs ds → xs.length = ds.length
  | _, _, .nil => rfl
  | _, _, .cons _ t => congrArg (· + 1) (DpAll.len t)
theorem DpAll.at {K : PySem.W.Frag} {H : Hp} : ∀ {xs : List V} {ds : List PyData} {i : Nat} {d : PyData}, DpAll K H xs ds → ds[i]? = some d → ∃ x, xs[i]? = some x ∧ Dp K H x d
  | _, _, _, _, .nil, e => by simp at e
  | _, _, 0, _, .cons h _, e => by simp at e; subst e; exact ⟨_, rfl, h⟩
  | _, _, i + 1, d, .cons _ t, e => by
    obtain ⟨u, h1, h2⟩ := DpAll.at (i := i) (d := d) t (by simpa using e)
    exact ⟨u, by simpa using h1, h2⟩
mutual
theorem Dp.sx {K : PySem.W.Frag} {H H' : Hp} (e : ∀ a xs, SqT K H a xs → SqT K H' a xs) (el : ∀ a xs, SqL K H a xs → SqL K H' a xs) : ∀ {d : PyData} {x : V}, Dp K H x d → Dp K H' x d
  | _, _, .non => .non
  | _, _, .bl b => .bl b
  | _, _, .int b => .int b
  | _, _, .str b => .str b
  | _, _, .lst h t => .lst (el _ _ h) (DpAll.sx e el t)
  | _, _, .tup h t => .tup (e _ _ h) (DpAll.sx e el t)
theorem DpAll.sx {K : PySem.W.Frag} {H H' : Hp} (e : ∀ a xs, SqT K H a xs → SqT K H' a xs) (el : ∀ a xs, SqL K H a xs → SqL K H' a xs) : ∀ {ds : List PyData} {xs : List V}, DpAll K H xs ds → DpAll K H' xs ds
  | _, _, .nil => .nil
  | _, _, .cons h t => .cons (Dp.sx e el h) (DpAll.sx e el t)
end
theorem Same.sqT {K : PySem.W.Frag} {H H' : Hp} {a : Addr} {xs : List V} (e : Same H H') (h : SqT K H a xs) : SqT K H' a xs := by
  rcases h with (h | ⟨o, h⟩) | h
  · exact .inl (.inl (e _ _ h))
  · exact .inl (.inr ⟨o, e _ _ h⟩)
  · exact .inr h
theorem Dp.same {K : PySem.W.Frag} {H H' : Hp} {d : PyData} {x : V} (e : Same H H') (h : Dp K H x d) : Dp K H' x d := Dp.sx (fun _ _ h => Same.sqT e h) (fun _ _ h => e.seq h) h
theorem smallIn {K : PySem.W.Frag} {H : Hp} {a : Addr} {xs : List V} (n : Nat) (hl : xs.length ≤ n) (hn : n < 100000) : xs.length < sizeLine := smallL (by omega)

section
variable {P : Program} {w : World} {K : PySem.W.Frag} {mg : Str → Option Value} {base : Heap}
/-! ### _law_tape: a new list of ints -/
def sp_law_tape (K : PySem.W.Frag) : Sp := fun vs H Q _ => ∃ (a : Addr) (ns : List Int), vs = [.ref a] ∧ SqL K H a (ns.map V.int) ∧ ns.length ≤ 63 ∧
  ∀ H' p (ts : List Int), Same H H' → H p = none → H' p = some (.lst (ts.map V.int)) → (∀ t ∈ ts, 0 ≤ t ∧ t < 2147483629) → ts.length ≤ 2520 → Q (.ref p) H'
theorem ok_law_tape (T : Top K mg w) : FnOk P w K mg base CX0 1 T.a_law_tape T.d_law_tape ["script"] (sp_law_tape K) := by
  refine T.F_law_tape.ok sc_law_tape (fun vs H Q E h => ?_) (fun cdv A outer s H vs Q E hr h => ?_)
  · obtain ⟨a, ns, rfl, _⟩ := h
    rfl
  obtain ⟨a, ns, rfl, hS, h63, q⟩ := h
  refine ⟨_, (pss_cons (ps_set (i := 1) sc_law_tape.nd rfl (Or.inl rfl) (pe_lst pa_nil))
      (pss_cons (ps_for PassesOwn.never rfl (pi_list (pv 0)) (pg_name (i := 2) sc_law_tape.nd rfl (Or.inl rfl))
        (pss_cons (ps_set (i := 3) sc_law_tape.nd rfl (Or.inl rfl) (pe_op op_mul pe_int (pe_callTy call_int1 (by rfl) T.z_int (by decide +kernel) (pa_cons (pv 2) pa_nil))))
      (pss_cons (ps_if (pt_cmpR op_lt (pv 3) pe_int (nomark _))
        (pss_one (ps_set (i := 3) sc_law_tape.nd rfl (Or.inl rfl) (pe_op op_sub (pe_un un_neg pe_int) (pv 3))))
        pss_nil)
      (pss_one (ps_if (pt_cmpR op_ge (pv 3) (pe_op op_pow pe_int pe_int) (nomark _))
        (pss_one (ps_for PassesOwn.never rfl (pi_range1 (by rfl) T.z_range (pa_cons pe_int pa_nil)) (pg_name (i := 4) sc_law_tape.nd rfl (Or.inl rfl))
        (pss_one (ps_if (pt_cmpR op_gt (pv 3) pe_int (nomark _))
        (pss_cons (ps_expr (pe_bm PySem.F.plainAttrs_list PySem.F.slot_list_append PySem.F.type_list_append mt_append (pv 1) (pa_cons (pe_op op_mod (pe_callTy call_int1 (by rfl) T.z_int (by decide +kernel) (pa_cons (pv 3) pa_nil)) pe_int) pa_nil)))
      (pss_one (ps_set (i := 3) sc_law_tape.nd rfl (Or.inl rfl) (pe_op op_fdiv (pv 3) pe_int))))
        pss_nil))))
        (pss_one (ps_for PassesOwn.never rfl (pi_range1 (by rfl) T.z_range (pa_cons pe_int pa_nil)) (pg_name (i := 4) sc_law_tape.nd rfl (Or.inl rfl))
        (pss_cons (ps_set (i := 5) sc_law_tape.nd rfl (Or.inl rfl) (pe_op op_mod (pe_callTy call_int1 (by rfl) T.z_int (by decide +kernel) (pa_cons (pe_op op_add (pe_op op_add (pe_op op_mul (pv 3) pe_int) (pe_op op_mul (pv 4) pe_int)) pe_int) pa_nil)) pe_int))
      (pss_one (ps_expr (pe_bm PySem.F.plainAttrs_list PySem.F.slot_list_append PySem.F.type_list_append mt_append (pv 1) (pa_cons (pe_op op_mod (pe_callTy call_int1 (by rfl) T.z_int (by decide +kernel) (pa_cons (pe_op op_add (pe_op op_mul (pv 5) pe_int) (pe_op op_fdiv (pv 5) pe_int)) pa_nil)) pe_int) pa_nil))))))))))))
      (pss_one (ps_ret (pv 1))))), ?_⟩
  refine ⟨Nat.zero_le _, fun p hp => ?_⟩
  have sm : ∀ o, Same H (upd H p o) := fun o => same_upd hp
  refine ⟨_, rfl, a, rfl, ⟨_, (sm _).seq hS⟩, for_list (xs := ns.map V.int) (fun i σ H' => ∃ (y2 y3 y4 y5 : Option V) (ts : List Int), σ = [some (.ref a), some (.ref p), y2, y3, y4, y5] ∧ H' = upd H p (.lst (ts.map V.int)) ∧ (∀ t ∈ ts, 0 ≤ t ∧ t < 2147483629) ∧ ts.length ≤ 40 * i) ?_ ?_ ?_ ?_⟩
  · exact ⟨none, none, none, none, [], rfl, rfl, (fun _ h => by cases h), by decide⟩
  · rintro i σ H' _ ⟨y2, y3, y4, y5, ts, rfl, rfl, _⟩
    exact (sm _).seq hS
  · rintro i x σ H' hx ⟨y2, y3, y4, y5, ts, rfl, rfl, hb, hl⟩
    have hi : i < 63 := by
      have h1 := (List.getElem?_eq_some_iff.mp hx).1
      rw [List.length_map] at h1
      omega
    obtain ⟨n, rfl⟩ : ∃ n, x = .int n := by
      rw [List.getElem?_map] at hx
      cases e : ns[i]? with
      | none => rw [e] at hx; cases hx
      | some n => rw [e] at hx; exact ⟨n, (Option.some.inj hx).symm⟩
    (repeat (first
      | refine ⟨_, rfl, ?_⟩
      | refine ⟨_, _, rfl, rfl, ?_⟩
      | refine Or.inl ⟨_, rfl, ?_⟩
      | refine Or.inr ⟨_, rfl, ?_⟩
      | refine ⟨Or.inl ⟨by decide, by decide⟩, ?_⟩
      | refine ⟨Or.inr ⟨by decide, by decide⟩, ?_⟩
      | refine ⟨⟨by decide, by decide⟩, ?_⟩
      | refine ⟨⟨by decide, by decide, by decide⟩, ?_⟩
      | refine ⟨by decide, ?_⟩
      | refine ⟨(by show (0 : Int) < _; decide), ?_⟩
      | refine ⟨rfl, ?_⟩
      | refine ⟨⟨_, rfl⟩, ?_⟩
      | refine ⟨_, rfl, rfl, trivial, ?_⟩
      | refine ⟨_, _, rfl, ?_⟩))
    refine ite_dec (fun c => ?_) (fun c => ?_)
    all_goals
      (repeat (first
      | refine ⟨_, rfl, ?_⟩
      | refine ⟨_, _, rfl, rfl, ?_⟩
      | refine Or.inl ⟨_, rfl, ?_⟩
      | refine Or.inr ⟨_, rfl, ?_⟩
      | refine ⟨Or.inl ⟨by decide, by decide⟩, ?_⟩
      | refine ⟨Or.inr ⟨by decide, by decide⟩, ?_⟩
      | refine ⟨⟨by decide, by decide⟩, ?_⟩
      | refine ⟨⟨by decide, by decide, by decide⟩, ?_⟩
      | refine ⟨by decide, ?_⟩
      | refine ⟨(by show (0 : Int) < _; decide), ?_⟩
      | refine ⟨rfl, ?_⟩
      | refine ⟨⟨_, rfl⟩, ?_⟩
      | refine ⟨_, rfl, rfl, trivial, ?_⟩
      | refine ⟨_, _, rfl, ?_⟩))
      refine ite_dec (fun c => ?_) (fun c => ?_)
      · (repeat (first
      | refine ⟨_, rfl, ?_⟩
      | refine ⟨_, _, rfl, rfl, ?_⟩
      | refine Or.inl ⟨_, rfl, ?_⟩
      | refine Or.inr ⟨_, rfl, ?_⟩
      | refine ⟨Or.inl ⟨by decide, by decide⟩, ?_⟩
      | refine ⟨Or.inr ⟨by decide, by decide⟩, ?_⟩
      | refine ⟨⟨by decide, by decide⟩, ?_⟩
      | refine ⟨⟨by decide, by decide, by decide⟩, ?_⟩
      | refine ⟨by decide, ?_⟩
      | refine ⟨(by show (0 : Int) < _; decide), ?_⟩
      | refine ⟨rfl, ?_⟩
      | refine ⟨⟨_, rfl⟩, ?_⟩
      | refine ⟨_, rfl, rfl, trivial, ?_⟩
      | refine ⟨_, _, rfl, ?_⟩))
        refine for_range (lo := 0) (n := 40) (fun j σ H' => ∃ (y2 y4 y5 : Option V) (m : Int) (ts : List Int), σ = [some (.ref a), some (.ref p), y2, some (.int m), y4, y5] ∧ H' = upd H p (.lst (ts.map V.int)) ∧ (∀ t ∈ ts, 0 ≤ t ∧ t < 2147483629) ∧ ts.length ≤ 40 * i + j) ?_ ?_ ?_
        · exact ⟨_, _, _, _, ts, rfl, rfl, hb, by omega⟩
        · rintro j σ H' hj ⟨y2, y4, y5, m, ts, rfl, rfl, hb, hl⟩
          (repeat (first
      | refine ⟨_, rfl, ?_⟩
      | refine ⟨_, _, rfl, rfl, ?_⟩
      | refine Or.inl ⟨_, rfl, ?_⟩
      | refine Or.inr ⟨_, rfl, ?_⟩
      | refine ⟨Or.inl ⟨by decide, by decide⟩, ?_⟩
      | refine ⟨Or.inr ⟨by decide, by decide⟩, ?_⟩
      | refine ⟨⟨by decide, by decide⟩, ?_⟩
      | refine ⟨⟨by decide, by decide, by decide⟩, ?_⟩
      | refine ⟨by decide, ?_⟩
      | refine ⟨(by show (0 : Int) < _; decide), ?_⟩
      | refine ⟨rfl, ?_⟩
      | refine ⟨⟨_, rfl⟩, ?_⟩
      | refine ⟨_, rfl, rfl, trivial, ?_⟩
      | refine ⟨_, _, rfl, ?_⟩))
          refine ite_dec (fun c => ?_) (fun c => ?_)
          · (repeat (first
      | refine ⟨_, rfl, ?_⟩
      | refine ⟨_, _, rfl, rfl, ?_⟩
      | refine Or.inl ⟨_, rfl, ?_⟩
      | refine Or.inr ⟨_, rfl, ?_⟩
      | refine ⟨Or.inl ⟨by decide, by decide⟩, ?_⟩
      | refine ⟨Or.inr ⟨by decide, by decide⟩, ?_⟩
      | refine ⟨⟨by decide, by decide⟩, ?_⟩
      | refine ⟨⟨by decide, by decide, by decide⟩, ?_⟩
      | refine ⟨by decide, ?_⟩
      | refine ⟨(by show (0 : Int) < _; decide), ?_⟩
      | refine ⟨rfl, ?_⟩
      | refine ⟨⟨_, rfl⟩, ?_⟩
      | refine ⟨_, rfl, rfl, trivial, ?_⟩
      | refine ⟨_, _, rfl, ?_⟩))
            refine ⟨.inl ⟨rfl, _, SqL.of upd_same⟩, ?_⟩
            (repeat (first
      | refine ⟨_, rfl, ?_⟩
      | refine ⟨_, _, rfl, rfl, ?_⟩
      | refine Or.inl ⟨_, rfl, ?_⟩
      | refine Or.inr ⟨_, rfl, ?_⟩
      | refine ⟨Or.inl ⟨by decide, by decide⟩, ?_⟩
      | refine ⟨Or.inr ⟨by decide, by decide⟩, ?_⟩
      | refine ⟨⟨by decide, by decide⟩, ?_⟩
      | refine ⟨⟨by decide, by decide, by decide⟩, ?_⟩
      | refine ⟨by decide, ?_⟩
      | refine ⟨(by show (0 : Int) < _; decide), ?_⟩
      | refine ⟨rfl, ?_⟩
      | refine ⟨⟨_, rfl⟩, ?_⟩
      | refine ⟨_, rfl, rfl, trivial, ?_⟩
      | refine ⟨_, _, rfl, ?_⟩))
            refine ⟨p, _, _, rfl, rfl, upd_same, smallL (by rw [List.length_map]; omega), ?_⟩
            (repeat (first
      | refine ⟨_, rfl, ?_⟩
      | refine ⟨_, _, rfl, rfl, ?_⟩
      | refine Or.inl ⟨_, rfl, ?_⟩
      | refine Or.inr ⟨_, rfl, ?_⟩
      | refine ⟨Or.inl ⟨by decide, by decide⟩, ?_⟩
      | refine ⟨Or.inr ⟨by decide, by decide⟩, ?_⟩
      | refine ⟨⟨by decide, by decide⟩, ?_⟩
      | refine ⟨⟨by decide, by decide, by decide⟩, ?_⟩
      | refine ⟨by decide, ?_⟩
      | refine ⟨(by show (0 : Int) < _; decide), ?_⟩
      | refine ⟨rfl, ?_⟩
      | refine ⟨⟨_, rfl⟩, ?_⟩
      | refine ⟨_, rfl, rfl, trivial, ?_⟩
      | refine ⟨_, _, rfl, ?_⟩))
            refine ⟨_, _, _, _, ts ++ [m % 1000], rfl, ?_, ?_, ?_⟩
            · rw [upd_upd, List.map_append]; rfl
            · exact bnd_app hb ⟨by omega, by omega⟩
            · rw [List.length_append]; show ts.length + 1 ≤ _; omega
          · exact ⟨_, _, _, _, ts, rfl, rfl, hb, by omega⟩
        · rintro σ H' ⟨y2, y4, y5, m, ts, rfl, rfl, hb, hl⟩
          exact ⟨_, _, _, _, ts, rfl, rfl, hb, by omega⟩
      · (repeat (first
      | refine ⟨_, rfl, ?_⟩
      | refine ⟨_, _, rfl, rfl, ?_⟩
      | refine Or.inl ⟨_, rfl, ?_⟩
      | refine Or.inr ⟨_, rfl, ?_⟩
      | refine ⟨Or.inl ⟨by decide, by decide⟩, ?_⟩
      | refine ⟨Or.inr ⟨by decide, by decide⟩, ?_⟩
      | refine ⟨⟨by decide, by decide⟩, ?_⟩
      | refine ⟨⟨by decide, by decide, by decide⟩, ?_⟩
      | refine ⟨by decide, ?_⟩
      | refine ⟨(by show (0 : Int) < _; decide), ?_⟩
      | refine ⟨rfl, ?_⟩
      | refine ⟨⟨_, rfl⟩, ?_⟩
      | refine ⟨_, rfl, rfl, trivial, ?_⟩
      | refine ⟨_, _, rfl, ?_⟩))
        refine for_range (lo := 0) (n := 3) (fun j σ H' => ∃ (y2 y4 y5 : Option V) (m : Int) (ts : List Int), σ = [some (.ref a), some (.ref p), y2, some (.int m), y4, y5] ∧ H' = upd H p (.lst (ts.map V.int)) ∧ (∀ t ∈ ts, 0 ≤ t ∧ t < 2147483629) ∧ ts.length ≤ 40 * i + j) ?_ ?_ ?_
        · exact ⟨_, _, _, _, ts, rfl, rfl, hb, by omega⟩
        · rintro j σ H' hj ⟨y2, y4, y5, m, ts, rfl, rfl, hb, hl⟩
          (repeat (first
      | refine ⟨_, rfl, ?_⟩
      | refine ⟨_, _, rfl, rfl, ?_⟩
      | refine Or.inl ⟨_, rfl, ?_⟩
      | refine Or.inr ⟨_, rfl, ?_⟩
      | refine ⟨Or.inl ⟨by decide, by decide⟩, ?_⟩
      | refine ⟨Or.inr ⟨by decide, by decide⟩, ?_⟩
      | refine ⟨⟨by decide, by decide⟩, ?_⟩
      | refine ⟨⟨by decide, by decide, by decide⟩, ?_⟩
      | refine ⟨by decide, ?_⟩
      | refine ⟨(by show (0 : Int) < _; decide), ?_⟩
      | refine ⟨rfl, ?_⟩
      | refine ⟨⟨_, rfl⟩, ?_⟩
      | refine ⟨_, rfl, rfl, trivial, ?_⟩
      | refine ⟨_, _, rfl, ?_⟩))
          refine ⟨.inl ⟨rfl, _, SqL.of upd_same⟩, ?_⟩
          (repeat (first
      | refine ⟨_, rfl, ?_⟩
      | refine ⟨_, _, rfl, rfl, ?_⟩
      | refine Or.inl ⟨_, rfl, ?_⟩
      | refine Or.inr ⟨_, rfl, ?_⟩
      | refine ⟨Or.inl ⟨by decide, by decide⟩, ?_⟩
      | refine ⟨Or.inr ⟨by decide, by decide⟩, ?_⟩
      | refine ⟨⟨by decide, by decide⟩, ?_⟩
      | refine ⟨⟨by decide, by decide, by decide⟩, ?_⟩
      | refine ⟨by decide, ?_⟩
      | refine ⟨(by show (0 : Int) < _; decide), ?_⟩
      | refine ⟨rfl, ?_⟩
      | refine ⟨⟨_, rfl⟩, ?_⟩
      | refine ⟨_, rfl, rfl, trivial, ?_⟩
      | refine ⟨_, _, rfl, ?_⟩))
          refine ⟨p, _, _, rfl, rfl, upd_same, smallL (by rw [List.length_map]; omega), ?_⟩
          refine ⟨_, _, _, _, ts ++ [_], rfl, (by rw [upd_upd, List.map_append]; rfl), ?_, ?_⟩
          · exact bnd_app hb ⟨by omega, by omega⟩
          · rw [List.length_append]; show ts.length + 1 ≤ _; omega
        · rintro σ H' ⟨y2, y4, y5, m, ts, rfl, rfl, hb, hl⟩
          exact ⟨_, _, _, _, ts, rfl, rfl, hb, by omega⟩
  · rintro σ H' ⟨y2, y3, y4, y5, ts, rfl, rfl, hb, hl⟩
    rw [List.length_map] at hl
    exact ⟨_, rfl, q _ p ts (sm _) hp upd_same hb (by omega)⟩

/-! ### _law_draw, _law_take: some number below many -/
def sp_law_draw : Sp := fun vs H Q _ => ∃ (tp : Addr) (ts : List Int) (n : Nat) (m : Int), vs = [.ref tp, .int (n : Int), .int m] ∧ H tp = some (.lst (ts.map V.int)) ∧ TapeOk ts ∧ n < 2 ^ 60 ∧ 0 < m ∧ ∀ v, 0 ≤ v → v < m → Q (.int v) H
theorem ok_law_draw (T : Top K mg w) : FnOk P w K mg base CX0 1 T.a_law_draw T.d_law_draw ["tape", "at", "many"] sp_law_draw := by
  refine T.F_law_draw.ok sc_law_draw (fun vs H Q E h => ?_) (fun cdv A outer s H vs Q E hr h => ?_)
  · obtain ⟨tp, ts, n, m, rfl, _⟩ := h
    rfl
  obtain ⟨tp, ts, n, m, rfl, hT, hO, hn, hm, q⟩ := h
  have hS : SqL K H tp (ts.map V.int) := SqL.of hT
  have atn : ∀ j : Nat, j < ts.length → ∃ v, (ts.map V.int)[j]? = some (.int v) ∧ 0 ≤ v ∧ v < 2147483629 := fun j hj => by
    refine ⟨ts[j], by rw [List.getElem?_map, List.getElem?_eq_getElem hj]; rfl, hO.2 _ (List.getElem_mem hj)⟩
  refine ⟨_, (pss_cons (ps_if (pt_cmpR op_lt (pv 1) (pe_callB call_len_seq (by rfl) T.z_len (by decide +kernel) (pa_cons (pv 0) pa_nil)) (nomark _))
        (pss_one (ps_ret (pe_op op_mod (pe_callTy call_int1 (by rfl) T.z_int (by decide +kernel) (pa_cons (pe_ix ix_list (pv 0) (pv 1) (fun _ _ => rfl)) pa_nil)) (pv 2))))
        pss_nil)
      (pss_cons (ps_set (i := 3) sc_law_draw.nd rfl (Or.inl rfl) pe_int)
      (pss_cons (ps_if (pt_cmpR op_gt (pe_callB call_len_seq (by rfl) T.z_len (by decide +kernel) (pa_cons (pv 0) pa_nil)) pe_int (nomark _))
        (pss_one (ps_set (i := 3) sc_law_draw.nd rfl (Or.inl rfl) (pe_ix ix_list (pv 0) (pe_op op_mod (pe_callTy call_int1 (by rfl) T.z_int (by decide +kernel) (pa_cons (pv 1) pa_nil)) (pe_callB call_len_seq (by rfl) T.z_len (by decide +kernel) (pa_cons (pv 0) pa_nil))) (fun _ _ => rfl))))
        pss_nil)
      (pss_one (ps_ret (pe_op op_mod (pe_op op_mod (pe_callTy call_int1 (by rfl) T.z_int (by decide +kernel) (pa_cons (pe_op op_add (pe_op op_mul (pe_op op_mul (pe_op op_add (pv 3) (pv 1)) (pe_op op_add (pv 1) pe_int)) pe_int) (pe_op op_mul (pv 1) pe_int)) pa_nil)) pe_int) (pv 2))))))), ?_⟩
  (repeat (first
      | refine ⟨_, rfl, ?_⟩
      | refine ⟨_, _, rfl, rfl, ?_⟩
      | refine Or.inl ⟨_, rfl, ?_⟩
      | refine Or.inr ⟨_, rfl, ?_⟩
      | refine ⟨Or.inl ⟨by decide, by decide⟩, ?_⟩
      | refine ⟨Or.inr ⟨by decide, by decide⟩, ?_⟩
      | refine ⟨⟨by decide, by decide⟩, ?_⟩
      | refine ⟨⟨by decide, by decide, by decide⟩, ?_⟩
      | refine ⟨by decide, ?_⟩
      | refine ⟨(by show (0 : Int) < _; decide), ?_⟩
      | refine ⟨rfl, ?_⟩
      | refine ⟨⟨_, rfl⟩, ?_⟩
      | refine ⟨_, rfl, rfl, trivial, ?_⟩
      | refine ⟨_, _, rfl, ?_⟩))
  refine ⟨tp, _, rfl, .inl hS, ?_⟩
  (repeat (first
      | refine ⟨_, rfl, ?_⟩
      | refine ⟨_, _, rfl, rfl, ?_⟩
      | refine Or.inl ⟨_, rfl, ?_⟩
      | refine Or.inr ⟨_, rfl, ?_⟩
      | refine ⟨Or.inl ⟨by decide, by decide⟩, ?_⟩
      | refine ⟨Or.inr ⟨by decide, by decide⟩, ?_⟩
      | refine ⟨⟨by decide, by decide⟩, ?_⟩
      | refine ⟨⟨by decide, by decide, by decide⟩, ?_⟩
      | refine ⟨by decide, ?_⟩
      | refine ⟨(by show (0 : Int) < _; decide), ?_⟩
      | refine ⟨rfl, ?_⟩
      | refine ⟨⟨_, rfl⟩, ?_⟩
      | refine ⟨_, rfl, rfl, trivial, ?_⟩
      | refine ⟨_, _, rfl, ?_⟩))
  refine ite_dec (fun c => ?_) (fun c => ?_)
  · rw [List.length_map] at c
    obtain ⟨v, hv, h0, h1⟩ := atn n (by omega)
    (repeat (first
      | refine ⟨_, rfl, ?_⟩
      | refine ⟨_, _, rfl, rfl, ?_⟩
      | refine Or.inl ⟨_, rfl, ?_⟩
      | refine Or.inr ⟨_, rfl, ?_⟩
      | refine ⟨Or.inl ⟨by decide, by decide⟩, ?_⟩
      | refine ⟨Or.inr ⟨by decide, by decide⟩, ?_⟩
      | refine ⟨⟨by decide, by decide⟩, ?_⟩
      | refine ⟨⟨by decide, by decide, by decide⟩, ?_⟩
      | refine ⟨by decide, ?_⟩
      | refine ⟨(by show (0 : Int) < _; decide), ?_⟩
      | refine ⟨rfl, ?_⟩
      | refine ⟨⟨_, rfl⟩, ?_⟩
      | refine ⟨_, rfl, rfl, trivial, ?_⟩
      | refine ⟨_, _, rfl, ?_⟩))
    refine ⟨tp, _, _, _, rfl, rfl, hS, atI_nat hv, ?_⟩
    (repeat (first
      | refine ⟨_, rfl, ?_⟩
      | refine ⟨_, _, rfl, rfl, ?_⟩
      | refine Or.inl ⟨_, rfl, ?_⟩
      | refine Or.inr ⟨_, rfl, ?_⟩
      | refine ⟨Or.inl ⟨by decide, by decide⟩, ?_⟩
      | refine ⟨Or.inr ⟨by decide, by decide⟩, ?_⟩
      | refine ⟨⟨by decide, by decide⟩, ?_⟩
      | refine ⟨⟨by decide, by decide, by decide⟩, ?_⟩
      | refine ⟨by decide, ?_⟩
      | refine ⟨(by show (0 : Int) < _; decide), ?_⟩
      | refine ⟨rfl, ?_⟩
      | refine ⟨⟨_, rfl⟩, ?_⟩
      | refine ⟨_, rfl, rfl, trivial, ?_⟩
      | refine ⟨_, _, rfl, ?_⟩))
    refine ⟨hm, ?_⟩
    exact q _ (Int.emod_nonneg _ (by omega)) (Int.emod_lt_of_pos _ hm)
  · (repeat (first
      | refine ⟨_, rfl, ?_⟩
      | refine ⟨_, _, rfl, rfl, ?_⟩
      | refine Or.inl ⟨_, rfl, ?_⟩
      | refine Or.inr ⟨_, rfl, ?_⟩
      | refine ⟨Or.inl ⟨by decide, by decide⟩, ?_⟩
      | refine ⟨Or.inr ⟨by decide, by decide⟩, ?_⟩
      | refine ⟨⟨by decide, by decide⟩, ?_⟩
      | refine ⟨⟨by decide, by decide, by decide⟩, ?_⟩
      | refine ⟨by decide, ?_⟩
      | refine ⟨(by show (0 : Int) < _; decide), ?_⟩
      | refine ⟨rfl, ?_⟩
      | refine ⟨⟨_, rfl⟩, ?_⟩
      | refine ⟨_, rfl, rfl, trivial, ?_⟩
      | refine ⟨_, _, rfl, ?_⟩))
    refine ⟨tp, _, rfl, .inl hS, ?_⟩
    (repeat (first
      | refine ⟨_, rfl, ?_⟩
      | refine ⟨_, _, rfl, rfl, ?_⟩
      | refine Or.inl ⟨_, rfl, ?_⟩
      | refine Or.inr ⟨_, rfl, ?_⟩
      | refine ⟨Or.inl ⟨by decide, by decide⟩, ?_⟩
      | refine ⟨Or.inr ⟨by decide, by decide⟩, ?_⟩
      | refine ⟨⟨by decide, by decide⟩, ?_⟩
      | refine ⟨⟨by decide, by decide, by decide⟩, ?_⟩
      | refine ⟨by decide, ?_⟩
      | refine ⟨(by show (0 : Int) < _; decide), ?_⟩
      | refine ⟨rfl, ?_⟩
      | refine ⟨⟨_, rfl⟩, ?_⟩
      | refine ⟨_, rfl, rfl, trivial, ?_⟩
      | refine ⟨_, _, rfl, ?_⟩))
    have fin : ∀ v : Int, 0 ≤ v → v < 2147483629 → CMul (v + n) (n + 3) := fun v h0 h1 => .inl ⟨by omega, by omega⟩
    refine ite_dec (fun c => ?_) (fun c => ?_)
    · rw [List.length_map] at c
      (repeat (first
      | refine ⟨_, rfl, ?_⟩
      | refine ⟨_, _, rfl, rfl, ?_⟩
      | refine Or.inl ⟨_, rfl, ?_⟩
      | refine Or.inr ⟨_, rfl, ?_⟩
      | refine ⟨Or.inl ⟨by decide, by decide⟩, ?_⟩
      | refine ⟨Or.inr ⟨by decide, by decide⟩, ?_⟩
      | refine ⟨⟨by decide, by decide⟩, ?_⟩
      | refine ⟨⟨by decide, by decide, by decide⟩, ?_⟩
      | refine ⟨by decide, ?_⟩
      | refine ⟨(by show (0 : Int) < _; decide), ?_⟩
      | refine ⟨rfl, ?_⟩
      | refine ⟨⟨_, rfl⟩, ?_⟩
      | refine ⟨_, rfl, rfl, trivial, ?_⟩
      | refine ⟨_, _, rfl, ?_⟩))
      refine ⟨tp, _, rfl, .inl hS, ?_⟩
      (repeat (first
      | refine ⟨_, rfl, ?_⟩
      | refine ⟨_, _, rfl, rfl, ?_⟩
      | refine Or.inl ⟨_, rfl, ?_⟩
      | refine Or.inr ⟨_, rfl, ?_⟩
      | refine ⟨Or.inl ⟨by decide, by decide⟩, ?_⟩
      | refine ⟨Or.inr ⟨by decide, by decide⟩, ?_⟩
      | refine ⟨⟨by decide, by decide⟩, ?_⟩
      | refine ⟨⟨by decide, by decide, by decide⟩, ?_⟩
      | refine ⟨by decide, ?_⟩
      | refine ⟨(by show (0 : Int) < _; decide), ?_⟩
      | refine ⟨rfl, ?_⟩
      | refine ⟨⟨_, rfl⟩, ?_⟩
      | refine ⟨_, rfl, rfl, trivial, ?_⟩
      | refine ⟨_, _, rfl, ?_⟩))
      refine ⟨by show (0 : Int) < _; rw [List.length_map]; omega, ?_⟩
      have hl : ((n : Int) % ((ts.map V.int).length : Nat)) = ((n % ts.length : Nat) : Int) := by
        rw [List.length_map]; rfl
      obtain ⟨v, hv, h0, h1⟩ := atn (n % ts.length) (Nat.mod_lt _ (by omega))
      refine ⟨tp, _, _, _, rfl, rfl, hS, (by rw [hl]; exact atI_nat hv), ?_⟩
      (repeat (first
      | refine ⟨_, rfl, ?_⟩
      | refine ⟨_, _, rfl, rfl, ?_⟩
      | refine Or.inl ⟨_, rfl, ?_⟩
      | refine Or.inr ⟨_, rfl, ?_⟩
      | refine ⟨Or.inl ⟨by decide, by decide⟩, ?_⟩
      | refine ⟨Or.inr ⟨by decide, by decide⟩, ?_⟩
      | refine ⟨⟨by decide, by decide⟩, ?_⟩
      | refine ⟨⟨by decide, by decide, by decide⟩, ?_⟩
      | refine ⟨by decide, ?_⟩
      | refine ⟨(by show (0 : Int) < _; decide), ?_⟩
      | refine ⟨rfl, ?_⟩
      | refine ⟨⟨_, rfl⟩, ?_⟩
      | refine ⟨_, rfl, rfl, trivial, ?_⟩
      | refine ⟨_, _, rfl, ?_⟩))
      refine ⟨fin v h0 h1, ?_⟩
      (repeat (first
      | refine ⟨_, rfl, ?_⟩
      | refine ⟨_, _, rfl, rfl, ?_⟩
      | refine Or.inl ⟨_, rfl, ?_⟩
      | refine Or.inr ⟨_, rfl, ?_⟩
      | refine ⟨Or.inl ⟨by decide, by decide⟩, ?_⟩
      | refine ⟨Or.inr ⟨by decide, by decide⟩, ?_⟩
      | refine ⟨⟨by decide, by decide⟩, ?_⟩
      | refine ⟨⟨by decide, by decide, by decide⟩, ?_⟩
      | refine ⟨by decide, ?_⟩
      | refine ⟨(by show (0 : Int) < _; decide), ?_⟩
      | refine ⟨rfl, ?_⟩
      | refine ⟨⟨_, rfl⟩, ?_⟩
      | refine ⟨_, rfl, rfl, trivial, ?_⟩
      | refine ⟨_, _, rfl, ?_⟩))
      refine ⟨hm, ?_⟩
      exact q _ (Int.emod_nonneg _ (by omega)) (Int.emod_lt_of_pos _ hm)
    · (repeat (first
      | refine ⟨_, rfl, ?_⟩
      | refine ⟨_, _, rfl, rfl, ?_⟩
      | refine Or.inl ⟨_, rfl, ?_⟩
      | refine Or.inr ⟨_, rfl, ?_⟩
      | refine ⟨Or.inl ⟨by decide, by decide⟩, ?_⟩
      | refine ⟨Or.inr ⟨by decide, by decide⟩, ?_⟩
      | refine ⟨⟨by decide, by decide⟩, ?_⟩
      | refine ⟨⟨by decide, by decide, by decide⟩, ?_⟩
      | refine ⟨by decide, ?_⟩
      | refine ⟨(by show (0 : Int) < _; decide), ?_⟩
      | refine ⟨rfl, ?_⟩
      | refine ⟨⟨_, rfl⟩, ?_⟩
      | refine ⟨_, rfl, rfl, trivial, ?_⟩
      | refine ⟨_, _, rfl, ?_⟩))
      refine ⟨fin 1 (by decide) (by decide), ?_⟩
      (repeat (first
      | refine ⟨_, rfl, ?_⟩
      | refine ⟨_, _, rfl, rfl, ?_⟩
      | refine Or.inl ⟨_, rfl, ?_⟩
      | refine Or.inr ⟨_, rfl, ?_⟩
      | refine ⟨Or.inl ⟨by decide, by decide⟩, ?_⟩
      | refine ⟨Or.inr ⟨by decide, by decide⟩, ?_⟩
      | refine ⟨⟨by decide, by decide⟩, ?_⟩
      | refine ⟨⟨by decide, by decide, by decide⟩, ?_⟩
      | refine ⟨by decide, ?_⟩
      | refine ⟨(by show (0 : Int) < _; decide), ?_⟩
      | refine ⟨rfl, ?_⟩
      | refine ⟨⟨_, rfl⟩, ?_⟩
      | refine ⟨_, rfl, rfl, trivial, ?_⟩
      | refine ⟨_, _, rfl, ?_⟩))
      refine ⟨hm, ?_⟩
      exact q _ (Int.emod_nonneg _ (by omega)) (Int.emod_lt_of_pos _ hm)
def sp_law_take : Sp := fun vs H Q _ => ∃ (st : Addr) (n : Nat) (m : Int), vs = [.ref st, .int m] ∧ St H st n ∧ n < 2 ^ 50 ∧ 0 < m ∧ ∀ v H', 0 ≤ v → v < m → SX st H H' → St H' st (n + 1) → Q (.int v) H'
theorem ok_law_take (T : Top K mg w) : FnOk P w K mg base CX0 2 T.a_law_take T.d_law_take ["state", "many"] sp_law_take := by
  refine T.F_law_take.ok sc_law_take (fun vs H Q E h => ?_) (fun cdv A outer s H vs Q E hr h => ?_)
  · obtain ⟨st, n, m, rfl, _⟩ := h
    rfl
  obtain ⟨st, n, m, rfl, hs, hn, hm, q⟩ := h
  obtain ⟨tp, ts, h1, h2, h3, h4⟩ := hs.ex
  refine ⟨_, (pss_cons (ps_asg (pe_op op_add (pe_ix ix_list (pv 0) pe_int (fun _ _ => rfl)) pe_int) (pg_sub (pv 0) pe_int set_list))
      (pss_one (ps_ret (pe_call ((ok_law_draw T).mono (by decide)) hr (by rfl) T.m_law_draw T.F_law_draw.kp T.b_law_draw .nil pass0 (pa_cons (pe_ix ix_list (pv 0) pe_int (fun _ _ => rfl)) (pa_cons (pe_ix ix_list (pv 0) pe_int (fun _ _ => rfl)) (pa_cons (pv 1) pa_nil))))))), ?_⟩
  have e1 : ((n : Int) + 1) = ((n + 1 : Nat) : Int) := rfl
  refine ⟨_, rfl, st, _, 1, _, rfl, rfl, SqL.of h1, atI_nat (j := 1) rfl, ?_⟩
  (repeat (first
      | refine ⟨_, rfl, ?_⟩
      | refine ⟨_, _, rfl, rfl, ?_⟩
      | refine Or.inl ⟨_, rfl, ?_⟩
      | refine Or.inr ⟨_, rfl, ?_⟩
      | refine ⟨Or.inl ⟨by decide, by decide⟩, ?_⟩
      | refine ⟨Or.inr ⟨by decide, by decide⟩, ?_⟩
      | refine ⟨⟨by decide, by decide⟩, ?_⟩
      | refine ⟨⟨by decide, by decide, by decide⟩, ?_⟩
      | refine ⟨by decide, ?_⟩
      | refine ⟨(by show (0 : Int) < _; decide), ?_⟩
      | refine ⟨rfl, ?_⟩
      | refine ⟨⟨_, rfl⟩, ?_⟩
      | refine ⟨_, rfl, rfl, trivial, ?_⟩
      | refine ⟨_, _, rfl, ?_⟩))
  refine ⟨st, _, 1, 1, rfl, rfl, h1, rfl, ?_⟩
  refine ⟨_, rfl, st, _, 0, _, rfl, rfl, SqL.of upd_same, atI_nat (j := 0) rfl, ?_⟩
  refine ⟨_, rfl, st, _, 1, _, rfl, rfl, SqL.of upd_same, atI_nat (j := 1) rfl, ?_⟩
  refine ⟨_, rfl, ?_⟩
  refine ⟨tp, ts, n + 1, m, rfl, by rw [upd_ne h2]; exact h3, h4, by omega, hm, fun v h0 hv => ?_⟩
  exact q v _ h0 hv (SX.at h1) ⟨tp, ts, upd_same, h2, by rw [upd_ne h2]; exact h3, h4⟩

/-! ### _law_equal of equal data -/
def sp_law_equal (K : PySem.W.Frag) (n : Nat) : Sp := fun vs H Q _ => ∃ (x y : V) (d : PyData), vs = [x, y] ∧ Dp K H x d ∧ Dp K H y d ∧ Sh n d ∧ Q (.bl true) H
theorem isi_e {d : PyData} (k s : String) (b : Bool) (hk : tyN d = k) (e : kitB k s = some b) : PySem.W.kitOne K (.type (tyN d)) (.type s) = some b := kit_ty (by rw [hk]; exact e)
theorem seq_equal {n : Nat} {xs ys : List V} {ds : List PyData} {H : Hp} (hx : DpAll K H xs ds) (hy : DpAll K H ys ds) (hsh : ∀ d ∈ ds, Sh n d) (i : Nat) (hi : i < ds.length) :
    ∃ x y d, xs[i]? = some x ∧ ys[i]? = some y ∧ Dp K H x d ∧ Dp K H y d ∧ Sh n d := by
  have e := List.getElem?_eq_getElem hi
  obtain ⟨x, ex, px⟩ := DpAll.at hx e
  obtain ⟨y, ey, py⟩ := DpAll.at hy e
  exact ⟨x, y, ds[i], ex, ey, px, py, hsh _ (List.getElem_mem hi)⟩
theorem no_equal {f : Addr} {fd : FuncData} : ∀ n, (∀ {vs H Q E}, ¬ sp_law_equal K n vs H Q E) → FnOk P w K mg base CX0 0 f fd ["actual", "due"] (sp_law_equal K n) := fun n no =>
  ⟨fun vs H Q E h => absurd h no, fun A outer s H args us vs Q E _ _ _ _ h => absurd h no⟩
theorem step_law_equal (T : Top K mg w) (n k : Nat) (G_law_equal : ∀ m, m + 1 = n → FnOk P w K mg base CX0 k T.a_law_equal T.d_law_equal ["actual", "due"] (sp_law_equal K m)) : FnOk P w K mg base CX0 (k + 1) T.a_law_equal T.d_law_equal ["actual", "due"] (sp_law_equal K n) := by
  have no0 : FnOk P w K mg base CX0 k T.a_law_equal T.d_law_equal ["actual", "due"] (fun _ _ _ _ => False) := ⟨fun vs H Q E h => h.elim, fun A outer s H args us vs Q E _ _ _ _ h => h.elim⟩
  have G_law_equal : FnOk P w K mg base CX0 k T.a_law_equal T.d_law_equal ["actual", "due"] (fun vs H Q E => ∃ m, m + 1 = n ∧ sp_law_equal K m vs H Q E) := by
    cases n with
    | zero => exact no0.imp fun vs H Q E ⟨m, h, _⟩ => by omega
    | succ n =>
      refine (G_law_equal n rfl).imp fun vs H Q E h => ?_
      obtain ⟨m, h, q⟩ := h
      have e : m = n := by omega
      subst e
      exact q
  refine T.F_law_equal.ok sc_law_equal (fun vs H Q E h => ?_) (fun cdv A outer s H vs Q E hr h => ?_)
  · obtain ⟨x, y, d, rfl, _⟩ := h
    rfl
  obtain ⟨x, y, d, rfl, hx, hy, hsh, q⟩ := h
  refine ⟨_, (pss_cons (ps_if (pt_cmpR op_isN (pv 1) pe_non (nomark _))
        (pss_one (ps_ret (pe_cmpR op_isN (pv 0) pe_non (nomark _))))
        pss_nil)
      (pss_cons (ps_if (pt_val (pe_callB (show CallR _ (.builtin "isinstance") (rIsi K) from call_isi) (by rfl) T.z_isinstance (by decide +kernel) (pa_cons (pv 1) (pa_cons (pe_bltn (v := .ty "bool") (u := .type "bool") (by rfl) T.z_bool (by decide +kernel) rfl) pa_nil))))
        (pss_one (ps_ret (pe_and (pe_callB (show CallR _ (.builtin "isinstance") (rIsi K) from call_isi) (by rfl) T.z_isinstance (by decide +kernel) (pa_cons (pv 0) (pa_cons (pe_bltn (v := .ty "bool") (u := .type "bool") (by rfl) T.z_bool (by decide +kernel) rfl) pa_nil))) (pe_one (pe_cmpR op_eq (pv 0) (pv 1) (nomark _))))))
        pss_nil)
      (pss_cons (ps_if (pt_val (pe_callB (show CallR _ (.builtin "isinstance") (rIsi K) from call_isi) (by rfl) T.z_isinstance (by decide +kernel) (pa_cons (pv 1) (pa_cons (pe_bltn (v := .ty "int") (u := .type "int") (by rfl) T.z_int (by decide +kernel) rfl) pa_nil))))
        (pss_one (ps_ret (pe_and (pe_callB (show CallR _ (.builtin "isinstance") (rIsi K) from call_isi) (by rfl) T.z_isinstance (by decide +kernel) (pa_cons (pv 0) (pa_cons (pe_bltn (v := .ty "int") (u := .type "int") (by rfl) T.z_int (by decide +kernel) rfl) pa_nil))) (pe_and (pe_not (pe_callB (show CallR _ (.builtin "isinstance") (rIsi K) from call_isi) (by rfl) T.z_isinstance (by decide +kernel) (pa_cons (pv 0) (pa_cons (pe_bltn (v := .ty "bool") (u := .type "bool") (by rfl) T.z_bool (by decide +kernel) rfl) pa_nil)))) (pe_one (pe_cmpR op_eq (pv 0) (pv 1) (nomark _)))))))
        pss_nil)
      (pss_cons (ps_if (pt_val (pe_callB (show CallR _ (.builtin "isinstance") (rIsi K) from call_isi) (by rfl) T.z_isinstance (by decide +kernel) (pa_cons (pv 1) (pa_cons (pe_bltn (v := .ty "str") (u := .type "str") (by rfl) T.z_str (by decide +kernel) rfl) pa_nil))))
        (pss_one (ps_ret (pe_and (pe_callB (show CallR _ (.builtin "isinstance") (rIsi K) from call_isi) (by rfl) T.z_isinstance (by decide +kernel) (pa_cons (pv 0) (pa_cons (pe_bltn (v := .ty "str") (u := .type "str") (by rfl) T.z_str (by decide +kernel) rfl) pa_nil))) (pe_one (pe_cmpR op_eq (pv 0) (pv 1) (nomark _))))))
        pss_nil)
      (pss_cons (ps_if (PW.pt (pw_and (pt_val (pe_callB (show CallR _ (.builtin "isinstance") (rIsi K) from call_isi) (by rfl) T.z_isinstance (by decide +kernel) (pa_cons (pv 1) (pa_cons (pe_bltn (v := .ty "tuple") (u := .type "tuple") (by rfl) T.z_tuple (by decide +kernel) rfl) pa_nil)))) (pw_and1 (pt_not (pt_val (pe_callB (show CallR _ (.builtin "isinstance") (rIsi K) from call_isi) (by rfl) T.z_isinstance (by decide +kernel) (pa_cons (pv 0) (pa_cons (pe_bltn (v := .ty "tuple") (u := .type "tuple") (by rfl) T.z_tuple (by decide +kernel) rfl) pa_nil))))))))
        (pss_one (ps_ret pe_bl))
        pss_nil)
      (pss_cons (ps_if (PW.pt (pw_and (pt_val (pe_callB (show CallR _ (.builtin "isinstance") (rIsi K) from call_isi) (by rfl) T.z_isinstance (by decide +kernel) (pa_cons (pv 1) (pa_cons (pe_bltn (v := .ty "list") (u := .type "list") (by rfl) T.z_list (by decide +kernel) rfl) pa_nil)))) (pw_and1 (pt_not (pt_val (pe_callB (show CallR _ (.builtin "isinstance") (rIsi K) from call_isi) (by rfl) T.z_isinstance (by decide +kernel) (pa_cons (pv 0) (pa_cons (pe_bltn (v := .ty "list") (u := .type "list") (by rfl) T.z_list (by decide +kernel) rfl) pa_nil))))))))
        (pss_one (ps_ret pe_bl))
        pss_nil)
      (pss_cons (ps_if (pt_cmpR op_ne (pe_callB call_len_seq (by rfl) T.z_len (by decide +kernel) (pa_cons (pv 0) pa_nil)) (pe_callB call_len_seq (by rfl) T.z_len (by decide +kernel) (pa_cons (pv 1) pa_nil)) (nomark _))
        (pss_one (ps_ret pe_bl))
        pss_nil)
      (pss_cons (ps_for PassesOwn.never rfl (pi_range1 (by rfl) T.z_range (pa_cons (pe_callB call_len_seq (by rfl) T.z_len (by decide +kernel) (pa_cons (pv 1) pa_nil)) pa_nil)) (pg_name (i := 2) sc_law_equal.nd rfl (Or.inl rfl))
        (pss_one (ps_if (pt_not (pt_val (pe_call G_law_equal hr (by rfl) T.m_law_equal T.F_law_equal.kp T.b_law_equal .nil pass0 (pa_cons (pe_ix (IxR.or ix_list ix_tup) (pv 0) (pv 2) (fun _ _ => rfl)) (pa_cons (pe_ix (IxR.or ix_list ix_tup) (pv 1) (pv 2) (fun _ _ => rfl)) pa_nil)))))
        (pss_one (ps_ret pe_bl))
        pss_nil)))
      (pss_one (ps_ret pe_bl)))))))))), ?_⟩
  -- the end over a list or a tuple
  cases d with
  | none =>
    cases hx
    cases hy
    (repeat (first
      | refine ⟨_, rfl, ?_⟩
      | refine ⟨_, _, rfl, rfl, ?_⟩
      | refine Or.inl ⟨_, rfl, ?_⟩
      | refine Or.inr ⟨_, rfl, ?_⟩
      | refine ⟨Or.inl ⟨by decide, by decide⟩, ?_⟩
      | refine ⟨Or.inr ⟨by decide, by decide⟩, ?_⟩
      | refine ⟨⟨by decide, by decide⟩, ?_⟩
      | refine ⟨⟨by decide, by decide, by decide⟩, ?_⟩
      | refine ⟨by decide, ?_⟩
      | refine ⟨(by show (0 : Int) < _; decide), ?_⟩
      | refine ⟨rfl, ?_⟩
      | refine ⟨⟨_, rfl⟩, ?_⟩
      | refine ⟨_, rfl, rfl, trivial, ?_⟩
      | refine ⟨_, _, rfl, ?_⟩))
    exact q
  | bool b =>
    cases hx
    cases hy
    (repeat (first
      | refine ⟨_, rfl, ?_⟩
      | refine ⟨_, _, rfl, rfl, ?_⟩
      | refine Or.inl ⟨_, rfl, ?_⟩
      | refine Or.inr ⟨_, rfl, ?_⟩
      | refine ⟨Or.inl ⟨by decide, by decide⟩, ?_⟩
      | refine ⟨Or.inr ⟨by decide, by decide⟩, ?_⟩
      | refine ⟨⟨by decide, by decide⟩, ?_⟩
      | refine ⟨⟨by decide, by decide, by decide⟩, ?_⟩
      | refine ⟨by decide, ?_⟩
      | refine ⟨(by show (0 : Int) < _; decide), ?_⟩
      | refine ⟨rfl, ?_⟩
      | refine ⟨⟨_, rfl⟩, ?_⟩
      | refine ⟨_, rfl, rfl, trivial, ?_⟩
      | refine ⟨_, _, rfl, ?_⟩))
    refine ⟨_, _, _, _, true, rfl, .ty _, Dp.ty (.bl b), isi_e "bool" "bool" true rfl (by decide +kernel), ?_⟩
    (repeat (first
      | refine ⟨_, rfl, ?_⟩
      | refine ⟨_, _, rfl, rfl, ?_⟩
      | refine Or.inl ⟨_, rfl, ?_⟩
      | refine Or.inr ⟨_, rfl, ?_⟩
      | refine ⟨Or.inl ⟨by decide, by decide⟩, ?_⟩
      | refine ⟨Or.inr ⟨by decide, by decide⟩, ?_⟩
      | refine ⟨⟨by decide, by decide⟩, ?_⟩
      | refine ⟨⟨by decide, by decide, by decide⟩, ?_⟩
      | refine ⟨by decide, ?_⟩
      | refine ⟨(by show (0 : Int) < _; decide), ?_⟩
      | refine ⟨rfl, ?_⟩
      | refine ⟨⟨_, rfl⟩, ?_⟩
      | refine ⟨_, rfl, rfl, trivial, ?_⟩
      | refine ⟨_, _, rfl, ?_⟩))
    refine ⟨_, _, _, _, true, rfl, .ty _, Dp.ty (.bl b), isi_e "bool" "bool" true rfl (by decide +kernel), ?_⟩
    (repeat (first
      | refine ⟨_, rfl, ?_⟩
      | refine ⟨_, _, rfl, rfl, ?_⟩
      | refine Or.inl ⟨_, rfl, ?_⟩
      | refine Or.inr ⟨_, rfl, ?_⟩
      | refine ⟨Or.inl ⟨by decide, by decide⟩, ?_⟩
      | refine ⟨Or.inr ⟨by decide, by decide⟩, ?_⟩
      | refine ⟨⟨by decide, by decide⟩, ?_⟩
      | refine ⟨⟨by decide, by decide, by decide⟩, ?_⟩
      | refine ⟨by decide, ?_⟩
      | refine ⟨(by show (0 : Int) < _; decide), ?_⟩
      | refine ⟨rfl, ?_⟩
      | refine ⟨⟨_, rfl⟩, ?_⟩
      | refine ⟨_, rfl, rfl, trivial, ?_⟩
      | refine ⟨_, _, rfl, ?_⟩))
    rw [decide_eq_true rfl]
    exact q
  | int b =>
    cases hx
    cases hy
    (repeat (first
      | refine ⟨_, rfl, ?_⟩
      | refine ⟨_, _, rfl, rfl, ?_⟩
      | refine Or.inl ⟨_, rfl, ?_⟩
      | refine Or.inr ⟨_, rfl, ?_⟩
      | refine ⟨Or.inl ⟨by decide, by decide⟩, ?_⟩
      | refine ⟨Or.inr ⟨by decide, by decide⟩, ?_⟩
      | refine ⟨⟨by decide, by decide⟩, ?_⟩
      | refine ⟨⟨by decide, by decide, by decide⟩, ?_⟩
      | refine ⟨by decide, ?_⟩
      | refine ⟨(by show (0 : Int) < _; decide), ?_⟩
      | refine ⟨rfl, ?_⟩
      | refine ⟨⟨_, rfl⟩, ?_⟩
      | refine ⟨_, rfl, rfl, trivial, ?_⟩
      | refine ⟨_, _, rfl, ?_⟩))
    refine ⟨_, _, _, _, false, rfl, .ty _, Dp.ty (.int b), isi_e "int" "bool" false rfl (by decide +kernel), ?_⟩
    (repeat (first
      | refine ⟨_, rfl, ?_⟩
      | refine ⟨_, _, rfl, rfl, ?_⟩
      | refine Or.inl ⟨_, rfl, ?_⟩
      | refine Or.inr ⟨_, rfl, ?_⟩
      | refine ⟨Or.inl ⟨by decide, by decide⟩, ?_⟩
      | refine ⟨Or.inr ⟨by decide, by decide⟩, ?_⟩
      | refine ⟨⟨by decide, by decide⟩, ?_⟩
      | refine ⟨⟨by decide, by decide, by decide⟩, ?_⟩
      | refine ⟨by decide, ?_⟩
      | refine ⟨(by show (0 : Int) < _; decide), ?_⟩
      | refine ⟨rfl, ?_⟩
      | refine ⟨⟨_, rfl⟩, ?_⟩
      | refine ⟨_, rfl, rfl, trivial, ?_⟩
      | refine ⟨_, _, rfl, ?_⟩))
    refine ⟨_, _, _, _, true, rfl, .ty _, Dp.ty (.int b), isi_e "int" "int" true rfl (by decide +kernel), ?_⟩
    (repeat (first
      | refine ⟨_, rfl, ?_⟩
      | refine ⟨_, _, rfl, rfl, ?_⟩
      | refine Or.inl ⟨_, rfl, ?_⟩
      | refine Or.inr ⟨_, rfl, ?_⟩
      | refine ⟨Or.inl ⟨by decide, by decide⟩, ?_⟩
      | refine ⟨Or.inr ⟨by decide, by decide⟩, ?_⟩
      | refine ⟨⟨by decide, by decide⟩, ?_⟩
      | refine ⟨⟨by decide, by decide, by decide⟩, ?_⟩
      | refine ⟨by decide, ?_⟩
      | refine ⟨(by show (0 : Int) < _; decide), ?_⟩
      | refine ⟨rfl, ?_⟩
      | refine ⟨⟨_, rfl⟩, ?_⟩
      | refine ⟨_, rfl, rfl, trivial, ?_⟩
      | refine ⟨_, _, rfl, ?_⟩))
    refine ⟨_, _, _, _, true, rfl, .ty _, Dp.ty (.int b), isi_e "int" "int" true rfl (by decide +kernel), ?_⟩
    (repeat (first
      | refine ⟨_, rfl, ?_⟩
      | refine ⟨_, _, rfl, rfl, ?_⟩
      | refine Or.inl ⟨_, rfl, ?_⟩
      | refine Or.inr ⟨_, rfl, ?_⟩
      | refine ⟨Or.inl ⟨by decide, by decide⟩, ?_⟩
      | refine ⟨Or.inr ⟨by decide, by decide⟩, ?_⟩
      | refine ⟨⟨by decide, by decide⟩, ?_⟩
      | refine ⟨⟨by decide, by decide, by decide⟩, ?_⟩
      | refine ⟨by decide, ?_⟩
      | refine ⟨(by show (0 : Int) < _; decide), ?_⟩
      | refine ⟨rfl, ?_⟩
      | refine ⟨⟨_, rfl⟩, ?_⟩
      | refine ⟨_, rfl, rfl, trivial, ?_⟩
      | refine ⟨_, _, rfl, ?_⟩))
    refine ⟨_, _, _, _, false, rfl, .ty _, Dp.ty (.int b), isi_e "int" "bool" false rfl (by decide +kernel), ?_⟩
    (repeat (first
      | refine ⟨_, rfl, ?_⟩
      | refine ⟨_, _, rfl, rfl, ?_⟩
      | refine Or.inl ⟨_, rfl, ?_⟩
      | refine Or.inr ⟨_, rfl, ?_⟩
      | refine ⟨Or.inl ⟨by decide, by decide⟩, ?_⟩
      | refine ⟨Or.inr ⟨by decide, by decide⟩, ?_⟩
      | refine ⟨⟨by decide, by decide⟩, ?_⟩
      | refine ⟨⟨by decide, by decide, by decide⟩, ?_⟩
      | refine ⟨by decide, ?_⟩
      | refine ⟨(by show (0 : Int) < _; decide), ?_⟩
      | refine ⟨rfl, ?_⟩
      | refine ⟨⟨_, rfl⟩, ?_⟩
      | refine ⟨_, rfl, rfl, trivial, ?_⟩
      | refine ⟨_, _, rfl, ?_⟩))
    rw [decide_eq_true rfl]
    exact q
  | str b =>
    cases hx
    cases hy
    (repeat (first
      | refine ⟨_, rfl, ?_⟩
      | refine ⟨_, _, rfl, rfl, ?_⟩
      | refine Or.inl ⟨_, rfl, ?_⟩
      | refine Or.inr ⟨_, rfl, ?_⟩
      | refine ⟨Or.inl ⟨by decide, by decide⟩, ?_⟩
      | refine ⟨Or.inr ⟨by decide, by decide⟩, ?_⟩
      | refine ⟨⟨by decide, by decide⟩, ?_⟩
      | refine ⟨⟨by decide, by decide, by decide⟩, ?_⟩
      | refine ⟨by decide, ?_⟩
      | refine ⟨(by show (0 : Int) < _; decide), ?_⟩
      | refine ⟨rfl, ?_⟩
      | refine ⟨⟨_, rfl⟩, ?_⟩
      | refine ⟨_, rfl, rfl, trivial, ?_⟩
      | refine ⟨_, _, rfl, ?_⟩))
    refine ⟨_, _, _, _, false, rfl, .ty _, Dp.ty (.str b), isi_e "str" "bool" false rfl (by decide +kernel), ?_⟩
    (repeat (first
      | refine ⟨_, rfl, ?_⟩
      | refine ⟨_, _, rfl, rfl, ?_⟩
      | refine Or.inl ⟨_, rfl, ?_⟩
      | refine Or.inr ⟨_, rfl, ?_⟩
      | refine ⟨Or.inl ⟨by decide, by decide⟩, ?_⟩
      | refine ⟨Or.inr ⟨by decide, by decide⟩, ?_⟩
      | refine ⟨⟨by decide, by decide⟩, ?_⟩
      | refine ⟨⟨by decide, by decide, by decide⟩, ?_⟩
      | refine ⟨by decide, ?_⟩
      | refine ⟨(by show (0 : Int) < _; decide), ?_⟩
      | refine ⟨rfl, ?_⟩
      | refine ⟨⟨_, rfl⟩, ?_⟩
      | refine ⟨_, rfl, rfl, trivial, ?_⟩
      | refine ⟨_, _, rfl, ?_⟩))
    refine ⟨_, _, _, _, false, rfl, .ty _, Dp.ty (.str b), isi_e "str" "int" false rfl (by decide +kernel), ?_⟩
    (repeat (first
      | refine ⟨_, rfl, ?_⟩
      | refine ⟨_, _, rfl, rfl, ?_⟩
      | refine Or.inl ⟨_, rfl, ?_⟩
      | refine Or.inr ⟨_, rfl, ?_⟩
      | refine ⟨Or.inl ⟨by decide, by decide⟩, ?_⟩
      | refine ⟨Or.inr ⟨by decide, by decide⟩, ?_⟩
      | refine ⟨⟨by decide, by decide⟩, ?_⟩
      | refine ⟨⟨by decide, by decide, by decide⟩, ?_⟩
      | refine ⟨by decide, ?_⟩
      | refine ⟨(by show (0 : Int) < _; decide), ?_⟩
      | refine ⟨rfl, ?_⟩
      | refine ⟨⟨_, rfl⟩, ?_⟩
      | refine ⟨_, rfl, rfl, trivial, ?_⟩
      | refine ⟨_, _, rfl, ?_⟩))
    refine ⟨_, _, _, _, true, rfl, .ty _, Dp.ty (.str b), isi_e "str" "str" true rfl (by decide +kernel), ?_⟩
    (repeat (first
      | refine ⟨_, rfl, ?_⟩
      | refine ⟨_, _, rfl, rfl, ?_⟩
      | refine Or.inl ⟨_, rfl, ?_⟩
      | refine Or.inr ⟨_, rfl, ?_⟩
      | refine ⟨Or.inl ⟨by decide, by decide⟩, ?_⟩
      | refine ⟨Or.inr ⟨by decide, by decide⟩, ?_⟩
      | refine ⟨⟨by decide, by decide⟩, ?_⟩
      | refine ⟨⟨by decide, by decide, by decide⟩, ?_⟩
      | refine ⟨by decide, ?_⟩
      | refine ⟨(by show (0 : Int) < _; decide), ?_⟩
      | refine ⟨rfl, ?_⟩
      | refine ⟨⟨_, rfl⟩, ?_⟩
      | refine ⟨_, rfl, rfl, trivial, ?_⟩
      | refine ⟨_, _, rfl, ?_⟩))
    refine ⟨_, _, _, _, true, rfl, .ty _, Dp.ty (.str b), isi_e "str" "str" true rfl (by decide +kernel), ?_⟩
    (repeat (first
      | refine ⟨_, rfl, ?_⟩
      | refine ⟨_, _, rfl, rfl, ?_⟩
      | refine Or.inl ⟨_, rfl, ?_⟩
      | refine Or.inr ⟨_, rfl, ?_⟩
      | refine ⟨Or.inl ⟨by decide, by decide⟩, ?_⟩
      | refine ⟨Or.inr ⟨by decide, by decide⟩, ?_⟩
      | refine ⟨⟨by decide, by decide⟩, ?_⟩
      | refine ⟨⟨by decide, by decide, by decide⟩, ?_⟩
      | refine ⟨by decide, ?_⟩
      | refine ⟨(by show (0 : Int) < _; decide), ?_⟩
      | refine ⟨rfl, ?_⟩
      | refine ⟨⟨_, rfl⟩, ?_⟩
      | refine ⟨_, rfl, rfl, trivial, ?_⟩
      | refine ⟨_, _, rfl, ?_⟩))
    rw [decide_eq_true rfl]
    exact q
  | dict kvs => cases hx
  | list ds =>
    cases n with
    | zero => exact hsh.elim
    | succ n =>
    obtain ⟨hl, hsh⟩ := (show ds.length ≤ 1000000 ∧ ∀ x ∈ ds, Sh n x from hsh)
    have hx' := hx
    have hy' := hy
    cases hx with
    | @lst a xs _ hX hxs =>
    cases hy with
    | @lst b ys _ hY hys =>
    have lx := DpAll.len hxs
    have ly := DpAll.len hys
    (repeat (first
      | refine ⟨_, rfl, ?_⟩
      | refine ⟨_, _, rfl, rfl, ?_⟩
      | refine Or.inl ⟨_, rfl, ?_⟩
      | refine Or.inr ⟨_, rfl, ?_⟩
      | refine ⟨Or.inl ⟨by decide, by decide⟩, ?_⟩
      | refine ⟨Or.inr ⟨by decide, by decide⟩, ?_⟩
      | refine ⟨⟨by decide, by decide⟩, ?_⟩
      | refine ⟨⟨by decide, by decide, by decide⟩, ?_⟩
      | refine ⟨by decide, ?_⟩
      | refine ⟨(by show (0 : Int) < _; decide), ?_⟩
      | refine ⟨rfl, ?_⟩
      | refine ⟨⟨_, rfl⟩, ?_⟩
      | refine ⟨_, rfl, rfl, trivial, ?_⟩
      | refine ⟨_, _, rfl, ?_⟩))
    refine ⟨_, _, _, _, false, rfl, .ty _, Dp.ty hy', isi_e "list" "bool" false rfl (by decide +kernel), ?_⟩
    (repeat (first
      | refine ⟨_, rfl, ?_⟩
      | refine ⟨_, _, rfl, rfl, ?_⟩
      | refine Or.inl ⟨_, rfl, ?_⟩
      | refine Or.inr ⟨_, rfl, ?_⟩
      | refine ⟨Or.inl ⟨by decide, by decide⟩, ?_⟩
      | refine ⟨Or.inr ⟨by decide, by decide⟩, ?_⟩
      | refine ⟨⟨by decide, by decide⟩, ?_⟩
      | refine ⟨⟨by decide, by decide, by decide⟩, ?_⟩
      | refine ⟨by decide, ?_⟩
      | refine ⟨(by show (0 : Int) < _; decide), ?_⟩
      | refine ⟨rfl, ?_⟩
      | refine ⟨⟨_, rfl⟩, ?_⟩
      | refine ⟨_, rfl, rfl, trivial, ?_⟩
      | refine ⟨_, _, rfl, ?_⟩))
    refine ⟨_, _, _, _, false, rfl, .ty _, Dp.ty hy', isi_e "list" "int" false rfl (by decide +kernel), ?_⟩
    (repeat (first
      | refine ⟨_, rfl, ?_⟩
      | refine ⟨_, _, rfl, rfl, ?_⟩
      | refine Or.inl ⟨_, rfl, ?_⟩
      | refine Or.inr ⟨_, rfl, ?_⟩
      | refine ⟨Or.inl ⟨by decide, by decide⟩, ?_⟩
      | refine ⟨Or.inr ⟨by decide, by decide⟩, ?_⟩
      | refine ⟨⟨by decide, by decide⟩, ?_⟩
      | refine ⟨⟨by decide, by decide, by decide⟩, ?_⟩
      | refine ⟨by decide, ?_⟩
      | refine ⟨(by show (0 : Int) < _; decide), ?_⟩
      | refine ⟨rfl, ?_⟩
      | refine ⟨⟨_, rfl⟩, ?_⟩
      | refine ⟨_, rfl, rfl, trivial, ?_⟩
      | refine ⟨_, _, rfl, ?_⟩))
    refine ⟨_, _, _, _, false, rfl, .ty _, Dp.ty hy', isi_e "list" "str" false rfl (by decide +kernel), ?_⟩
    (repeat (first
      | refine ⟨_, rfl, ?_⟩
      | refine ⟨_, _, rfl, rfl, ?_⟩
      | refine Or.inl ⟨_, rfl, ?_⟩
      | refine Or.inr ⟨_, rfl, ?_⟩
      | refine ⟨Or.inl ⟨by decide, by decide⟩, ?_⟩
      | refine ⟨Or.inr ⟨by decide, by decide⟩, ?_⟩
      | refine ⟨⟨by decide, by decide⟩, ?_⟩
      | refine ⟨⟨by decide, by decide, by decide⟩, ?_⟩
      | refine ⟨by decide, ?_⟩
      | refine ⟨(by show (0 : Int) < _; decide), ?_⟩
      | refine ⟨rfl, ?_⟩
      | refine ⟨⟨_, rfl⟩, ?_⟩
      | refine ⟨_, rfl, rfl, trivial, ?_⟩
      | refine ⟨_, _, rfl, ?_⟩))
    refine ⟨_, _, _, _, false, rfl, .ty _, Dp.ty hy', isi_e "list" "tuple" false rfl (by decide +kernel), ?_⟩
    (repeat (first
      | refine ⟨_, rfl, ?_⟩
      | refine ⟨_, _, rfl, rfl, ?_⟩
      | refine Or.inl ⟨_, rfl, ?_⟩
      | refine Or.inr ⟨_, rfl, ?_⟩
      | refine ⟨Or.inl ⟨by decide, by decide⟩, ?_⟩
      | refine ⟨Or.inr ⟨by decide, by decide⟩, ?_⟩
      | refine ⟨⟨by decide, by decide⟩, ?_⟩
      | refine ⟨⟨by decide, by decide, by decide⟩, ?_⟩
      | refine ⟨by decide, ?_⟩
      | refine ⟨(by show (0 : Int) < _; decide), ?_⟩
      | refine ⟨rfl, ?_⟩
      | refine ⟨⟨_, rfl⟩, ?_⟩
      | refine ⟨_, rfl, rfl, trivial, ?_⟩
      | refine ⟨_, _, rfl, ?_⟩))
    refine ⟨_, _, _, _, true, rfl, .ty _, Dp.ty hy', isi_e "list" "list" true rfl (by decide +kernel), ?_⟩
    (repeat (first
      | refine ⟨_, rfl, ?_⟩
      | refine ⟨_, _, rfl, rfl, ?_⟩
      | refine Or.inl ⟨_, rfl, ?_⟩
      | refine Or.inr ⟨_, rfl, ?_⟩
      | refine ⟨Or.inl ⟨by decide, by decide⟩, ?_⟩
      | refine ⟨Or.inr ⟨by decide, by decide⟩, ?_⟩
      | refine ⟨⟨by decide, by decide⟩, ?_⟩
      | refine ⟨⟨by decide, by decide, by decide⟩, ?_⟩
      | refine ⟨by decide, ?_⟩
      | refine ⟨(by show (0 : Int) < _; decide), ?_⟩
      | refine ⟨rfl, ?_⟩
      | refine ⟨⟨_, rfl⟩, ?_⟩
      | refine ⟨_, rfl, rfl, trivial, ?_⟩
      | refine ⟨_, _, rfl, ?_⟩))
    refine ⟨_, _, _, _, true, rfl, .ty _, Dp.ty hx', isi_e "list" "list" true rfl (by decide +kernel), ?_⟩
    (repeat (first
      | refine ⟨_, rfl, ?_⟩
      | refine ⟨_, _, rfl, rfl, ?_⟩
      | refine Or.inl ⟨_, rfl, ?_⟩
      | refine Or.inr ⟨_, rfl, ?_⟩
      | refine ⟨Or.inl ⟨by decide, by decide⟩, ?_⟩
      | refine ⟨Or.inr ⟨by decide, by decide⟩, ?_⟩
      | refine ⟨⟨by decide, by decide⟩, ?_⟩
      | refine ⟨⟨by decide, by decide, by decide⟩, ?_⟩
      | refine ⟨by decide, ?_⟩
      | refine ⟨(by show (0 : Int) < _; decide), ?_⟩
      | refine ⟨rfl, ?_⟩
      | refine ⟨⟨_, rfl⟩, ?_⟩
      | refine ⟨_, rfl, rfl, trivial, ?_⟩
      | refine ⟨_, _, rfl, ?_⟩))
    refine ⟨a, _, rfl, .inl hX, _, rfl, b, _, rfl, .inl hY, rfl, ?_⟩
    (repeat (first
      | refine ⟨_, rfl, ?_⟩
      | refine ⟨_, _, rfl, rfl, ?_⟩
      | refine Or.inl ⟨_, rfl, ?_⟩
      | refine Or.inr ⟨_, rfl, ?_⟩
      | refine ⟨Or.inl ⟨by decide, by decide⟩, ?_⟩
      | refine ⟨Or.inr ⟨by decide, by decide⟩, ?_⟩
      | refine ⟨⟨by decide, by decide⟩, ?_⟩
      | refine ⟨⟨by decide, by decide, by decide⟩, ?_⟩
      | refine ⟨by decide, ?_⟩
      | refine ⟨(by show (0 : Int) < _; decide), ?_⟩
      | refine ⟨rfl, ?_⟩
      | refine ⟨⟨_, rfl⟩, ?_⟩
      | refine ⟨_, rfl, rfl, trivial, ?_⟩
      | refine ⟨_, _, rfl, ?_⟩))
    refine iteNS (by rw [lx, ly]) ?_
    refine ⟨_, rfl, b, _, rfl, .inl hY, _, rfl, by omega, by omega, ?_⟩
    have en : ((ys.length : Nat) : Int).toNat = ds.length := by rw [ly]; rfl
    rw [en]
    refine for_range (lo := 0) (n := ds.length) (fun j σ H' => ∃ (y2 : Option V), σ = [some (.ref a), some (.ref b), y2] ∧ H' = H) ⟨_, rfl, rfl⟩ ?_ ?_
    · rintro j σ H' hj ⟨y2, rfl, rfl⟩
      obtain ⟨u, v, d, eu, ev, du, dv, ds'⟩ := seq_equal hxs hys hsh j hj
      have e0 : (0 : Int) + (j : Int) = (j : Int) := Int.zero_add _
      rw [e0]
      refine ⟨_, rfl, _, rfl, .inl ⟨a, _, _, _, rfl, rfl, hX, atI_nat eu, ?_⟩⟩
      refine ⟨_, rfl, _, rfl, .inl ⟨b, _, _, _, rfl, rfl, hY, atI_nat ev, ?_⟩⟩
      refine ⟨n, rfl, u, v, d, rfl, du, dv, ds', ?_⟩
      refine ⟨_, rfl, ?_⟩
      refine ifF ?_
      exact ⟨_, rfl, rfl⟩
    · rintro σ H' ⟨y2, rfl, rfl⟩
      exact q
  | tuple ds =>
    cases n with
    | zero => exact hsh.elim
    | succ n =>
    obtain ⟨hl, hsh⟩ := (show ds.length ≤ 1000000 ∧ ∀ x ∈ ds, Sh n x from hsh)
    have hx' := hx
    have hy' := hy
    cases hx with
    | @tup a xs _ hX hxs =>
    cases hy with
    | @tup b ys _ hY hys =>
    have lx := DpAll.len hxs
    have ly := DpAll.len hys
    (repeat (first
      | refine ⟨_, rfl, ?_⟩
      | refine ⟨_, _, rfl, rfl, ?_⟩
      | refine Or.inl ⟨_, rfl, ?_⟩
      | refine Or.inr ⟨_, rfl, ?_⟩
      | refine ⟨Or.inl ⟨by decide, by decide⟩, ?_⟩
      | refine ⟨Or.inr ⟨by decide, by decide⟩, ?_⟩
      | refine ⟨⟨by decide, by decide⟩, ?_⟩
      | refine ⟨⟨by decide, by decide, by decide⟩, ?_⟩
      | refine ⟨by decide, ?_⟩
      | refine ⟨(by show (0 : Int) < _; decide), ?_⟩
      | refine ⟨rfl, ?_⟩
      | refine ⟨⟨_, rfl⟩, ?_⟩
      | refine ⟨_, rfl, rfl, trivial, ?_⟩
      | refine ⟨_, _, rfl, ?_⟩))
    refine ⟨_, _, _, _, false, rfl, .ty _, Dp.ty hy', isi_e "tuple" "bool" false rfl (by decide +kernel), ?_⟩
    (repeat (first
      | refine ⟨_, rfl, ?_⟩
      | refine ⟨_, _, rfl, rfl, ?_⟩
      | refine Or.inl ⟨_, rfl, ?_⟩
      | refine Or.inr ⟨_, rfl, ?_⟩
      | refine ⟨Or.inl ⟨by decide, by decide⟩, ?_⟩
      | refine ⟨Or.inr ⟨by decide, by decide⟩, ?_⟩
      | refine ⟨⟨by decide, by decide⟩, ?_⟩
      | refine ⟨⟨by decide, by decide, by decide⟩, ?_⟩
      | refine ⟨by decide, ?_⟩
      | refine ⟨(by show (0 : Int) < _; decide), ?_⟩
      | refine ⟨rfl, ?_⟩
      | refine ⟨⟨_, rfl⟩, ?_⟩
      | refine ⟨_, rfl, rfl, trivial, ?_⟩
      | refine ⟨_, _, rfl, ?_⟩))
    refine ⟨_, _, _, _, false, rfl, .ty _, Dp.ty hy', isi_e "tuple" "int" false rfl (by decide +kernel), ?_⟩
    (repeat (first
      | refine ⟨_, rfl, ?_⟩
      | refine ⟨_, _, rfl, rfl, ?_⟩
      | refine Or.inl ⟨_, rfl, ?_⟩
      | refine Or.inr ⟨_, rfl, ?_⟩
      | refine ⟨Or.inl ⟨by decide, by decide⟩, ?_⟩
      | refine ⟨Or.inr ⟨by decide, by decide⟩, ?_⟩
      | refine ⟨⟨by decide, by decide⟩, ?_⟩
      | refine ⟨⟨by decide, by decide, by decide⟩, ?_⟩
      | refine ⟨by decide, ?_⟩
      | refine ⟨(by show (0 : Int) < _; decide), ?_⟩
      | refine ⟨rfl, ?_⟩
      | refine ⟨⟨_, rfl⟩, ?_⟩
      | refine ⟨_, rfl, rfl, trivial, ?_⟩
      | refine ⟨_, _, rfl, ?_⟩))
    refine ⟨_, _, _, _, false, rfl, .ty _, Dp.ty hy', isi_e "tuple" "str" false rfl (by decide +kernel), ?_⟩
    (repeat (first
      | refine ⟨_, rfl, ?_⟩
      | refine ⟨_, _, rfl, rfl, ?_⟩
      | refine Or.inl ⟨_, rfl, ?_⟩
      | refine Or.inr ⟨_, rfl, ?_⟩
      | refine ⟨Or.inl ⟨by decide, by decide⟩, ?_⟩
      | refine ⟨Or.inr ⟨by decide, by decide⟩, ?_⟩
      | refine ⟨⟨by decide, by decide⟩, ?_⟩
      | refine ⟨⟨by decide, by decide, by decide⟩, ?_⟩
      | refine ⟨by decide, ?_⟩
      | refine ⟨(by show (0 : Int) < _; decide), ?_⟩
      | refine ⟨rfl, ?_⟩
      | refine ⟨⟨_, rfl⟩, ?_⟩
      | refine ⟨_, rfl, rfl, trivial, ?_⟩
      | refine ⟨_, _, rfl, ?_⟩))
    refine ⟨_, _, _, _, true, rfl, .ty _, Dp.ty hy', isi_e "tuple" "tuple" true rfl (by decide +kernel), ?_⟩
    (repeat (first
      | refine ⟨_, rfl, ?_⟩
      | refine ⟨_, _, rfl, rfl, ?_⟩
      | refine Or.inl ⟨_, rfl, ?_⟩
      | refine Or.inr ⟨_, rfl, ?_⟩
      | refine ⟨Or.inl ⟨by decide, by decide⟩, ?_⟩
      | refine ⟨Or.inr ⟨by decide, by decide⟩, ?_⟩
      | refine ⟨⟨by decide, by decide⟩, ?_⟩
      | refine ⟨⟨by decide, by decide, by decide⟩, ?_⟩
      | refine ⟨by decide, ?_⟩
      | refine ⟨(by show (0 : Int) < _; decide), ?_⟩
      | refine ⟨rfl, ?_⟩
      | refine ⟨⟨_, rfl⟩, ?_⟩
      | refine ⟨_, rfl, rfl, trivial, ?_⟩
      | refine ⟨_, _, rfl, ?_⟩))
    refine ⟨_, _, _, _, true, rfl, .ty _, Dp.ty hx', isi_e "tuple" "tuple" true rfl (by decide +kernel), ?_⟩
    (repeat (first
      | refine ⟨_, rfl, ?_⟩
      | refine ⟨_, _, rfl, rfl, ?_⟩
      | refine Or.inl ⟨_, rfl, ?_⟩
      | refine Or.inr ⟨_, rfl, ?_⟩
      | refine ⟨Or.inl ⟨by decide, by decide⟩, ?_⟩
      | refine ⟨Or.inr ⟨by decide, by decide⟩, ?_⟩
      | refine ⟨⟨by decide, by decide⟩, ?_⟩
      | refine ⟨⟨by decide, by decide, by decide⟩, ?_⟩
      | refine ⟨by decide, ?_⟩
      | refine ⟨(by show (0 : Int) < _; decide), ?_⟩
      | refine ⟨rfl, ?_⟩
      | refine ⟨⟨_, rfl⟩, ?_⟩
      | refine ⟨_, rfl, rfl, trivial, ?_⟩
      | refine ⟨_, _, rfl, ?_⟩))
    refine ⟨_, _, _, _, false, rfl, .ty _, Dp.ty hy', isi_e "tuple" "list" false rfl (by decide +kernel), ?_⟩
    (repeat (first
      | refine ⟨_, rfl, ?_⟩
      | refine ⟨_, _, rfl, rfl, ?_⟩
      | refine Or.inl ⟨_, rfl, ?_⟩
      | refine Or.inr ⟨_, rfl, ?_⟩
      | refine ⟨Or.inl ⟨by decide, by decide⟩, ?_⟩
      | refine ⟨Or.inr ⟨by decide, by decide⟩, ?_⟩
      | refine ⟨⟨by decide, by decide⟩, ?_⟩
      | refine ⟨⟨by decide, by decide, by decide⟩, ?_⟩
      | refine ⟨by decide, ?_⟩
      | refine ⟨(by show (0 : Int) < _; decide), ?_⟩
      | refine ⟨rfl, ?_⟩
      | refine ⟨⟨_, rfl⟩, ?_⟩
      | refine ⟨_, rfl, rfl, trivial, ?_⟩
      | refine ⟨_, _, rfl, ?_⟩))
    refine ⟨a, _, rfl, .inr hX, _, rfl, b, _, rfl, .inr hY, rfl, ?_⟩
    (repeat (first
      | refine ⟨_, rfl, ?_⟩
      | refine ⟨_, _, rfl, rfl, ?_⟩
      | refine Or.inl ⟨_, rfl, ?_⟩
      | refine Or.inr ⟨_, rfl, ?_⟩
      | refine ⟨Or.inl ⟨by decide, by decide⟩, ?_⟩
      | refine ⟨Or.inr ⟨by decide, by decide⟩, ?_⟩
      | refine ⟨⟨by decide, by decide⟩, ?_⟩
      | refine ⟨⟨by decide, by decide, by decide⟩, ?_⟩
      | refine ⟨by decide, ?_⟩
      | refine ⟨(by show (0 : Int) < _; decide), ?_⟩
      | refine ⟨rfl, ?_⟩
      | refine ⟨⟨_, rfl⟩, ?_⟩
      | refine ⟨_, rfl, rfl, trivial, ?_⟩
      | refine ⟨_, _, rfl, ?_⟩))
    refine iteNS (by rw [lx, ly]) ?_
    refine ⟨_, rfl, b, _, rfl, .inr hY, _, rfl, by omega, by omega, ?_⟩
    have en : ((ys.length : Nat) : Int).toNat = ds.length := by rw [ly]; rfl
    rw [en]
    refine for_range (lo := 0) (n := ds.length) (fun j σ H' => ∃ (y2 : Option V), σ = [some (.ref a), some (.ref b), y2] ∧ H' = H) ⟨_, rfl, rfl⟩ ?_ ?_
    · rintro j σ H' hj ⟨y2, rfl, rfl⟩
      obtain ⟨u, v, d, eu, ev, du, dv, ds'⟩ := seq_equal hxs hys hsh j hj
      have e0 : (0 : Int) + (j : Int) = (j : Int) := Int.zero_add _
      rw [e0]
      refine ⟨_, rfl, _, rfl, .inr ⟨a, _, _, _, rfl, rfl, hX, atI_nat eu, ?_⟩⟩
      refine ⟨_, rfl, _, rfl, .inr ⟨b, _, _, _, rfl, rfl, hY, atI_nat ev, ?_⟩⟩
      refine ⟨n, rfl, u, v, d, rfl, du, dv, ds', ?_⟩
      refine ⟨_, rfl, ?_⟩
      refine ifF ?_
      exact ⟨_, rfl, rfl⟩
    · rintro σ H' ⟨y2, rfl, rfl⟩
      exact q
theorem ok_law_equal (T : Top K mg w) : ∀ n : Nat, FnOk P w K mg base CX0 (n + 1) T.a_law_equal T.d_law_equal ["actual", "due"] (sp_law_equal K n)
  | 0 => step_law_equal T 0 0 fun m h => by omega
  | n + 1 => step_law_equal T (n + 1) (n + 1) fun m h => by
    have e : m = n := by omega
    subst e
    exact ok_law_equal T m
end
end My

namespace My
open PySem PySem.Spec PyProof.Rows L2
/-! ### del xs[k:] of a list -/
/-- what stays behind del xs[a:] -/
def leftOf (a n : Nat) (xs : Array Value) : Array Value :=
  (xs.toList.zipIdx.filterMap fun p => if (if (1 : Int) > 0 then decide ((a : Int) ≤ p.2) && decide ((p.2 : Int) < n) && ((p.2 : Int) - a) % 1 == 0 else decide ((n : Int) < p.2) && decide ((p.2 : Int) ≤ a) && ((a : Int) - p.2) % (-1) == 0) = true then none else some p.1).toArray
theorem leftOf_list (a : Nat) : ∀ (xs : List Value) (j n : Nat), j + xs.length ≤ n →
    (xs.zipIdx j).filterMap (fun p : Value × Nat => if (if (1 : Int) > 0 then decide ((a : Int) ≤ p.2) && decide ((p.2 : Int) < n) && ((p.2 : Int) - a) % 1 == 0 else decide ((n : Int) < p.2) && decide ((p.2 : Int) ≤ a) && ((a : Int) - p.2) % (-1) == 0) = true then none else some p.1) = xs.take (a - j)
  | [], j, n, _ => by simp
  | x :: r, j, n, h => by
    rw [List.length_cons] at h
    rw [List.zipIdx_cons, List.filterMap_cons]
    have ih := leftOf_list a r (j + 1) n (by omega)
    rw [ih]
    simp only [show (1 : Int) > 0 by decide, if_true]
    by_cases hj : a ≤ j
    · have c : (decide ((a : Int) ≤ (j : Int)) && decide ((j : Int) < (n : Int)) && ((j : Int) - a) % 1 == 0) = true := by
        rw [decide_eq_true (by omega), decide_eq_true (by omega)]
        simp
      rw [if_pos c, show a - j = 0 by omega, show a - (j + 1) = 0 by omega]
      rfl
    · have c : ¬ (decide ((a : Int) ≤ (j : Int)) && decide ((j : Int) < (n : Int)) && ((j : Int) - a) % 1 == 0) = true := by
        rw [decide_eq_false (by omega)]
        simp
      rw [if_neg c, show a - j = (a - (j + 1)) + 1 by omega, List.take_succ_cons]
theorem bounds_from {a n : Nat} (h : a ≤ n) : sliceBounds (some (a : Int)) none none n = ((a : Int), (n : Int), 1) := by
  unfold sliceBounds
  simp only [Option.getD_none]
  rw [if_pos (by decide), if_neg (show ¬ ((a : Int) < 0) by omega)]
  congr 1
  omega
section
variable {prog : Program} {w : World} {A : Around} {E : Value → Shared → Prop} {s : Shared}
set_option maxRecDepth 100000 in
theorem delItem_from {l sl : Addr} {items : Array Value} {n : Nat} {vl : Value} {a : Nat} {Q : Unit → Shared → Prop}
    (e : s.heap.get? l = some { cls := .type "list", data := .seq items n })
    (hs : s.heap.IsSliceOf sl vl .none .none) (pl : IsPart vl (some (a : Int))) (ha : a ≤ items.size)
    (hsz : items.size ≤ sizeLine) (h : Q () { s with heap := s.heap.update l (Obj.mapSeq (leftOf a items.size)) }) :
    wpAny (model prog w) A (delItem (.ref l) (.ref sl)) Q E s := by
  have hl : s.heap.IsList l items := PySem.IsL.isList e
  obtain ⟨os, hos, hcs, hds⟩ := id hs
  have hTs : s.TypeIs (.ref sl) "slice" := ⟨os, hos, hcs⟩
  have hstep : ¬ ((rawPart none == rawInt 0) = true) := Bool.false_ne_true
  unfold delItem
  try with_reducible refine wpAny_holding ?_
  first | refine wpAny_bind (wpAny_pure ?_) | skip
  refine wpAny_bind (wpAny_sequenceKey hl.typeIs (by decide) ?_)
  refine wpAny_bind (wpAny_callSpecial?_slot (name := Str.ofString "__delitem__") hl.typeIs F.slot_list_delitem
    (wpAny_call_entry F.slot_list_delitem hl.typeIs F.entry_list_delitem ?_ (F.args_list_delitem_2 _ _)))
  show wpAny _ _ (Builtin.List.listSubscript? (.ref sl) >>= _) _ _ s
  refine wpAny_bind ?_
  unfold Builtin.List.listSubscript?
  refine wpAny_bind (wpAny_specialOf hTs slice_no_index ?_)
  simp only [Option.isNone_none, if_true]
  refine wpAny_pure ?_
  show wpAny _ _ (typeOf (.ref sl) >>= _) _ _ s
  refine wpAny_bind (wpAny_typeOf hTs ?_)
  first
    | rw [if_neg (by decide)]
    | refine PySem.W.KFB.if_not (by decide) ?_
  rw [listSliceParts_eq]
  refine wpAny_bind (wpAny_bind (wpAny_field hos hds (x := .none) rfl (wpAny_bind (wpAny_listPart .none ?_))))
  rw [if_neg hstep]
  refine wpAny_bind (wpAny_field hos hds (x := vl) rfl (wpAny_bind (wpAny_listPart pl ?_)))
  refine wpAny_bind (wpAny_field hos hds (x := .none) rfl (wpAny_bind (wpAny_listPart .none (wpAny_pure ?_))))
  unfold Builtin.List.listItems
  refine wpAny_bind (wpAny_bind (wpAny_seqItems e rfl (wpAny_pure ?_)))
  refine wpAny_bind (wpAny_of_eq ((sliceIndices_raw (some (a : Int)) none none items.size (by simp)).trans (congrArg (pure : Int × Int × Int → Sem (Int × Int × Int)) (bounds_from ha))) ?_)
  refine wpAny_bind (wpAny_rule ?_)
  have hz' : (leftOf a items.size items).size ≤ sizeLine + 1 := by
    unfold leftOf
    have e1 := leftOf_list a items.toList 0 items.size (by rw [Array.length_toList]; omega)
    rw [e1]
    simp only [List.size_toArray, List.length_take, Array.length_toList]
    omega
  show wpAny _ _ (updateSeq l (leftOf a items.size) >>= _) _ _ s
  refine wpAny_bind (wpAny_updateSeq (hz := hsz) (_hz' := hz') e rfl ?_)
  refine wpAny_bind (wpAny_letGo ?_)
  first
    | exact wpAny_bind (wpAny_pure (wpAny_pure ⟨.none, rfl, wpAny_pure h⟩))
    | exact wpAny_pure ⟨.none, rfl, wpAny_pure h⟩
end
section
variable {X : Cx}
/-- del xs[k:] -/
def tDelFrom (to ti : TE) : TS := fun D σ H => to σ H fun x H1 => ti σ H1 fun y H2 => ∃ (l : Addr) (xs : List V) (k : Nat), x = .ref l ∧ y = .int (k : Int) ∧ k ≤ xs.length ∧ H2 l = some (.lst xs) ∧ D.nx σ (upd H2 l (.lst (xs.take k)))
theorem ps_delFrom {o lo : Expr} {to tl : TE} {pos tpos p2 : Pos} (ho : PE X o to) (hl : PE X lo tl) : PS X (.Delete [.Subscript o (.Slice (some lo) none none p2) tpos] pos) (tDelFrom to tl) := by
  refine ⟨fun pins s σ H D I h => ?_⟩
  refine wpAny_Delete (wpAny_deleteEach_cons (wpAny_delete_Subscript (thn (ho.run pins s σ H _ I h) fun u s1 ⟨x, H1, I1, rx, q1⟩ => ?_)))
  refine wpAny_Slice (thn (hl.run pins s1 σ H1 _ I1 q1) fun vl s2 ⟨y, H2, I2, ry, q2⟩ => ?_)
  rw [evalPart_none]
  refine wpAny_pure ?_
  refine wpAny_pure ?_
  obtain ⟨l, xs, k, ex, ey, hk, hH, q2⟩ := q2
  subst ex
  subst ey
  cases (show u = Value.ref l from rx)
  obtain ⟨t, rfl⟩ := (show ∃ t, vl = Value.int (k : Int) t from ry)
  have I4 : Inv X pins σ H2 { s2 with heap := s2.heap.push { cls := .type "slice", data := .fields #[.int (k : Int) t, .none, .none] } } := I2.kept (t' := s2.toks) fun b ob q => Heap.get?_push_of_some _ q
  obtain ⟨z, its, n, r, hlen, e⟩ := I4.lstM hH
  refine delItem_from (a := k) e (Heap.IsSliceOf.new ..) (.int _ _) (by rw [List.size_toArray, ← hlen]; exact hk) (by rw [List.size_toArray]; omega) ?_
  refine wpAny_deleteEach_nil ⟨σ, upd H2 l (.lst (xs.take k)), ?_, q2⟩
  refine I4.lset (its' := its.take k) (t' := s2.toks) hH e ?_ (r.take k) (by rw [List.length_take]; omega)
  unfold leftOf
  have e1 := leftOf_list k its 0 its.toArray.size (by rw [List.size_toArray]; omega)
  rw [show its.toArray.toList = its from rfl, e1]
  rfl
end
end My

namespace My
open PySem PySem.Spec PyProof.Rows L2 NumText TL
/-! ### rules -/
theorem call_str_any {X : Cx} : CallR X (.type "str") (fun xs H Q => (∃ a, xs = [.str a] ∧ Q (.str a) H) ∨ ∃ i, xs = [.int i] ∧ i.natAbs.log2 < 1920 ∧ Q (.str (toString i)) H) := by
  intro pins s σ H xs us Q I r h
  rcases h with h | h
  · exact SkE.call_str_str pins s σ H xs us Q I r h
  · exact call_str_int pins s σ H xs us Q I r h
theorem sw3 {x y : Str} (hy : tl y ≠ []) (i : Nat) : Txt.startswith3 x y (i : Int) = pre (tl y) ((tl x).drop i) := by
  have h := at_iff (x := x) hy i
  have e : Txt.startswith3 x y (i : Int) = true ↔ PySem.StrLaws.At x y x.length i := by
    unfold Txt.startswith3 PySem.StrLaws.At
    have e0 : PySem.fromIndex x.length (i : Int) = i := by
      unfold PySem.fromIndex
      rw [if_neg (by omega)]
      omega
    rw [e0, Bool.and_eq_true, decide_eq_true_iff]
  cases hp : pre (tl y) ((tl x).drop i) with
  | true => exact e.mpr (h.mpr hp)
  | false =>
    cases hs : Txt.startswith3 x y (i : Int) with
    | false => rfl
    | true => rw [h.mp (e.mp hs)] at hp; cases hp
section
variable {P : Program} {w : World} {K : PySem.W.Frag} {mg : Str → Option Value} {base : Heap}
/-! ### _behind_marks -/
def sp_behind_marks : Sp := fun vs H Q _ => ∃ (x : Str) (a : Nat), vs = [.str x, .int (a : Int)] ∧ x.length ≤ 100000 ∧ a ≤ x.length ∧ ∀ n : Nat, n ≤ x.length → (tl x).drop n = beh ((tl x).drop a) → Q (.int (n : Int)) H
theorem ok_behind_marks (T : Top K mg w) : FnOk P w K mg base CX0 1 T.a_behind_marks T.d_behind_marks ["text", "at"] sp_behind_marks := by
  refine T.F_behind_marks.ok sc_behind_marks (fun vs H Q E h => ?_) (fun cdv A outer s H vs Q E hr h => ?_)
  · obtain ⟨x, a, rfl, _⟩ := h
    rfl
  obtain ⟨x, a, rfl, hx, ha, q⟩ := h
  have hl := tl_len x
  refine ⟨_, (pss_cons (ps_while PassesOwn.never (PW.pt (pw_and (pt_cmpR op_lt (pv 1) (pe_callB call_len_str (by rfl) T.z_len (by decide +kernel) (pa_cons (pv 0) pa_nil)) (nomark _)) (pw_and1 (pt_cmpR op_inS (pe_ix ix_str (pv 0) (pv 1) (fun _ _ => rfl)) pe_str (by rfl)))))
        (pss_one (ps_aug (i := 1) sc_behind_marks.nd rfl (Or.inl rfl) pe_int ip_add)))
      (pss_one (ps_ret (pv 1)))), ?_⟩
  refine ⟨fun m σ H' => ∃ n : Nat, σ = [some (.str x), some (.int (n : Int))] ∧ H' = H ∧ n ≤ x.length ∧ m = x.length - n ∧ beh ((tl x).drop n) = beh ((tl x).drop a), ⟨_, a, rfl, rfl, ha, rfl, rfl⟩, ?_⟩
  rintro m σ H' ⟨n, rfl, rfl, hn, rfl, hb⟩
  have fin : (tl x).drop n = beh ((tl x).drop n) → Q (.int (n : Int)) H' := fun e => q n hn (e.trans hb)
  refine ⟨_, rfl, _, rfl, x, rfl, small hx, ?_⟩
  (repeat (first
      | refine ⟨_, rfl, ?_⟩
      | refine ⟨_, _, rfl, rfl, ?_⟩
      | refine Or.inl ⟨_, rfl, ?_⟩
      | refine Or.inr ⟨_, rfl, ?_⟩
      | refine ⟨Or.inl ⟨by decide, by decide⟩, ?_⟩
      | refine ⟨Or.inr ⟨by decide, by decide⟩, ?_⟩
      | refine ⟨⟨by decide, by decide⟩, ?_⟩
      | refine ⟨⟨by decide, by decide, by decide⟩, ?_⟩
      | refine ⟨by decide, ?_⟩
      | refine ⟨(by show (0 : Int) < _; decide), ?_⟩
      | refine ⟨rfl, ?_⟩
      | refine ⟨⟨_, rfl⟩, ?_⟩
      | refine ⟨_, rfl, rfl, trivial, ?_⟩
      | refine ⟨_, _, rfl, ?_⟩))
  refine ite_dec (fun c => ?_) (fun c => ?_)
  · have c' : n < (tl x).length := by omega
    have hd : (tl x).drop n = (tl x)[n] :: (tl x).drop (n + 1) := List.drop_eq_getElem_cons c'
    refine ⟨_, rfl, _, rfl, x, _, (tl x)[n], rfl, rfl, small hx, atI_nat (List.getElem?_eq_getElem c'), ?_⟩
    refine ⟨_, _, rfl, rfl, ?_⟩
    have em : decide ((tl x)[n] ∈ (Str.ofString "),").cps.toList) = mk (tl x)[n] := by
      have e0 : (Str.ofString "),").cps.toList = [41, 44] := rfl
      rw [e0]
      unfold mk
      simp
    rw [em]
    refine ⟨_, rfl, ?_⟩
    refine ite_b (fun hm => ?_) (fun hm => ?_)
    · refine ⟨fun σ' H'' => ∃ m', m' < x.length - n ∧ ∃ n' : Nat, σ' = [some (.str x), some (.int (n' : Int))] ∧ H'' = H' ∧ n' ≤ x.length ∧ m' = x.length - n' ∧ beh ((tl x).drop n') = beh ((tl x).drop a), fun σ' H' h => h, ?_⟩
      (repeat (first
      | refine ⟨_, rfl, ?_⟩
      | refine ⟨_, _, rfl, rfl, ?_⟩
      | refine Or.inl ⟨_, rfl, ?_⟩
      | refine Or.inr ⟨_, rfl, ?_⟩
      | refine ⟨Or.inl ⟨by decide, by decide⟩, ?_⟩
      | refine ⟨Or.inr ⟨by decide, by decide⟩, ?_⟩
      | refine ⟨⟨by decide, by decide⟩, ?_⟩
      | refine ⟨⟨by decide, by decide, by decide⟩, ?_⟩
      | refine ⟨by decide, ?_⟩
      | refine ⟨(by show (0 : Int) < _; decide), ?_⟩
      | refine ⟨rfl, ?_⟩
      | refine ⟨⟨_, rfl⟩, ?_⟩
      | refine ⟨_, rfl, rfl, trivial, ?_⟩
      | refine ⟨_, _, rfl, ?_⟩))
      refine ⟨x.length - (n + 1), by omega, n + 1, rfl, rfl, by omega, rfl, ?_⟩
      rw [← hb, hd]
      show _ = if mk _ = true then _ else _
      rw [if_pos hm]
    · refine ⟨_, rfl, fin ?_⟩
      rw [hd]
      show _ = if mk _ = true then _ else _
      rw [if_neg (by rw [hm]; decide)]
  · refine ⟨_, rfl, fin ?_⟩
    rw [List.drop_eq_nil_of_le (by omega)]
    rfl
/-! ### _opening_at -/
def kS (kvs : List (Key × V)) (ks : List Str) : Prop := kvs.map (·.1) = ks.map Sum.inr
def sp_opening_at : Sp := fun vs H Q _ => ∃ (x : Str) (a : Nat) (d : Addr) (kvs : List (Key × V)) (ks : List Str), vs = [.str x, .int (a : Int), .ref d] ∧ x.length ≤ 100000 ∧ a ≤ x.length ∧ H d = some (.dK kvs) ∧ kS kvs ks ∧ (∀ k ∈ ks, tl k ≠ []) ∧
  match ks.find? fun k => pre (tl k) ((tl x).drop a) with
  | some k => Q (.str k) H
  | none => Q .non H
theorem ok_opening_at (T : Top K mg w) : FnOk P w K mg base CX0 1 T.a_opening_at T.d_opening_at ["text", "at", "openings"] sp_opening_at := by
  refine T.F_opening_at.ok sc_opening_at (fun vs H Q E h => ?_) (fun cdv A outer s H vs Q E hr h => ?_)
  · obtain ⟨x, a, d, kvs, ks, rfl, _⟩ := h
    rfl
  obtain ⟨x, a, d, kvs, ks, rfl, hx, ha, hd, hk, hne, q⟩ := h
  refine ⟨_, (pss_cons (ps_lock (ps_for PassesOwn.never rfl (pi_keys (pv 2)) (pg_name (i := 3) sc_opening_at.nd rfl (Or.inl rfl))
        (pss_one (ps_if (pt_val (pe_bm PySem.F.plainAttrs_str PySem.F.slot_str_startswith PySem.F.type_str_startswith mt_startswith3 (pv 0) (pa_cons (pv 3) (pa_cons (pv 1) pa_nil))))
        (pss_one (ps_ret (pv 3)))
        pss_nil))))
      (pss_one (ps_ret pe_non))), ?_⟩
  refine ⟨d, _, hd, trivial, fun od => ?_⟩
  have back : upd (upd H d (.frz od (.dK kvs))) d (.dK kvs) = H := by
    rw [upd_upd]
    funext b
    by_cases hb : b = d
    · subst hb
      rw [upd_same, hd]
    · rw [upd_ne hb]
  refine ⟨_, rfl, d, od, rfl, .inl ⟨kvs, upd_same, for_it walk_keys (fun i σ H' => ∃ y3, σ = [some (.str x), some (.int (a : Int)), some (.ref d), y3] ∧ H' = upd H d (.frz od (.dK kvs)) ∧ (ks.take i).find? (fun k => pre (tl k) ((tl x).drop a)) = none) ?_ ?_ ?_ ?_⟩⟩
  · exact ⟨none, rfl, rfl, rfl⟩
  · rintro i σ H' hi ⟨y3, rfl, rfl, hf⟩
    exact upd_same
  · rintro i x' σ H' H'' hi ⟨y3, rfl, rfl, hf⟩ ⟨rfl, k, v, hk', rfl⟩
    have e1 : (kvs.map (·.1))[i]? = some k := by rw [List.getElem?_map, hk']; rfl
    rw [hk, List.getElem?_map] at e1
    obtain ⟨k0, hk0, rfl⟩ : ∃ k0, ks[i]? = some k0 ∧ k = Sum.inr k0 := by
      cases e : ks[i]? with
      | none => rw [e] at e1; cases e1
      | some k0 => rw [e] at e1; exact ⟨k0, rfl, (Option.some.inj e1).symm⟩
    have mem := List.mem_of_getElem? hk0
    (repeat (first
      | refine ⟨_, rfl, ?_⟩
      | refine ⟨_, _, rfl, rfl, ?_⟩
      | refine Or.inl ⟨_, rfl, ?_⟩
      | refine Or.inr ⟨_, rfl, ?_⟩
      | refine ⟨Or.inl ⟨by decide, by decide⟩, ?_⟩
      | refine ⟨Or.inr ⟨by decide, by decide⟩, ?_⟩
      | refine ⟨⟨by decide, by decide⟩, ?_⟩
      | refine ⟨⟨by decide, by decide, by decide⟩, ?_⟩
      | refine ⟨by decide, ?_⟩
      | refine ⟨(by show (0 : Int) < _; decide), ?_⟩
      | refine ⟨rfl, ?_⟩
      | refine ⟨⟨_, rfl⟩, ?_⟩
      | refine ⟨_, rfl, rfl, trivial, ?_⟩
      | refine ⟨_, _, rfl, ?_⟩))
    refine ⟨x, k0, (a : Int), rfl, rfl, ?_⟩
    rw [sw3 (hne k0 mem)]
    refine ⟨_, rfl, ?_⟩
    refine ite_b (fun hp => ?_) (fun hp => ?_)
    · refine ⟨_, rfl, upd_same, ?_⟩
      rw [back]
      have e : ks.find? (fun k => pre (tl k) ((tl x).drop a)) = some k0 := by
        have e2 : ks = ks.take i ++ k0 :: ks.drop (i + 1) := by
          have h1 := (List.getElem?_eq_some_iff.mp hk0)
          obtain ⟨h2, h3⟩ := h1
          rw [← h3, ← List.drop_eq_getElem_cons h2, List.take_append_drop]
        rw [e2, List.find?_append, hf, List.find?_cons, hp]
        rfl
      rw [e] at q
      exact q
    · refine ⟨_, rfl, rfl, ?_⟩
      have h1 := (List.getElem?_eq_some_iff.mp hk0)
      obtain ⟨h2, h3⟩ := h1
      rw [List.take_succ_eq_append_getElem h2, List.find?_append, hf, h3, List.find?_cons, hp]
      rfl
  · rintro σ H' ⟨y3, rfl, rfl, hf⟩
    refine ⟨upd_same, ?_⟩
    rw [back]
    have hlen : kvs.length = ks.length := by
      have := congrArg List.length hk
      rw [List.length_map, List.length_map] at this
      exact this
    rw [hlen, List.take_length] at hf
    rw [hf] at q
    exact q
end
end My

namespace My
open PySem PySem.Spec PyProof.Rows L2 NumText TL
/-! ### heaps: tuples stay -/
def TX (K : PySem.W.Frag) (H H' : Hp) : Prop := ∀ a xs, SqT K H a xs → SqT K H' a xs
theorem TX.refl {K : PySem.W.Frag} (H : Hp) : TX K H H := fun _ _ h => h
theorem TX.trans {K : PySem.W.Frag} {H H1 H2 : Hp} (a : TX K H H1) (b : TX K H1 H2) : TX K H H2 := fun p xs h => b p xs (a p xs h)
theorem TX.same {K : PySem.W.Frag} {H H' : Hp} (e : L2.Same H H') : TX K H H' := fun _ _ h => My.Same.sqT e h
theorem TX.at {K : PySem.W.Frag} {H : Hp} {p : Addr} {o o' : HO} (h : H p = some o') (ht : ∀ xs, o' ≠ .tup xs) (hf : ∀ k u, o' ≠ .frz k u) : TX K H (upd H p o) := fun a xs q => by
  rcases q with (q | ⟨k, q⟩) | q
  · by_cases e : a = p
    · subst e; rw [h] at q; exact absurd (Option.some.inj q) (ht xs)
    · exact .inl (.inl (by rw [upd_ne e]; exact q))
  · by_cases e : a = p
    · subst e; rw [h] at q; exact absurd (Option.some.inj q) (hf k _)
    · exact .inl (.inr ⟨k, by rw [upd_ne e]; exact q⟩)
  · exact .inr q
theorem TX.lst {K : PySem.W.Frag} {H : Hp} {p : Addr} {xs : List V} {o : HO} (h : H p = some (.lst xs)) : TX K H (upd H p o) := TX.at h (fun _ e => by cases e) (fun _ _ e => by cases e)
theorem TX.dK {K : PySem.W.Frag} {H : Hp} {p : Addr} {xs : List (Key × V)} {o : HO} (h : H p = some (.dK xs)) : TX K H (upd H p o) := TX.at h (fun _ e => by cases e) (fun _ _ e => by cases e)
theorem TX.new {K : PySem.W.Frag} {H : Hp} {p : Addr} {o : HO} (h : H p = none) : TX K H (upd H p o) := TX.same (same_upd h)
mutual
theorem Dp.tx {K : PySem.W.Frag} {H H' : Hp} (e : TX K H H') : ∀ {d : PyData} {x : V}, Dp K H x d → tr d = true → Dp K H' x d
  | _, _, .non, _ => .non
  | _, _, .bl b, _ => .bl b
  | _, _, .int b, _ => .int b
  | _, _, .str b, _ => .str b
  | _, _, .lst h t, ht => by rw [tr] at ht <;> first | cases ht | (intros; rename_i h2; cases h2)
  | _, _, .tup h t, ht => .tup (e _ _ h) (DpAll.tx e t (by rw [tr, Bool.and_eq_true] at ht; exact ht.2))
theorem DpAll.tx {K : PySem.W.Frag} {H H' : Hp} (e : TX K H H') : ∀ {ds : List PyData} {xs : List V}, DpAll K H xs ds → trL ds = true → DpAll K H' xs ds
  | _, _, .nil, _ => .nil
  | _, _, .cons h t, ht => .cons (Dp.tx e h (by rw [trL, Bool.and_eq_true] at ht; exact ht.1)) (DpAll.tx e t (by rw [trL, Bool.and_eq_true] at ht; exact ht.2))
end
/-! ### forms -/
def FO (K : PySem.W.Frag) (H : Hp) (v : V) (r : Row) : Prop := ∃ p q, v = .ref p ∧ SqT K H p [.ref q, .int (r.2.2 : Int)] ∧ Dp K H (.ref q) (.tuple r.2.1) ∧ tr (.tuple r.2.1) = true
theorem FO.tx {K : PySem.W.Frag} {H H' : Hp} {v : V} {r : Row} (e : TX K H H') (h : FO K H v r) : FO K H' v r := by
  obtain ⟨p, q, h1, h2, h3, h4⟩ := h
  exact ⟨p, q, h1, e _ _ h2, Dp.tx e h3 h4, h4⟩
def Rk (K : PySem.W.Frag) (H : Hp) (kv : Key × V) (r : Row) : Prop := kv.1 = Sum.inr r.1 ∧ FO K H kv.2 r
theorem pmono {α β : Type} {R R' : α → β → Prop} (f : ∀ a b, R a b → R' a b) : ∀ {xs : List α} {ys : List β}, Paired R xs ys → Paired R' xs ys
  | _, _, .nil => .nil
  | _, _, .cons r t => .cons (f _ _ r) (pmono f t)
theorem papp {α β : Type} {R : α → β → Prop} : ∀ {xs xs' : List α} {ys ys' : List β}, Paired R xs ys → Paired R xs' ys' → Paired R (xs ++ xs') (ys ++ ys')
  | _, _, _, _, .nil, s => s
  | _, _, _, _, .cons r t, s => .cons r (papp t s)
def putR (tb : List Row) (r : Row) : List Row := if (tb.any fun x => decide (x.1 = r.1)) = true then tb.map (fun x => if x.1 = r.1 then (x.1, r.2) else x) else tb ++ [r]
def tabN (ns : List Str) : List Row := ns.foldl (fun tb x => putR tb (isR x)) tab0
theorem tabN_snoc (ns : List Str) (x : Str) : tabN (ns ++ [x]) = putR (tabN ns) (isR x) := by
  unfold tabN
  rw [List.foldl_append]
  rfl
theorem rk_any {K : PySem.W.Frag} {H : Hp} {k : Str} : ∀ {kvs : List (Key × V)} {tb : List Row}, Paired (Rk K H) kvs tb → (kvs.any fun kv => decide (kv.1 = Sum.inr k)) = tb.any fun x => decide (x.1 = k)
  | _, _, .nil => rfl
  | _, _, .cons (a := a) (b := b) r t => by
    rw [List.any_cons, List.any_cons, rk_any t, r.1]
    congr 1
    by_cases e : b.1 = k
    · rw [decide_eq_true e, decide_eq_true (congrArg Sum.inr e)]
    · rw [decide_eq_false e, decide_eq_false (fun h => e (Sum.inr.inj h))]
theorem putR_paired {K : PySem.W.Frag} {H : Hp} {v : V} {r : Row} {kvs : List (Key × V)} {tb : List Row} (h : Paired (Rk K H) kvs tb) (hv : FO K H v r) : Paired (Rk K H) (putK kvs (Sum.inr r.1) v) (putR tb r) := by
  unfold putK putR
  rw [rk_any h]
  by_cases c : (tb.any fun x => decide (x.1 = r.1)) = true
  · rw [if_pos c, if_pos c]
    clear c
    induction h with
    | nil => exact .nil
    | @cons a b as bs q t ih =>
      refine .cons ?_ ih
      show Rk K H (if a.1 = Sum.inr r.1 then (a.1, v) else a) (if b.1 = r.1 then (b.1, r.2) else b)
      by_cases e : b.1 = r.1
      · rw [if_pos e, if_pos (by rw [q.1, e])]
        exact ⟨q.1, hv⟩
      · rw [if_neg e, if_neg (fun z => e (Sum.inr.inj (q.1.symm.trans z)))]
        exact q
  · rw [if_neg c, if_neg c]
    exact papp h (.cons ⟨rfl, hv⟩ .nil)
theorem putR_mem {tb : List Row} {r x : Row} (h : x ∈ putR tb r) : x ∈ tb ∨ x = r := by
  unfold putR at h
  split at h
  · obtain ⟨y, hy, e⟩ := List.mem_map.mp h
    by_cases c : y.1 = r.1
    · rw [if_pos c] at e
      right
      rw [← e, c]
    · rw [if_neg c] at e
      left
      rw [← e]
      exact hy
  · rcases List.mem_append.mp h with h | h
    · exact .inl h
    · exact .inr (List.mem_singleton.mp h)
theorem putR_has {tb : List Row} {r : Row} : r ∈ putR tb r := by
  unfold putR
  split
  · rename_i c
    obtain ⟨y, hy, e⟩ := List.any_eq_true.mp c
    have e := of_decide_eq_true e
    exact List.mem_map.mpr ⟨y, hy, by rw [if_pos e, e]⟩
  · exact List.mem_append_right _ (List.mem_singleton.mpr rfl)
theorem putR_keep {tb : List Row} {r x : Row} (h : x ∈ tb) (hne : x.1 ≠ r.1 ∨ x = r) : x ∈ putR tb r := by
  rcases hne with hne | rfl
  · unfold putR
    split
    · exact List.mem_map.mpr ⟨x, h, by rw [if_neg hne]⟩
    · exact List.mem_append_left _ h
  · exact putR_has
theorem tabN_mem : ∀ (ns : List Str) {tb : List Row} {x : Row}, x ∈ ns.foldl (fun tb x => putR tb (isR x)) tb → x ∈ tb ∨ ∃ n ∈ ns, x = isR n
  | [], _, _, h => .inl h
  | n :: ns, tb, x, h => by
    rcases tabN_mem ns h with h | ⟨m, hm, e⟩
    · rcases putR_mem h with h | h
      · exact .inl h
      · exact .inr ⟨n, List.mem_cons_self .., h⟩
    · exact .inr ⟨m, List.mem_cons_of_mem _ hm, e⟩
theorem isR_inj {a b : Str} (h : (isR a).1 = (isR b).1) : a = b := by
  have e : tl (isR a).1 = tl (isR b).1 := by rw [h]
  have e2 : 105 :: 115 :: 40 :: (tl a ++ [41]) = 105 :: 115 :: 40 :: (tl b ++ [41]) := e
  have e3 : tl a ++ [41] = tl b ++ [41] := by simpa using e2
  exact ext_tl (List.append_cancel_right e3)
theorem tab0_is : ∀ r ∈ tab0, ¬ ∃ t, tl r.1 = 105 :: 115 :: t := by
  have key : ∀ i : Fin tab0.length, (match tl (tab0[i.1]'i.2).1 with | 105 :: 115 :: _ => false | _ => true) = true := by decide +kernel
  intro r hr ⟨t, e⟩
  obtain ⟨i, hi, rfl⟩ := List.getElem_of_mem hr
  have := key ⟨i, hi⟩
  dsimp only at this
  rw [e] at this
  cases this
theorem tabN_keep : ∀ (ns : List Str) {tb : List Row} {x : Row}, x ∈ tb → (x ∈ tab0 ∨ ∃ n, x = isR n) → x ∈ ns.foldl (fun tb x => putR tb (isR x)) tb
  | [], _, _, h, _ => h
  | n :: ns, tb, x, h, k => by
    refine tabN_keep ns (putR_keep h ?_) k
    rcases k with k | ⟨m, rfl⟩
    · left
      intro e
      exact tab0_is x k ⟨_, by rw [e]; rfl⟩
    · by_cases e : m = n
      · right; rw [e]
      · left; exact fun z => e (isR_inj z)
theorem tabN_tab0 {ns : List Str} {r : Row} (h : r ∈ tab0) : r ∈ tabN ns := tabN_keep ns h (.inl h)
theorem tabN_has {n : Str} : ∀ (ns : List Str) {tb : List Row}, n ∈ ns → isR n ∈ ns.foldl (fun tb x => putR tb (isR x)) tb
  | m :: ns, tb, h => by
    rcases List.mem_cons.mp h with rfl | h
    · exact tabN_keep ns putR_has (.inr ⟨_, rfl⟩)
    · exact tabN_has ns h
theorem tabN_ne {ns : List Str} : ∀ r ∈ tabN ns, tl r.1 ≠ [] := by
  intro r hr
  rcases tabN_mem ns hr with h | ⟨n, _, rfl⟩
  · obtain ⟨c, t, e, _⟩ := uni_UT.hd r (List.mem_append_left _ h)
    rw [e]
    exact List.cons_ne_nil _ _
  · exact List.cons_ne_nil _ _
theorem hit_val {K : PySem.W.Frag} {H : Hp} {l : List Nat} {r : Row} : ∀ {kvs : List (Key × V)} {tb : List Row}, Paired (Rk K H) kvs tb → hit tb l = some r → ∃ v, valV kvs (Sum.inr r.1) = some v ∧ FO K H v r
  | _, _, .nil, h => by cases h
  | _, _, .cons (a := a) (b := b) q t, h => by
    unfold hit at h
    rw [List.find?_cons] at h
    cases c : pre (tl b.1) l with
    | true =>
      rw [c] at h
      cases h
      exact ⟨a.2, valV_pos q.1, q.2⟩
    | false =>
      rw [c] at h
      have hp := List.find?_some h
      obtain ⟨v, e1, e2⟩ := hit_val t h
      refine ⟨v, ?_, e2⟩
      rw [valV_neg (fun z => ?_)]
      · exact e1
      · have : b.1 = r.1 := Sum.inr.inj (q.1.symm.trans z)
        rw [this] at c
        rw [c] at hp
        cases hp
theorem find_map (tb : List Row) (l : List Nat) : ((tb.map (·.1)).find? fun k => pre (tl k) l) = (hit tb l).map (·.1) := by
  unfold hit
  rw [List.find?_map]
  rfl
theorem rk_keys {K : PySem.W.Frag} {H : Hp} : ∀ {kvs : List (Key × V)} {tb : List Row}, Paired (Rk K H) kvs tb → kS kvs (tb.map (·.1))
  | _, _, .nil => rfl
  | _, _, .cons q t => by
    unfold kS
    rw [List.map_cons, List.map_cons, List.map_cons, q.1, rk_keys t]
theorem tab0_tr : ∀ r ∈ tab0, tr (.tuple r.2.1) = true := by
  have key : ∀ i : Fin tab0.length, tr (.tuple (tab0[i.1]'i.2).2.1) = true := by decide +kernel
  intro r hr
  obtain ⟨i, hi, rfl⟩ := List.getElem_of_mem hr
  exact key ⟨i, hi⟩
theorem rw_rk {K : PySem.W.Frag} {H : Hp} : ∀ {kvs : List (Key × V)} {tb : List Row}, Paired (Rw K) kvs tb → (∀ r ∈ tb, tr (.tuple r.2.1) = true) → Paired (Rk K H) kvs tb
  | _, _, .nil, _ => .nil
  | _, _, .cons (b := b) ⟨q1, p, q, e, d⟩ t, h => .cons ⟨q1, p, q, e, (d H).1, (d H).2, h b (List.mem_cons_self ..)⟩ (rw_rk t fun r hr => h r (List.mem_cons_of_mem _ hr))
end My

namespace My
open PySem PySem.Spec PyProof.Rows L2 NumText TL
theorem bmap {α : Type} (o : Option (List α)) : (o.map fun x => ([] : List α) ++ x) = o := by cases o <;> rfl
section
variable {P : Program} {w : World} {K : PySem.W.Frag} {mg : Str → Option Value} {base : Heap}
/-! ### _forms_in_order -/
def sp_forms (K : PySem.W.Frag) : Sp := fun vs H Q _ => ∃ (x : Str) (nm : Addr) (ns : List Str) (o : Option (List Row)), vs = [.str x, .ref nm] ∧ x.length ≤ 50000 ∧ SqT K H nm (ns.map V.str) ∧ ns.length ≤ 100 ∧ (∀ n ∈ ns, n.length ≤ 1000) ∧ Sc (tabN ns) (tl x) o ∧
  (o = none → ∀ H', L2.Same H H' → Q .non H') ∧ ∀ rows, o = some rows → ∀ p vs' H', L2.Same H H' → H' p = some (.lst vs') → Paired (FO K H') vs' rows → vs'.length ≤ x.length → Q (.ref p) H'
theorem ok_forms_in_order (T : Top K mg w) : FnOk P w K mg base CX0 2 T.a_forms_in_order T.d_forms_in_order ["text", "names"] (sp_forms K) := by
  refine T.F_forms_in_order.ok sc_forms_in_order (fun vs H Q E h => ?_) (fun cdv A outer s H vs Q E hr h => ?_)
  · obtain ⟨x, nm, ns, o, rfl, _⟩ := h
    rfl
  obtain ⟨x, nm, ns, o, rfl, hx, hN, hn, hnl, hsc, q0, q1⟩ := h
  obtain ⟨dO, esO, nO, hOg, hOl, hOo, hOe⟩ := T.x_op
  have hl := tl_len x
  refine ⟨_, (pss_cons (ps_set (i := 2) sc_forms_in_order.nd rfl (Or.inl rfl) (pe_callTy (call_dictK hOl hOo hOe) (by rfl) T.z_dict (by decide +kernel) (pa_cons (pe_glob (v := .ref dO) rfl hOg rfl) pa_nil)))
      (pss_cons (ps_for PassesOwn.never rfl (pi_tup (pv 1)) (pg_name (i := 3) sc_forms_in_order.nd rfl (Or.inl rfl))
        (pss_one (ps_dput (hu_of hr) (pv 2) (pe_joined (PJ.cons pe_str (PJ.cons (pe_fmt (pv 3)) (PJ.cons pe_str PJ.nil)))) (pe_tup (pa_cons (pe_tup (pa_cons pe_str (pa_cons (pv 3) pa_nil))) (pa_cons pe_int pa_nil))) rfl)))
      (pss_cons (ps_set (i := 4) sc_forms_in_order.nd rfl (Or.inl rfl) (pe_lst pa_nil))
      (pss_cons (ps_set (i := 5) sc_forms_in_order.nd rfl (Or.inl rfl) pe_int)
      (pss_cons (ps_while PassesOwn.never (pt_cmpR op_lt (pv 5) (pe_callB call_len_str (by rfl) T.z_len (by decide +kernel) (pa_cons (pv 0) pa_nil)) (nomark _))
        (pss_cons (ps_set (i := 6) sc_forms_in_order.nd rfl (Or.inl rfl) (pe_call ((ok_opening_at T).mono (by decide)) hr (by rfl) T.m_opening_at T.F_opening_at.kp T.b_opening_at .nil pass0 (pa_cons (pv 0) (pa_cons (pv 5) (pa_cons (pv 2) pa_nil)))))
      (pss_cons (ps_if (pt_cmpR op_isN (pv 6) pe_non (nomark _))
        (pss_one (ps_ret pe_non))
        pss_nil)
      (pss_cons (ps_expr (pe_bm PySem.F.plainAttrs_list PySem.F.slot_list_append PySem.F.type_list_append mt_append (pv 4) (pa_cons (pe_dget (hu_of hr) (pv 2) (pv 6) (fun _ _ => rfl)) pa_nil)))
      (pss_one (ps_set (i := 5) sc_forms_in_order.nd rfl (Or.inl rfl) (pe_call ((ok_behind_marks T).mono (by decide)) hr (by rfl) T.m_behind_marks T.F_behind_marks.kp T.b_behind_marks .nil pass0 (pa_cons (pv 0) (pa_cons (pe_op op_add (pv 5) (pe_callB call_len_str (by rfl) T.z_len (by decide +kernel) (pa_cons (pv 6) pa_nil))) pa_nil)))))))))
      (pss_one (ps_ret (pv 4)))))))), ?_⟩
  refine ⟨rfl, fun d kvs0 hd hk0 => ?_⟩
  have sm0 : ∀ o, L2.Same H (upd H d o) := fun o => same_upd hd
  refine ⟨_, rfl, nm, rfl, ⟨_, My.Same.sqT (sm0 _) hN⟩, for_tup (xs := ns.map V.str) (fun i σ H' => ∃ (y3 : Option V) (kvs : List (Key × V)), σ = [some (.str x), some (.ref nm), some (.ref d), y3, none, none, none] ∧ H' d = some (.dK kvs) ∧ Paired (Rk K H') kvs (tabN (ns.take i)) ∧ L2.Same H H' ∧ kvs.length ≤ 22 + i) ?_ ?_ ?_ ?_⟩
  · exact ⟨none, kvs0, rfl, upd_same, rw_rk hk0 tab0_tr, sm0 _, Nat.le_of_eq (Paired.length hk0)⟩
  · rintro i σ H' _ ⟨y3, kvs, rfl, hd', hk, sm, _⟩
    exact My.Same.sqT sm hN
  · rintro i v σ H' hi ⟨y3, kvs, rfl, hd', hk, sm, hlk⟩
    obtain ⟨n, rfl, hni⟩ : ∃ n, v = .str n ∧ ns[i]? = some n := by
      rw [List.getElem?_map] at hi
      cases e : ns[i]? with
      | none => rw [e] at hi; cases hi
      | some n => rw [e] at hi; exact ⟨n, (Option.some.inj hi).symm, rfl⟩
    have hnl' := hnl n (List.mem_of_getElem? hni)
    have hi' : i < ns.length := (List.getElem?_eq_some_iff.mp hni).1
    (repeat (first
      | refine ⟨_, rfl, ?_⟩
      | refine ⟨_, _, rfl, rfl, ?_⟩
      | refine Or.inl ⟨_, rfl, ?_⟩
      | refine Or.inr ⟨_, rfl, ?_⟩
      | refine ⟨Or.inl ⟨by decide, by decide⟩, ?_⟩
      | refine ⟨Or.inr ⟨by decide, by decide⟩, ?_⟩
      | refine ⟨⟨by decide, by decide⟩, ?_⟩
      | refine ⟨⟨by decide, by decide, by decide⟩, ?_⟩
      | refine ⟨by decide, ?_⟩
      | refine ⟨(by show (0 : Int) < _; decide), ?_⟩
      | refine ⟨rfl, ?_⟩
      | refine ⟨⟨_, rfl⟩, ?_⟩
      | refine ⟨_, rfl, rfl, trivial, ?_⟩
      | refine ⟨_, _, rfl, ?_⟩))
    refine ⟨by show 2 ≤ sizeLine; decide, fun p1 h1 => ?_⟩
    (repeat (first
      | refine ⟨_, rfl, ?_⟩
      | refine ⟨_, _, rfl, rfl, ?_⟩
      | refine Or.inl ⟨_, rfl, ?_⟩
      | refine Or.inr ⟨_, rfl, ?_⟩
      | refine ⟨Or.inl ⟨by decide, by decide⟩, ?_⟩
      | refine ⟨Or.inr ⟨by decide, by decide⟩, ?_⟩
      | refine ⟨⟨by decide, by decide⟩, ?_⟩
      | refine ⟨⟨by decide, by decide, by decide⟩, ?_⟩
      | refine ⟨by decide, ?_⟩
      | refine ⟨(by show (0 : Int) < _; decide), ?_⟩
      | refine ⟨rfl, ?_⟩
      | refine ⟨⟨_, rfl⟩, ?_⟩
      | refine ⟨_, rfl, rfl, trivial, ?_⟩
      | refine ⟨_, _, rfl, ?_⟩))
    refine ⟨by show 2 ≤ sizeLine; decide, fun p2 h2 => ?_⟩
    have sp : L2.Same H' (upd (upd H' p1 (.tup [.str "is", .str n])) p2 (.tup [.ref p1, .int 0])) := (same_upd h1).trans (same_upd h2)
    have e1 : (upd (upd H' p1 (.tup [.str "is", .str n])) p2 (.tup [.ref p1, .int 0])) p1 = some (.tup [.str "is", .str n]) := by
      rw [upd_ne (ne_of_none upd_same h2), upd_same]
    have e2 : (upd (upd H' p1 (.tup [.str "is", .str n])) p2 (.tup [.ref p1, .int 0])) p2 = some (.tup [.ref p1, .int 0]) := upd_same
    generalize (upd (upd H' p1 (.tup [.str "is", .str n])) p2 (.tup [.ref p1, .int 0])) = H2 at sp e1 e2 ⊢
    have hd2 := sp _ _ hd'
    have fo : FO K H2 (.ref p2) (isR n) := ⟨p2, p1, rfl, SqT.of e2, .tup (SqT.of e1) (.cons (.str _) (.cons (.str _) .nil)), by
      show tr (.tuple [sd "is", .str n]) = true
      rw [tr, trL, trL, trL, tr_sd, tr]
      rfl⟩
    have hk2 : Paired (Rk K H2) kvs (tabN (ns.take i)) := pmono (fun a b q => ⟨q.1, q.2.tx (TX.same sp)⟩) hk
    have len1 : (Str.empty ++ Str.ofString "is(").length = 3 := by decide +kernel
    have lenA : ∀ a b : Str, (a ++ b).length = a.length + b.length := fun a b => by rw [← tl_len, ← tl_len, ← tl_len, tl_append, List.length_append]
    have key : Str.empty ++ Str.ofString "is(" ++ n ++ Str.ofString ")" = (isR n).1 := ext_tl (by
      rw [tl_append, tl_append]
      rfl)
    refine ⟨_, rfl, ?_⟩
    refine ⟨_, rfl, by rw [len1]; decide, ?_⟩
    refine ⟨_, rfl, .inl ⟨n, rfl, small (by omega), ?_⟩⟩
    refine ⟨n, rfl, small (by rw [lenA, len1]; omega), ?_⟩
    refine ⟨_, rfl, small (by rw [lenA, lenA, len1, show (Str.ofString ")").length = 1 from by decide +kernel]; omega), ?_⟩
    rw [key]
    refine ⟨d, _, rfl, DPut.k (k := Sum.inr (isR n).1) hd2 (smallL (by omega)), ?_⟩
    have ti : ns.take (i + 1) = ns.take i ++ [n] := by
      obtain ⟨h3, h4⟩ := List.getElem?_eq_some_iff.mp hni
      rw [List.take_succ_eq_append_getElem h3, h4]
    refine ⟨_, _, rfl, upd_same, ?_, fun b u hb => ?_, ?_⟩
    · rw [ti, tabN_snoc]
      exact pmono (fun a b q => ⟨q.1, q.2.tx (TX.dK hd2)⟩) (putR_paired hk2 fo)
    · rw [upd_ne (ne_of_none hb hd)]
      exact sp _ _ (sm _ _ hb)
    · have : (putK kvs (Sum.inr (isR n).1) (.ref p2)).length ≤ kvs.length + 1 := by
        unfold putK
        split
        · rw [List.length_map]; omega
        · rw [List.length_append]; exact Nat.le_refl _
      omega
  rintro σ H1 ⟨y3, kvs, rfl, hd1, hk1, sm1, hlk⟩
  rw [List.length_map] at hlk hk1
  rw [List.take_of_length_le (Nat.le_refl _)] at hk1
  refine ⟨by show 0 ≤ sizeLine; decide, fun fa hfa => ?_⟩
  have smf : L2.Same H1 (upd H1 fa (.lst [])) := same_upd hfa
  (repeat (first
      | refine ⟨_, rfl, ?_⟩
      | refine ⟨_, _, rfl, rfl, ?_⟩
      | refine Or.inl ⟨_, rfl, ?_⟩
      | refine Or.inr ⟨_, rfl, ?_⟩
      | refine ⟨Or.inl ⟨by decide, by decide⟩, ?_⟩
      | refine ⟨Or.inr ⟨by decide, by decide⟩, ?_⟩
      | refine ⟨⟨by decide, by decide⟩, ?_⟩
      | refine ⟨⟨by decide, by decide, by decide⟩, ?_⟩
      | refine ⟨by decide, ?_⟩
      | refine ⟨(by show (0 : Int) < _; decide), ?_⟩
      | refine ⟨rfl, ?_⟩
      | refine ⟨⟨_, rfl⟩, ?_⟩
      | refine ⟨_, rfl, rfl, trivial, ?_⟩
      | refine ⟨_, _, rfl, ?_⟩))
  have hks := rk_keys hk1
  refine ⟨fun m σ H' => ∃ (n : Nat) (o' : Option (List Row)) (done : List Row) (vs' : List V) (y6 : Option V), σ = [some (.str x), some (.ref nm), some (.ref d), y3, some (.ref fa), some (.int (n : Int)), y6] ∧ n ≤ x.length ∧ H' fa = some (.lst vs') ∧ H' d = some (.dK kvs) ∧ Paired (FO K H') vs' done ∧ Paired (Rk K H') kvs (tabN ns) ∧ L2.Same H H' ∧ Sc (tabN ns) ((tl x).drop n) o' ∧ o = o'.map (done ++ ·) ∧ m = x.length - n ∧ vs'.length ≤ n, ⟨_, 0, o, [], [], none, rfl, Nat.zero_le _, upd_same, smf _ _ hd1, .nil, pmono (fun a b q => ⟨q.1, q.2.tx (TX.same smf)⟩) hk1, sm1.trans smf, hsc, (bmap o).symm, rfl, Nat.le_refl _⟩, ?_⟩
  rintro m σ H' ⟨n, o', done, vs', y6, rfl, hn', hf, hd', hfo, hrk, sm, sc, ho, rfl, hvl⟩
  refine ⟨_, rfl, _, rfl, x, rfl, small (by omega), ?_⟩
  (repeat (first
      | refine ⟨_, rfl, ?_⟩
      | refine ⟨_, _, rfl, rfl, ?_⟩
      | refine Or.inl ⟨_, rfl, ?_⟩
      | refine Or.inr ⟨_, rfl, ?_⟩
      | refine ⟨Or.inl ⟨by decide, by decide⟩, ?_⟩
      | refine ⟨Or.inr ⟨by decide, by decide⟩, ?_⟩
      | refine ⟨⟨by decide, by decide⟩, ?_⟩
      | refine ⟨⟨by decide, by decide, by decide⟩, ?_⟩
      | refine ⟨by decide, ?_⟩
      | refine ⟨(by show (0 : Int) < _; decide), ?_⟩
      | refine ⟨rfl, ?_⟩
      | refine ⟨⟨_, rfl⟩, ?_⟩
      | refine ⟨_, rfl, rfl, trivial, ?_⟩
      | refine ⟨_, _, rfl, ?_⟩))
  refine ite_dec (fun c => ?_) (fun c => ?_)
  · have c' : n < x.length := by omega
    refine ⟨fun σ' H'' => ∃ m', m' < x.length - n ∧ ∃ (n : Nat) (o' : Option (List Row)) (done : List Row) (vs' : List V) (y6 : Option V), σ' = [some (.str x), some (.ref nm), some (.ref d), y3, some (.ref fa), some (.int (n : Int)), y6] ∧ n ≤ x.length ∧ H'' fa = some (.lst vs') ∧ H'' d = some (.dK kvs) ∧ Paired (FO K H'') vs' done ∧ Paired (Rk K H'') kvs (tabN ns) ∧ L2.Same H H'' ∧ Sc (tabN ns) ((tl x).drop n) o' ∧ o = o'.map (done ++ ·) ∧ m' = x.length - n ∧ vs'.length ≤ n, fun _ _ h => h, ?_⟩
    (repeat (first
      | refine ⟨_, rfl, ?_⟩
      | refine ⟨_, _, rfl, rfl, ?_⟩
      | refine Or.inl ⟨_, rfl, ?_⟩
      | refine Or.inr ⟨_, rfl, ?_⟩
      | refine ⟨Or.inl ⟨by decide, by decide⟩, ?_⟩
      | refine ⟨Or.inr ⟨by decide, by decide⟩, ?_⟩
      | refine ⟨⟨by decide, by decide⟩, ?_⟩
      | refine ⟨⟨by decide, by decide, by decide⟩, ?_⟩
      | refine ⟨by decide, ?_⟩
      | refine ⟨(by show (0 : Int) < _; decide), ?_⟩
      | refine ⟨rfl, ?_⟩
      | refine ⟨⟨_, rfl⟩, ?_⟩
      | refine ⟨_, rfl, rfl, trivial, ?_⟩
      | refine ⟨_, _, rfl, ?_⟩))
    refine ⟨x, n, d, kvs, _, rfl, by omega, hn', hd', hks, ?_, ?_⟩
    · intro k hk
      obtain ⟨r, hr, rfl⟩ := List.mem_map.mp hk
      exact tabN_ne r hr
    rw [find_map]
    generalize hL : (tl x).drop n = l at sc
    have hLl : l.length = x.length - n := by rw [← hL, List.length_drop, hl]
    cases sc with
    | nil => exact absurd hLl (by show ¬ 0 = _; omega)
    | no hne hno => 
      rw [hno]
      (repeat (first
      | refine ⟨_, rfl, ?_⟩
      | refine ⟨_, _, rfl, rfl, ?_⟩
      | refine Or.inl ⟨_, rfl, ?_⟩
      | refine Or.inr ⟨_, rfl, ?_⟩
      | refine ⟨Or.inl ⟨by decide, by decide⟩, ?_⟩
      | refine ⟨Or.inr ⟨by decide, by decide⟩, ?_⟩
      | refine ⟨⟨by decide, by decide⟩, ?_⟩
      | refine ⟨⟨by decide, by decide, by decide⟩, ?_⟩
      | refine ⟨by decide, ?_⟩
      | refine ⟨(by show (0 : Int) < _; decide), ?_⟩
      | refine ⟨rfl, ?_⟩
      | refine ⟨⟨_, rfl⟩, ?_⟩
      | refine ⟨_, rfl, rfl, trivial, ?_⟩
      | refine ⟨_, _, rfl, ?_⟩))
      refine ifT ?_
      refine q0 ho H' sm
    | @go _ r o2 hne hgo hs =>
      rw [hgo]
      (repeat (first
      | refine ⟨_, rfl, ?_⟩
      | refine ⟨_, _, rfl, rfl, ?_⟩
      | refine Or.inl ⟨_, rfl, ?_⟩
      | refine Or.inr ⟨_, rfl, ?_⟩
      | refine ⟨Or.inl ⟨by decide, by decide⟩, ?_⟩
      | refine ⟨Or.inr ⟨by decide, by decide⟩, ?_⟩
      | refine ⟨⟨by decide, by decide⟩, ?_⟩
      | refine ⟨⟨by decide, by decide, by decide⟩, ?_⟩
      | refine ⟨by decide, ?_⟩
      | refine ⟨(by show (0 : Int) < _; decide), ?_⟩
      | refine ⟨rfl, ?_⟩
      | refine ⟨⟨_, rfl⟩, ?_⟩
      | refine ⟨_, rfl, rfl, trivial, ?_⟩
      | refine ⟨_, _, rfl, ?_⟩))
      obtain ⟨v, hv, fv⟩ := hit_val hrk hgo
      have hget : DGet H' d (.str r.1) (some v) := by
        have e := DGet.k (k := Sum.inr r.1) hd'
        rw [hv] at e
        exact e
      have hpre : pre (tl r.1) l = true := by
        have hg := hgo
        unfold hit at hg
        have hp := List.find?_some hg
        exact hp
      obtain ⟨t, et⟩ := pre_ex.mp hpre
      have hkl : (tl r.1).length ≤ x.length - n := by rw [← hLl, et, List.length_append]; omega
      have hkl' : r.1.length ≤ x.length - n := by rw [← tl_len]; exact hkl
      refine ⟨.inl ⟨rfl, _, SqL.of hf⟩, ?_⟩
      (repeat (first
      | refine ⟨_, rfl, ?_⟩
      | refine ⟨_, _, rfl, rfl, ?_⟩
      | refine Or.inl ⟨_, rfl, ?_⟩
      | refine Or.inr ⟨_, rfl, ?_⟩
      | refine ⟨Or.inl ⟨by decide, by decide⟩, ?_⟩
      | refine ⟨Or.inr ⟨by decide, by decide⟩, ?_⟩
      | refine ⟨⟨by decide, by decide⟩, ?_⟩
      | refine ⟨⟨by decide, by decide, by decide⟩, ?_⟩
      | refine ⟨by decide, ?_⟩
      | refine ⟨(by show (0 : Int) < _; decide), ?_⟩
      | refine ⟨rfl, ?_⟩
      | refine ⟨⟨_, rfl⟩, ?_⟩
      | refine ⟨_, rfl, rfl, trivial, ?_⟩
      | refine ⟨_, _, rfl, ?_⟩))
      refine ⟨d, v, rfl, hget, ?_⟩
      refine ⟨fa, _, _, rfl, rfl, hf, smallL (by omega), ?_⟩
      have txa : TX K H' (upd H' fa (.lst (vs' ++ [v]))) := TX.lst hf
      have hda : (upd H' fa (.lst (vs' ++ [v]))) d = some (.dK kvs) := by
        rw [upd_ne (fun e => by rw [e, hf] at hd'; cases hd')]
        exact hd'
      have sma : L2.Same H (upd H' fa (.lst (vs' ++ [v]))) := fun b u hb => by
        rw [upd_ne (fun e => by rw [e] at hb; have := sm1 _ _ hb; rw [hfa] at this; cases this)]
        exact sm _ _ hb
      (repeat (first
      | refine ⟨_, rfl, ?_⟩
      | refine ⟨_, _, rfl, rfl, ?_⟩
      | refine Or.inl ⟨_, rfl, ?_⟩
      | refine Or.inr ⟨_, rfl, ?_⟩
      | refine ⟨Or.inl ⟨by decide, by decide⟩, ?_⟩
      | refine ⟨Or.inr ⟨by decide, by decide⟩, ?_⟩
      | refine ⟨⟨by decide, by decide⟩, ?_⟩
      | refine ⟨⟨by decide, by decide, by decide⟩, ?_⟩
      | refine ⟨by decide, ?_⟩
      | refine ⟨(by show (0 : Int) < _; decide), ?_⟩
      | refine ⟨rfl, ?_⟩
      | refine ⟨⟨_, rfl⟩, ?_⟩
      | refine ⟨_, rfl, rfl, trivial, ?_⟩
      | refine ⟨_, _, rfl, ?_⟩))
      refine ⟨small (by show r.1.length ≤ 100000; omega), ?_⟩
      (repeat (first
      | refine ⟨_, rfl, ?_⟩
      | refine ⟨_, _, rfl, rfl, ?_⟩
      | refine Or.inl ⟨_, rfl, ?_⟩
      | refine Or.inr ⟨_, rfl, ?_⟩
      | refine ⟨Or.inl ⟨by decide, by decide⟩, ?_⟩
      | refine ⟨Or.inr ⟨by decide, by decide⟩, ?_⟩
      | refine ⟨⟨by decide, by decide⟩, ?_⟩
      | refine ⟨⟨by decide, by decide, by decide⟩, ?_⟩
      | refine ⟨by decide, ?_⟩
      | refine ⟨(by show (0 : Int) < _; decide), ?_⟩
      | refine ⟨rfl, ?_⟩
      | refine ⟨⟨_, rfl⟩, ?_⟩
      | refine ⟨_, rfl, rfl, trivial, ?_⟩
      | refine ⟨_, _, rfl, ?_⟩))
      refine ⟨by omega, by show n + r.1.length ≤ x.length; omega, fun n2 hn2 hb2 => ?_⟩
      have hb2 : (tl x).drop n2 = beh ((tl x).drop (n + r.1.length)) := hb2
      refine ⟨x.length - n2, ?_, n2, o2, done ++ [r], vs' ++ [v], _, rfl, hn2, upd_same, hda, papp (pmono (fun a b q => q.tx txa) hfo) (.cons (fv.tx txa) .nil), pmono (fun a b q => ⟨q.1, q.2.tx txa⟩) hrk, sma, ?_, ?_, rfl, ?_⟩
      · have : 0 < r.1.length := by
          have h0 := tabN_ne r (List.mem_of_find?_eq_some hgo)
          rw [← tl_len]
          exact List.length_pos_iff.mpr h0
        have hb3 := congrArg List.length hb2
        have hb4 := beh_len ((tl x).drop (n + r.1.length))
        rw [← hb3, List.length_drop, List.length_drop, hl] at hb4
        omega
      · rw [hb2, ← List.drop_drop, hL, ← tl_len]
        exact hs
      · rw [ho]
        cases o2
        · rfl
        · simp
      · rw [List.length_append]
        have : 0 < r.1.length := by
          have h0 := tabN_ne r (List.mem_of_find?_eq_some hgo)
          rw [← tl_len]
          exact List.length_pos_iff.mpr h0
        have hb3 := congrArg List.length hb2
        have hb4 := beh_len ((tl x).drop (n + r.1.length))
        rw [← hb3, List.length_drop, List.length_drop, hl] at hb4
        show vs'.length + 1 ≤ n2
        omega
  · have e0 : (tl x).drop n = [] := List.drop_eq_nil_of_le (by omega)
    rw [e0] at sc
    generalize hL : ([] : List Nat) = l at sc
    cases sc with
    | nil =>
      refine ⟨_, rfl, q1 done (by rw [ho]; simp) fa vs' H' sm hf hfo (by omega)⟩
    | no hne _ => exact absurd hL.symm hne
    | go hne _ _ => exact absurd hL.symm hne
end
end My

namespace My
open PySem PySem.Spec PyProof.Rows L2 NumText TL
theorem trL_take {xs : List PyData} (h : trL xs = true) (n : Nat) : trL (xs.take n) = true := trL_iff.mpr fun x hx => trL_iff.mp h x (List.mem_of_mem_take hx)
theorem trL_drop {xs : List PyData} (h : trL xs = true) (n : Nat) : trL (xs.drop n) = true := trL_iff.mpr fun x hx => trL_iff.mp h x (List.mem_of_mem_drop hx)
theorem DpAll.take {K : PySem.W.Frag} {H : Hp} : ∀ {xs : List V} {ds : List PyData} (n : Nat), DpAll K H xs ds → DpAll K H (xs.take n) (ds.take n)
  | _, _, 0, h => .nil
  | _, _, n + 1, .nil => .nil
  | _, _, n + 1, .cons h t => .cons h (DpAll.take n t)
theorem DpAll.drop {K : PySem.W.Frag} {H : Hp} : ∀ {xs : List V} {ds : List PyData} (n : Nat), DpAll K H xs ds → DpAll K H (xs.drop n) (ds.drop n)
  | _, _, 0, h => h
  | _, _, n + 1, .nil => .nil
  | _, _, n + 1, .cons h t => DpAll.drop n t
theorem DpAll.app {K : PySem.W.Frag} {H : Hp} : ∀ {xs xs' : List V} {ds ds' : List PyData}, DpAll K H xs ds → DpAll K H xs' ds' → DpAll K H (xs ++ xs') (ds ++ ds')
  | _, _, _, _, .nil, s => s
  | _, _, _, _, .cons h t, s => .cons h (DpAll.app t s)
theorem bld_none (b : List Row) (h : bld b = none) : ∀ a : List Row, bld (a ++ b) = none
  | [] => h
  | r :: a => by
    have e := bld_none b h a
    show bld (r :: (a ++ b)) = none
    unfold bld
    rw [e]
theorem bld_cons {r : Row} {rs : List Row} {st : List PyData} (h : bld rs = some st) : bld (r :: rs) = if st.length < r.2.2 then none else some (.tuple (r.2.1 ++ st.take r.2.2) :: st.drop r.2.2) := by
  rw [bld, h]
theorem cut_end {xs : List V} {a : Nat} (h : a ≤ xs.length) : cutV xs (some (a : Int)) none = xs.drop a := by
  unfold cutV
  rw [HT.sIx_nat, HT.sIx_none, Nat.min_eq_left h]
  exact List.take_of_length_le (by rw [List.length_drop]; omega)
theorem rev_drop {xs : List V} {n : Nat} (h : n ≤ xs.length) : (xs.reverse.drop (xs.length - n)).reverse = xs.take n := by
  rw [List.drop_reverse, List.reverse_reverse]
  congr 1
  omega
theorem rev_take {xs : List V} {n : Nat} (h : n ≤ xs.length) : xs.reverse.take (xs.length - n) = (xs.drop n).reverse := by
  rw [List.take_reverse]
  congr 1
  congr 1
  omega
theorem pget {α β : Type} {R : α → β → Prop} : ∀ {xs : List α} {ys : List β} {i : Nat} {x : α}, Paired R xs ys → xs[i]? = some x → ∃ y, ys[i]? = some y ∧ R x y
  | _, _, _, _, .nil, h => by simp at h
  | _, _, 0, _, .cons r _, h => by simp at h; subst h; exact ⟨_, rfl, r⟩
  | _, _, i + 1, x, .cons _ t, h => by
    obtain ⟨y, e, r⟩ := pget (i := i) (x := x) t (by simpa using h)
    exact ⟨y, by simpa using e, r⟩
section
variable {P : Program} {w : World} {K : PySem.W.Frag} {mg : Str → Option Value} {base : Heap}
/-! ### _tree_of -/
def sp_tree_of (K : PySem.W.Frag) : Sp := fun vs H Q _ => ∃ (fa : Addr) (vs' : List V) (rows : List Row), vs = [.ref fa] ∧ H fa = some (.lst vs') ∧ Paired (FO K H) vs' rows ∧ (∀ r ∈ rows, r.2.1.length ≤ 3) ∧ vs'.length ≤ 50000 ∧
  (∀ t, bld rows = some [t] → ∀ H' x, L2.Same H H' → Dp K H' x t → tr t = true → (∃ a, x = .ref a) → Q x H') ∧ ((∀ t, bld rows ≠ some [t]) → ∀ H', L2.Same H H' → Q .non H')
theorem ok_tree_of (T : Top K mg w) : FnOk P w K mg base CX0 1 T.a_tree_of T.d_tree_of ["forms"] (sp_tree_of K) := by
  refine T.F_tree_of.ok sc_tree_of (fun vs H Q E h => ?_) (fun cdv A outer s H vs Q E hr h => ?_)
  · obtain ⟨fa, vs', rows, rfl, _⟩ := h
    rfl
  obtain ⟨fa, vs', rows, rfl, hf, hp, h3l, hl, q1, q0⟩ := h
  have el := Paired.length hp
  refine ⟨_, (pss_cons (ps_set (i := 1) sc_tree_of.nd rfl (Or.inl rfl) (pe_lst pa_nil))
      (pss_cons (ps_for PassesOwn.never rfl (pi_reversed (by rfl) T.z_reversed (pa_cons (pv 0) pa_nil)) (pg_tup (by rfl) (pgs_cons (pg_name (i := 2) sc_tree_of.nd rfl (Or.inl rfl)) (pgs_cons (pg_name (i := 3) sc_tree_of.nd rfl (Or.inl rfl)) pgs_nil)))
        (pss_cons (ps_if (pt_cmpR op_lt (pe_callB call_len_seq (by rfl) T.z_len (by decide +kernel) (pa_cons (pv 1) pa_nil)) (pv 3) (nomark _))
        (pss_one (ps_ret pe_non))
        pss_nil)
      (pss_cons (ps_set (i := 4) sc_tree_of.nd rfl (Or.inl rfl) (pe_op op_sub (pe_callB call_len_seq (by rfl) T.z_len (by decide +kernel) (pa_cons (pv 1) pa_nil)) (pv 3)))
      (pss_cons (ps_set (i := 5) sc_tree_of.nd rfl (Or.inl rfl) (pe_op op_catA (pv 2) (pe_callTy call_tuple_of (by rfl) T.z_tuple (by decide +kernel) (pa_cons (pe_revL (pe_slice sl_list (pv 1) (po_some (pv 4)) po_none)) pa_nil))))
      (pss_cons (ps_delFrom (pv 1) (pv 4))
      (pss_one (ps_expr (pe_bm PySem.F.plainAttrs_list PySem.F.slot_list_append PySem.F.type_list_append mt_append (pv 1) (pa_cons (pv 5) pa_nil)))))))))
      (pss_cons (ps_if (pt_cmpR op_ne (pe_callB call_len_seq (by rfl) T.z_len (by decide +kernel) (pa_cons (pv 1) pa_nil)) pe_int (nomark _))
        (pss_one (ps_ret pe_non))
        pss_nil)
      (pss_one (ps_ret (pe_ix ix_list (pv 1) pe_int (fun _ _ => rfl))))))), ?_⟩
  refine ⟨by show 0 ≤ sizeLine; decide, fun ta hta => ?_⟩
  have smt : L2.Same H (upd H ta (.lst [])) := same_upd hta
  refine ⟨_, rfl, fa, vs', rfl, SqL.of (smt _ _ hf), for_it walk_rev (fun i σ H' => ∃ (y2 y3 y4 y5 : Option V) (ys : List V) (st : List PyData), σ = [some (.ref fa), some (.ref ta), y2, y3, y4, y5] ∧ H' ta = some (.lst ys.reverse) ∧ DpAll K H' ys st ∧ trL st = true ∧ bld (rows.drop (vs'.length - i)) = some st ∧ L2.Same H H' ∧ ys.length ≤ i ∧ (∀ y ∈ ys, ∃ a, y = .ref a)) ?_ ?_ ?_ ?_⟩
  · refine ⟨none, none, none, none, [], [], rfl, upd_same, .nil, by rw [trL], ?_, smt, Nat.le_refl _, fun y hy => by cases hy⟩
    rw [Nat.sub_zero, List.drop_eq_nil_of_le (by omega)]
    rfl
  · rintro i σ H' _ ⟨y2, y3, y4, y5, ys, st, rfl, _, _, _, _, sm, _⟩
    exact SqL.of (sm _ _ hf)
  · rintro i x σ H' H'' hi ⟨y2, y3, y4, y5, ys, st, rfl, ht, hd, htr, hb, sm, hys, hrf⟩ ⟨rfl, hx⟩
    obtain ⟨r, hr1, p, q, rfl, hs, hdq, htq⟩ := pget hp hx
    have hdrop : rows.drop (vs'.length - (i + 1)) = r :: rows.drop (vs'.length - i) := by
      obtain ⟨h3, h4⟩ := List.getElem?_eq_some_iff.mp hr1
      have e : vs'.length - 1 - i = vs'.length - (i + 1) := by omega
      have h5 := List.drop_eq_getElem_cons h3
      rw [h4, e] at h5
      rw [h5]
      congr 2
      omega
    have ly := DpAll.len hd
    have hsplit : rows = rows.take (vs'.length - (i + 1)) ++ rows.drop (vs'.length - (i + 1)) := (List.take_append_drop _ _).symm
    refine ⟨p, _, rfl, My.Same.sqT sm hs, rfl, ?_⟩
    (repeat (first
      | refine ⟨_, rfl, ?_⟩
      | refine ⟨_, _, rfl, rfl, ?_⟩
      | refine Or.inl ⟨_, rfl, ?_⟩
      | refine Or.inr ⟨_, rfl, ?_⟩
      | refine ⟨Or.inl ⟨by decide, by decide⟩, ?_⟩
      | refine ⟨Or.inr ⟨by decide, by decide⟩, ?_⟩
      | refine ⟨⟨by decide, by decide⟩, ?_⟩
      | refine ⟨⟨by decide, by decide, by decide⟩, ?_⟩
      | refine ⟨by decide, ?_⟩
      | refine ⟨(by show (0 : Int) < _; decide), ?_⟩
      | refine ⟨rfl, ?_⟩
      | refine ⟨⟨_, rfl⟩, ?_⟩
      | refine ⟨_, rfl, rfl, trivial, ?_⟩
      | refine ⟨_, _, rfl, ?_⟩))
    refine ⟨ta, _, rfl, .inl (SqL.of ht), ?_⟩
    (repeat (first
      | refine ⟨_, rfl, ?_⟩
      | refine ⟨_, _, rfl, rfl, ?_⟩
      | refine Or.inl ⟨_, rfl, ?_⟩
      | refine Or.inr ⟨_, rfl, ?_⟩
      | refine ⟨Or.inl ⟨by decide, by decide⟩, ?_⟩
      | refine ⟨Or.inr ⟨by decide, by decide⟩, ?_⟩
      | refine ⟨⟨by decide, by decide⟩, ?_⟩
      | refine ⟨⟨by decide, by decide, by decide⟩, ?_⟩
      | refine ⟨by decide, ?_⟩
      | refine ⟨(by show (0 : Int) < _; decide), ?_⟩
      | refine ⟨rfl, ?_⟩
      | refine ⟨⟨_, rfl⟩, ?_⟩
      | refine ⟨_, rfl, rfl, trivial, ?_⟩
      | refine ⟨_, _, rfl, ?_⟩))
    rw [List.length_reverse]
    refine ite_dec (fun c => ?_) (fun c => ?_)
    · have hn : bld (r :: rows.drop (vs'.length - i)) = none := by
        rw [bld_cons hb, if_pos (by omega)]
      refine q0 (fun t e => ?_) H'' sm
      rw [hsplit, hdrop, bld_none _ hn] at e
      cases e
    · have c' : r.2.2 ≤ ys.length := by omega
      have hn : bld (r :: rows.drop (vs'.length - i)) = some (.tuple (r.2.1 ++ st.take r.2.2) :: st.drop r.2.2) := by
        rw [bld_cons hb, if_neg (by omega)]
      have er : (ys.reverse.length : Int) - (r.2.2 : Int) = ((ys.length - r.2.2 : Nat) : Int) := by rw [List.length_reverse]; omega
      (repeat (first
      | refine ⟨_, rfl, ?_⟩
      | refine ⟨_, _, rfl, rfl, ?_⟩
      | refine Or.inl ⟨_, rfl, ?_⟩
      | refine Or.inr ⟨_, rfl, ?_⟩
      | refine ⟨Or.inl ⟨by decide, by decide⟩, ?_⟩
      | refine ⟨Or.inr ⟨by decide, by decide⟩, ?_⟩
      | refine ⟨⟨by decide, by decide⟩, ?_⟩
      | refine ⟨⟨by decide, by decide, by decide⟩, ?_⟩
      | refine ⟨by decide, ?_⟩
      | refine ⟨(by show (0 : Int) < _; decide), ?_⟩
      | refine ⟨rfl, ?_⟩
      | refine ⟨⟨_, rfl⟩, ?_⟩
      | refine ⟨_, rfl, rfl, trivial, ?_⟩
      | refine ⟨_, _, rfl, ?_⟩))
      refine ⟨ta, _, rfl, .inl (SqL.of ht), ?_⟩
      (repeat (first
      | refine ⟨_, rfl, ?_⟩
      | refine ⟨_, _, rfl, rfl, ?_⟩
      | refine Or.inl ⟨_, rfl, ?_⟩
      | refine Or.inr ⟨_, rfl, ?_⟩
      | refine ⟨Or.inl ⟨by decide, by decide⟩, ?_⟩
      | refine ⟨Or.inr ⟨by decide, by decide⟩, ?_⟩
      | refine ⟨⟨by decide, by decide⟩, ?_⟩
      | refine ⟨⟨by decide, by decide, by decide⟩, ?_⟩
      | refine ⟨by decide, ?_⟩
      | refine ⟨(by show (0 : Int) < _; decide), ?_⟩
      | refine ⟨rfl, ?_⟩
      | refine ⟨⟨_, rfl⟩, ?_⟩
      | refine ⟨_, rfl, rfl, trivial, ?_⟩
      | refine ⟨_, _, rfl, ?_⟩))
      rw [er]
      refine ⟨ta, _, rfl, SqL.of ht, fun p1 h1 => ?_⟩
      rw [cut_end (by rw [List.length_reverse]; omega)]
      refine ⟨p1, _, rfl, SqL.of upd_same, fun p2 h2 => ?_⟩
      rw [rev_drop c']
      refine ⟨p2, _, rfl, .inl ⟨SqL.of upd_same, fun p3 h3 => ?_⟩⟩
      cases hdq with
      | @tup _ fxs _ hsq hfd =>
      have hfx : fxs ≠ [] := fun e => by
        subst e
        have e0 : r.2.1 = [] := List.length_eq_zero_iff.mp (DpAll.len hfd).symm
        rw [e0, tr] at htq
        cases htq
      have sm3 : L2.Same H'' (upd (upd (upd H'' p1 (.lst (ys.reverse.drop (ys.length - r.2.2)))) p2 (.lst (ys.take r.2.2))) p3 (.tup (ys.take r.2.2))) := ((same_upd h1).trans (same_upd h2)).trans (same_upd h3)
      have e3 : (upd (upd (upd H'' p1 (.lst (ys.reverse.drop (ys.length - r.2.2)))) p2 (.lst (ys.take r.2.2))) p3 (.tup (ys.take r.2.2))) p3 = some (.tup (ys.take r.2.2)) := upd_same
      generalize (upd (upd (upd H'' p1 (.lst (ys.reverse.drop (ys.length - r.2.2)))) p2 (.lst (ys.take r.2.2))) p3 (.tup (ys.take r.2.2))) = H3 at sm3 e3 ⊢
      have lf : fxs.length ≤ 3 := by rw [DpAll.len hfd]; exact h3l r (List.mem_of_getElem? hr1)
      have trt : tr (.tuple (r.2.1 ++ st.take r.2.2)) = true := by
        rw [tr, Bool.and_eq_true] at htq ⊢
        refine ⟨?_, trL_iff.mpr fun x hx => ?_⟩
        · have h0 := htq.1
          cases e : r.2.1 with
          | nil => rw [e] at h0; cases h0
          | cons a b => rfl
        · rcases List.mem_append.mp hx with h | h
          · exact trL_iff.mp htq.2 x h
          · exact trL_iff.mp (trL_take htr _) x h
      have dpk : ∀ {H4 : Hp} {tq : Addr}, L2.Same H'' H4 → SqT K H4 tq (fxs ++ ys.take r.2.2) → Dp K H4 (.ref tq) (.tuple (r.2.1 ++ st.take r.2.2)) := fun s4 h4 =>
        .tup h4 (DpAll.app (DpAll.tx (TX.same (sm.trans s4)) hfd (by rw [tr, Bool.and_eq_true] at htq; exact htq.2)) (DpAll.tx (TX.same s4) (DpAll.take _ hd) (trL_take htr _)))
      refine ⟨q, p3, fxs, _, rfl, rfl, My.Same.sqT (sm.trans sm3) hsq, SqT.of e3, small (by rw [List.length_take]; omega), fun e => absurd e hfx, fun _ e => ?_, fun _ _ p4 h4 => ?_⟩
      · have sm4 := sm3
        have hT : SqT K H3 q (fxs ++ ys.take r.2.2) := by rw [e, List.append_nil]; exact My.Same.sqT (sm.trans sm3) hsq
        generalize H3 = H4 at sm4 hT ⊢
        generalize q = tq at hT ⊢
        have dpt := dpk sm4 hT
        (repeat (first
      | refine ⟨_, rfl, ?_⟩
      | refine ⟨_, _, rfl, rfl, ?_⟩
      | refine Or.inl ⟨_, rfl, ?_⟩
      | refine Or.inr ⟨_, rfl, ?_⟩
      | refine ⟨Or.inl ⟨by decide, by decide⟩, ?_⟩
      | refine ⟨Or.inr ⟨by decide, by decide⟩, ?_⟩
      | refine ⟨⟨by decide, by decide⟩, ?_⟩
      | refine ⟨⟨by decide, by decide, by decide⟩, ?_⟩
      | refine ⟨by decide, ?_⟩
      | refine ⟨(by show (0 : Int) < _; decide), ?_⟩
      | refine ⟨rfl, ?_⟩
      | refine ⟨⟨_, rfl⟩, ?_⟩
      | refine ⟨_, rfl, rfl, trivial, ?_⟩
      | refine ⟨_, _, rfl, ?_⟩))
        refine ⟨ta, _, ys.length - r.2.2, rfl, congrArg V.int er, by rw [List.length_reverse]; omega, sm4 _ _ ht, ?_⟩
        rw [rev_take c']
        have tx5 : TX K H4 (upd H4 ta (.lst (ys.drop r.2.2).reverse)) := TX.lst (sm4 _ _ ht)
        refine ⟨_, rfl, ?_⟩
        refine ⟨.inl ⟨rfl, _, SqL.of upd_same⟩, ?_⟩
        (repeat (first
      | refine ⟨_, rfl, ?_⟩
      | refine ⟨_, _, rfl, rfl, ?_⟩
      | refine Or.inl ⟨_, rfl, ?_⟩
      | refine Or.inr ⟨_, rfl, ?_⟩
      | refine ⟨Or.inl ⟨by decide, by decide⟩, ?_⟩
      | refine ⟨Or.inr ⟨by decide, by decide⟩, ?_⟩
      | refine ⟨⟨by decide, by decide⟩, ?_⟩
      | refine ⟨⟨by decide, by decide, by decide⟩, ?_⟩
      | refine ⟨by decide, ?_⟩
      | refine ⟨(by show (0 : Int) < _; decide), ?_⟩
      | refine ⟨rfl, ?_⟩
      | refine ⟨⟨_, rfl⟩, ?_⟩
      | refine ⟨_, rfl, rfl, trivial, ?_⟩
      | refine ⟨_, _, rfl, ?_⟩))
        refine ⟨ta, _, _, rfl, rfl, upd_same, smallL (by rw [List.length_reverse, List.length_drop]; omega), ?_⟩
        have tx6 : TX K H4 (upd (upd H4 ta (.lst (ys.drop r.2.2).reverse)) ta (.lst ((ys.drop r.2.2).reverse ++ [.ref tq]))) := tx5.trans (TX.lst upd_same)
        refine ⟨_, _, _, _, .ref tq :: ys.drop r.2.2, _, rfl, ?_, ?_, ?_, (by rw [hdrop]; exact hn), fun b u hb => ?_, ?_, ?_⟩
        · rw [upd_same, List.reverse_cons]
        · refine .cons (Dp.tx tx6 dpt trt) (DpAll.tx tx6 (DpAll.tx (TX.same sm4) (DpAll.drop _ hd) (trL_drop htr _)) (trL_drop htr _))
        · rw [trL, trt, trL_drop htr]
          rfl
        · have hne : b ≠ ta := fun e => by rw [e, hta] at hb; cases hb
          rw [upd_ne hne, upd_ne hne]
          exact sm4 _ _ (sm _ _ hb)
        · show (ys.drop r.2.2).length + 1 ≤ i + 1
          rw [List.length_drop]
          omega
        · intro y hy
          rcases List.mem_cons.mp hy with rfl | hy
          · exact ⟨_, rfl⟩
          · exact hrf y (List.mem_of_mem_drop hy)
      · have sm4 : L2.Same H'' (upd H3 p4 (.tup (fxs ++ ys.take r.2.2))) := sm3.trans (same_upd h4)
        have hT : SqT K (upd H3 p4 (.tup (fxs ++ ys.take r.2.2))) p4 (fxs ++ ys.take r.2.2) := SqT.of upd_same
        generalize (upd H3 p4 (.tup (fxs ++ ys.take r.2.2))) = H4 at sm4 hT ⊢
        generalize p4 = tq at hT ⊢
        have dpt := dpk sm4 hT
        (repeat (first
      | refine ⟨_, rfl, ?_⟩
      | refine ⟨_, _, rfl, rfl, ?_⟩
      | refine Or.inl ⟨_, rfl, ?_⟩
      | refine Or.inr ⟨_, rfl, ?_⟩
      | refine ⟨Or.inl ⟨by decide, by decide⟩, ?_⟩
      | refine ⟨Or.inr ⟨by decide, by decide⟩, ?_⟩
      | refine ⟨⟨by decide, by decide⟩, ?_⟩
      | refine ⟨⟨by decide, by decide, by decide⟩, ?_⟩
      | refine ⟨by decide, ?_⟩
      | refine ⟨(by show (0 : Int) < _; decide), ?_⟩
      | refine ⟨rfl, ?_⟩
      | refine ⟨⟨_, rfl⟩, ?_⟩
      | refine ⟨_, rfl, rfl, trivial, ?_⟩
      | refine ⟨_, _, rfl, ?_⟩))
        refine ⟨ta, _, ys.length - r.2.2, rfl, congrArg V.int er, by rw [List.length_reverse]; omega, sm4 _ _ ht, ?_⟩
        rw [rev_take c']
        have tx5 : TX K H4 (upd H4 ta (.lst (ys.drop r.2.2).reverse)) := TX.lst (sm4 _ _ ht)
        refine ⟨_, rfl, ?_⟩
        refine ⟨.inl ⟨rfl, _, SqL.of upd_same⟩, ?_⟩
        (repeat (first
      | refine ⟨_, rfl, ?_⟩
      | refine ⟨_, _, rfl, rfl, ?_⟩
      | refine Or.inl ⟨_, rfl, ?_⟩
      | refine Or.inr ⟨_, rfl, ?_⟩
      | refine ⟨Or.inl ⟨by decide, by decide⟩, ?_⟩
      | refine ⟨Or.inr ⟨by decide, by decide⟩, ?_⟩
      | refine ⟨⟨by decide, by decide⟩, ?_⟩
      | refine ⟨⟨by decide, by decide, by decide⟩, ?_⟩
      | refine ⟨by decide, ?_⟩
      | refine ⟨(by show (0 : Int) < _; decide), ?_⟩
      | refine ⟨rfl, ?_⟩
      | refine ⟨⟨_, rfl⟩, ?_⟩
      | refine ⟨_, rfl, rfl, trivial, ?_⟩
      | refine ⟨_, _, rfl, ?_⟩))
        refine ⟨ta, _, _, rfl, rfl, upd_same, smallL (by rw [List.length_reverse, List.length_drop]; omega), ?_⟩
        have tx6 : TX K H4 (upd (upd H4 ta (.lst (ys.drop r.2.2).reverse)) ta (.lst ((ys.drop r.2.2).reverse ++ [.ref tq]))) := tx5.trans (TX.lst upd_same)
        refine ⟨_, _, _, _, .ref tq :: ys.drop r.2.2, _, rfl, ?_, ?_, ?_, (by rw [hdrop]; exact hn), fun b u hb => ?_, ?_, ?_⟩
        · rw [upd_same, List.reverse_cons]
        · refine .cons (Dp.tx tx6 dpt trt) (DpAll.tx tx6 (DpAll.tx (TX.same sm4) (DpAll.drop _ hd) (trL_drop htr _)) (trL_drop htr _))
        · rw [trL, trt, trL_drop htr]
          rfl
        · have hne : b ≠ ta := fun e => by rw [e, hta] at hb; cases hb
          rw [upd_ne hne, upd_ne hne]
          exact sm4 _ _ (sm _ _ hb)
        · show (ys.drop r.2.2).length + 1 ≤ i + 1
          rw [List.length_drop]
          omega
        · intro y hy
          rcases List.mem_cons.mp hy with rfl | hy
          · exact ⟨_, rfl⟩
          · exact hrf y (List.mem_of_mem_drop hy)
  · rintro σ H' ⟨y2, y3, y4, y5, ys, st, rfl, ht, hd, htr, hb, sm, hys, hrf⟩
    rw [Nat.sub_self, List.drop_zero] at hb
    have ly := DpAll.len hd
    refine ⟨_, rfl, ta, _, rfl, .inl (SqL.of ht), ?_⟩
    (repeat (first
      | refine ⟨_, rfl, ?_⟩
      | refine ⟨_, _, rfl, rfl, ?_⟩
      | refine Or.inl ⟨_, rfl, ?_⟩
      | refine Or.inr ⟨_, rfl, ?_⟩
      | refine ⟨Or.inl ⟨by decide, by decide⟩, ?_⟩
      | refine ⟨Or.inr ⟨by decide, by decide⟩, ?_⟩
      | refine ⟨⟨by decide, by decide⟩, ?_⟩
      | refine ⟨⟨by decide, by decide, by decide⟩, ?_⟩
      | refine ⟨by decide, ?_⟩
      | refine ⟨(by show (0 : Int) < _; decide), ?_⟩
      | refine ⟨rfl, ?_⟩
      | refine ⟨⟨_, rfl⟩, ?_⟩
      | refine ⟨_, rfl, rfl, trivial, ?_⟩
      | refine ⟨_, _, rfl, ?_⟩))
    refine ite_nb (fun c => ?_) (fun c => ?_)
    · have c' : ys.length ≠ 1 := fun e => of_decide_eq_false c (by rw [List.length_reverse, e]; rfl)
      refine q0 (fun t e => ?_) H' sm
      rw [hb] at e
      rw [Option.some.inj e] at ly
      exact c' ly
    · have c' : ys.length = 1 := by
        have e := V.int.inj (of_decide_eq_true c)
        rw [List.length_reverse] at e
        omega
      cases hd with
      | nil => cases c'
      | @cons y t _ _ h1 h2 =>
        cases h2 with
        | cons _ _ => simp at c'
        | nil =>
          refine ⟨_, rfl, ta, _, 0, _, rfl, rfl, SqL.of ht, atI_nat (j := 0) rfl, ?_⟩
          exact q1 _ hb H' _ sm (by assumption) (by rw [trL, Bool.and_eq_true] at htr; exact htr.1) (hrf _ (List.mem_cons_self ..))
end
end My

namespace My
open PySem PySem.Spec PyProof.Rows L2 NumText TL
theorem upd_id {H : Hp} {a : Addr} {o : HO} (h : H a = some o) : upd H a o = H := by
  funext b
  by_cases e : b = a
  · subst e; rw [upd_same, h]
  · rw [upd_ne e]
def inter : List V → List V
  | [] => []
  | y :: r => y :: .str "," :: inter r
theorem inter_len : ∀ r : List V, (inter r).length = 2 * r.length
  | [] => rfl
  | y :: r => by
    show (inter r).length + 1 + 1 = 2 * (r.length + 1)
    rw [inter_len r]
    omega
theorem inter_snoc (y : V) : ∀ r : List V, inter (r ++ [y]) = inter r ++ [y, .str ","]
  | [] => rfl
  | z :: r => by
    show z :: .str "," :: inter (r ++ [y]) = _
    rw [inter_snoc y r]
    rfl
theorem inter_end {K : PySem.W.Frag} {H : Hp} : ∀ {y : V} {r : List V} {d : PyData} {dr : List PyData}, Dp K H y d → DpAll K H r dr → ∃ a, inter (y :: r) = a ++ [.str ","] ∧ DpAll K H (a ++ [.str ")"]) (d :: itC dr)
  | y, _, d, _, h, .nil => ⟨[y], rfl, .cons h (.cons (.str _) .nil)⟩
  | y, _, d, _, h, .cons (v := y2) (vs := r2) h2 t => by
    obtain ⟨a, e, q⟩ := inter_end h2 t
    refine ⟨y :: .str "," :: a, ?_, .cons h (.cons (.str _) q)⟩
    show y :: .str "," :: inter (y2 :: r2) = _
    rw [e]
    rfl
section
variable {P : Program} {w : World} {K : PySem.W.Frag} {mg : Str → Option Value} {base : Heap}
/-! ### _items -/
def sp_items (K : PySem.W.Frag) : Sp := fun vs H Q _ => ∃ (p : Addr) (ds : List PyData), vs = [.ref p] ∧ Dp K H (.ref p) (.tuple ds) ∧ ds ≠ [] ∧ ds.length ≤ 10000 ∧
  ∀ l ys H', L2.Same H H' → H l = none → H' l = some (.lst ys) → DpAll K H ys (items ds) → Q (.ref l) H'
theorem ok_items (T : Top K mg w) : FnOk P w K mg base CX0 1 T.a_items T.d_items ["tree"] (sp_items K) := by
  refine T.F_items.ok sc_items (fun vs H Q E h => ?_) (fun cdv A outer s H vs Q E hr h => ?_)
  · obtain ⟨p, ds, rfl, _⟩ := h
    rfl
  obtain ⟨p, ds, rfl, hd, hne, hl, q⟩ := h
  cases hd with
  | @tup _ xs _ hT hA =>
  have ll := DpAll.len hA
  refine ⟨_, (pss_cons (ps_if (pt_cmpR op_eq (pe_callB call_len_seq (by rfl) T.z_len (by decide +kernel) (pa_cons (pv 0) pa_nil)) pe_int (nomark _))
        (pss_one (ps_ret (pe_lst (pa_cons (pe_ix ix_tup (pv 0) pe_int (fun _ _ => rfl)) pa_nil))))
        pss_nil)
      (pss_cons (ps_set (i := 1) sc_items.nd rfl (Or.inl rfl) (pe_lst (pa_cons (pe_ix ix_tup (pv 0) pe_int (fun _ _ => rfl)) (pa_cons pe_str pa_nil))))
      (pss_cons (ps_for PassesOwn.never rfl (pi_tup (pe_slice sl_tupA (pv 0) (po_some pe_int) po_none)) (pg_name (i := 2) sc_items.nd rfl (Or.inl rfl))
        (pss_cons (ps_expr (pe_bm PySem.F.plainAttrs_list PySem.F.slot_list_append PySem.F.type_list_append mt_append (pv 1) (pa_cons (pv 2) pa_nil)))
      (pss_one (ps_expr (pe_bm PySem.F.plainAttrs_list PySem.F.slot_list_append PySem.F.type_list_append mt_append (pv 1) (pa_cons pe_str pa_nil))))))
      (pss_cons (ps_asg pe_str (pg_sub (pv 1) (pe_un un_neg pe_int) set_list))
      (pss_one (ps_ret (pv 1))))))), ?_⟩
  refine ⟨_, rfl, p, _, rfl, .inr hT, ?_⟩
  (repeat (first
      | refine ⟨_, rfl, ?_⟩
      | refine ⟨_, _, rfl, rfl, ?_⟩
      | refine Or.inl ⟨_, rfl, ?_⟩
      | refine Or.inr ⟨_, rfl, ?_⟩
      | refine ⟨Or.inl ⟨by decide, by decide⟩, ?_⟩
      | refine ⟨Or.inr ⟨by decide, by decide⟩, ?_⟩
      | refine ⟨⟨by decide, by decide⟩, ?_⟩
      | refine ⟨⟨by decide, by decide, by decide⟩, ?_⟩
      | refine ⟨by decide, ?_⟩
      | refine ⟨(by show (0 : Int) < _; decide), ?_⟩
      | refine ⟨rfl, ?_⟩
      | refine ⟨⟨_, rfl⟩, ?_⟩
      | refine ⟨_, rfl, rfl, trivial, ?_⟩
      | refine ⟨_, _, rfl, ?_⟩))
  refine ite_dec (fun c => ?_) (fun c => ?_)
  · have c' : xs.length = 1 := by have := V.int.inj c; omega
    cases hA with
    | nil => cases c'
    | @cons x0 xr d0 dr h0 hr0 =>
      cases hr0 with
      | cons _ _ => simp at c'
      | nil =>
        refine ⟨_, rfl, p, _, 0, _, rfl, rfl, hT, atI_nat (j := 0) rfl, ?_⟩
        refine ⟨by show 1 ≤ sizeLine; decide, fun l hl' => ?_⟩
        exact q l _ _ (same_upd hl') hl' upd_same (.cons h0 .nil)
  · cases hA with
    | nil => exact absurd rfl hne
    | @cons x0 xr d0 dr h0 hr0 =>
      cases hr0 with
      | nil => exact absurd rfl c
      | @cons x1 xq d1 dq h1 hr1 =>
        (repeat (first
      | refine ⟨_, rfl, ?_⟩
      | refine ⟨_, _, rfl, rfl, ?_⟩
      | refine Or.inl ⟨_, rfl, ?_⟩
      | refine Or.inr ⟨_, rfl, ?_⟩
      | refine ⟨Or.inl ⟨by decide, by decide⟩, ?_⟩
      | refine ⟨Or.inr ⟨by decide, by decide⟩, ?_⟩
      | refine ⟨⟨by decide, by decide⟩, ?_⟩
      | refine ⟨⟨by decide, by decide, by decide⟩, ?_⟩
      | refine ⟨by decide, ?_⟩
      | refine ⟨(by show (0 : Int) < _; decide), ?_⟩
      | refine ⟨rfl, ?_⟩
      | refine ⟨⟨_, rfl⟩, ?_⟩
      | refine ⟨_, rfl, rfl, trivial, ?_⟩
      | refine ⟨_, _, rfl, ?_⟩))
        refine ⟨p, _, 0, _, rfl, rfl, hT, atI_nat (j := 0) rfl, ?_⟩
        (repeat (first
      | refine ⟨_, rfl, ?_⟩
      | refine ⟨_, _, rfl, rfl, ?_⟩
      | refine Or.inl ⟨_, rfl, ?_⟩
      | refine Or.inr ⟨_, rfl, ?_⟩
      | refine ⟨Or.inl ⟨by decide, by decide⟩, ?_⟩
      | refine ⟨Or.inr ⟨by decide, by decide⟩, ?_⟩
      | refine ⟨⟨by decide, by decide⟩, ?_⟩
      | refine ⟨⟨by decide, by decide, by decide⟩, ?_⟩
      | refine ⟨by decide, ?_⟩
      | refine ⟨(by show (0 : Int) < _; decide), ?_⟩
      | refine ⟨rfl, ?_⟩
      | refine ⟨⟨_, rfl⟩, ?_⟩
      | refine ⟨_, rfl, rfl, trivial, ?_⟩
      | refine ⟨_, _, rfl, ?_⟩))
        refine ⟨by show 2 ≤ sizeLine; decide, fun l hl' => ?_⟩
        have sml : ∀ o, L2.Same H (upd H l o) := fun o => same_upd hl'
        (repeat (first
      | refine ⟨_, rfl, ?_⟩
      | refine ⟨_, _, rfl, rfl, ?_⟩
      | refine Or.inl ⟨_, rfl, ?_⟩
      | refine Or.inr ⟨_, rfl, ?_⟩
      | refine ⟨Or.inl ⟨by decide, by decide⟩, ?_⟩
      | refine ⟨Or.inr ⟨by decide, by decide⟩, ?_⟩
      | refine ⟨⟨by decide, by decide⟩, ?_⟩
      | refine ⟨⟨by decide, by decide, by decide⟩, ?_⟩
      | refine ⟨by decide, ?_⟩
      | refine ⟨(by show (0 : Int) < _; decide), ?_⟩
      | refine ⟨rfl, ?_⟩
      | refine ⟨⟨_, rfl⟩, ?_⟩
      | refine ⟨_, rfl, rfl, trivial, ?_⟩
      | refine ⟨_, _, rfl, ?_⟩))
        refine ⟨p, _, rfl, My.Same.sqT (sml _) hT, fun e => ?_, fun _ t ht => ?_⟩
        · exfalso
          have e1 := e.1
          rw [show (1 : Int) = ((1 : Nat) : Int) from rfl, HT.sIx_nat] at e1
          simp only [List.length_cons] at e1
          omega
        have ec : cutV (x0 :: x1 :: xq) (some 1) none = x1 :: xq := cut_end (a := 1) (by simp)
        rw [ec]
        have hlt : l ≠ t := fun e => by rw [e, ← e, upd_same] at ht; cases ht
        refine ⟨t, rfl, ⟨_, SqT.of upd_same⟩, for_tup (xs := x1 :: xq) (fun i σ H' => ∃ y2, σ = [some (.ref p), some (.ref l), y2] ∧ H' = upd (upd (upd H l (.lst [x0, .str "("])) t (.tup (x1 :: xq))) l (.lst (x0 :: .str "(" :: inter ((x1 :: xq).take i)))) ?_ ?_ ?_ ?_⟩
        · refine ⟨none, rfl, ?_⟩
          exact (upd_id (by rw [upd_ne hlt, upd_same]; rfl)).symm
        · rintro i σ H' _ ⟨y2, rfl, rfl⟩
          exact SqT.of (by rw [upd_ne (Ne.symm hlt), upd_same])
        · rintro i x σ H' hi ⟨y2, rfl, rfl⟩
          have hi2 : i < (x1 :: xq).length := (List.getElem?_eq_some_iff.mp hi).1
          have ti : (x1 :: xq).take (i + 1) = (x1 :: xq).take i ++ [x] := by
            obtain ⟨h3, h4⟩ := List.getElem?_eq_some_iff.mp hi
            rw [List.take_succ_eq_append_getElem h3, h4]
          have lb : (x0 :: .str "(" :: inter ((x1 :: xq).take i)).length ≤ 30000 := by
            simp only [List.length_cons, inter_len, List.length_take] at ll hl ⊢
            omega
          (repeat (first
      | refine ⟨_, rfl, ?_⟩
      | refine ⟨_, _, rfl, rfl, ?_⟩
      | refine Or.inl ⟨_, rfl, ?_⟩
      | refine Or.inr ⟨_, rfl, ?_⟩
      | refine ⟨Or.inl ⟨by decide, by decide⟩, ?_⟩
      | refine ⟨Or.inr ⟨by decide, by decide⟩, ?_⟩
      | refine ⟨⟨by decide, by decide⟩, ?_⟩
      | refine ⟨⟨by decide, by decide, by decide⟩, ?_⟩
      | refine ⟨by decide, ?_⟩
      | refine ⟨(by show (0 : Int) < _; decide), ?_⟩
      | refine ⟨rfl, ?_⟩
      | refine ⟨⟨_, rfl⟩, ?_⟩
      | refine ⟨_, rfl, rfl, trivial, ?_⟩
      | refine ⟨_, _, rfl, ?_⟩))
          refine ⟨.inl ⟨rfl, _, SqL.of upd_same⟩, ?_⟩
          (repeat (first
      | refine ⟨_, rfl, ?_⟩
      | refine ⟨_, _, rfl, rfl, ?_⟩
      | refine Or.inl ⟨_, rfl, ?_⟩
      | refine Or.inr ⟨_, rfl, ?_⟩
      | refine ⟨Or.inl ⟨by decide, by decide⟩, ?_⟩
      | refine ⟨Or.inr ⟨by decide, by decide⟩, ?_⟩
      | refine ⟨⟨by decide, by decide⟩, ?_⟩
      | refine ⟨⟨by decide, by decide, by decide⟩, ?_⟩
      | refine ⟨by decide, ?_⟩
      | refine ⟨(by show (0 : Int) < _; decide), ?_⟩
      | refine ⟨rfl, ?_⟩
      | refine ⟨⟨_, rfl⟩, ?_⟩
      | refine ⟨_, rfl, rfl, trivial, ?_⟩
      | refine ⟨_, _, rfl, ?_⟩))
          refine ⟨l, _, _, rfl, rfl, upd_same, smallL (by omega), ?_⟩
          refine ⟨_, rfl, ?_⟩
          refine ⟨.inl ⟨rfl, _, SqL.of upd_same⟩, ?_⟩
          (repeat (first
      | refine ⟨_, rfl, ?_⟩
      | refine ⟨_, _, rfl, rfl, ?_⟩
      | refine Or.inl ⟨_, rfl, ?_⟩
      | refine Or.inr ⟨_, rfl, ?_⟩
      | refine ⟨Or.inl ⟨by decide, by decide⟩, ?_⟩
      | refine ⟨Or.inr ⟨by decide, by decide⟩, ?_⟩
      | refine ⟨⟨by decide, by decide⟩, ?_⟩
      | refine ⟨⟨by decide, by decide, by decide⟩, ?_⟩
      | refine ⟨by decide, ?_⟩
      | refine ⟨(by show (0 : Int) < _; decide), ?_⟩
      | refine ⟨rfl, ?_⟩
      | refine ⟨⟨_, rfl⟩, ?_⟩
      | refine ⟨_, rfl, rfl, trivial, ?_⟩
      | refine ⟨_, _, rfl, ?_⟩))
          refine ⟨l, _, _, rfl, rfl, upd_same, smallL (by rw [List.length_append]; show _ + 1 < 100000; omega), ?_⟩
          refine ⟨_, rfl, ?_⟩
          rw [upd_upd, upd_upd, ti, inter_snoc]
          simp
        · rintro σ H' ⟨y2, rfl, rfl⟩
          rw [List.take_of_length_le (Nat.le_refl _)]
          obtain ⟨a, ea, qa⟩ := inter_end h1 hr1
          rw [ea]
          have es : (x0 :: .str "(" :: (a ++ [V.str ","])).set (a.length + 2) (.str ")") = x0 :: .str "(" :: (a ++ [V.str ")"]) := by
            simp [List.set_append]
          (repeat (first
      | refine ⟨_, rfl, ?_⟩
      | refine ⟨_, _, rfl, rfl, ?_⟩
      | refine Or.inl ⟨_, rfl, ?_⟩
      | refine Or.inr ⟨_, rfl, ?_⟩
      | refine ⟨Or.inl ⟨by decide, by decide⟩, ?_⟩
      | refine ⟨Or.inr ⟨by decide, by decide⟩, ?_⟩
      | refine ⟨⟨by decide, by decide⟩, ?_⟩
      | refine ⟨⟨by decide, by decide, by decide⟩, ?_⟩
      | refine ⟨by decide, ?_⟩
      | refine ⟨(by show (0 : Int) < _; decide), ?_⟩
      | refine ⟨rfl, ?_⟩
      | refine ⟨⟨_, rfl⟩, ?_⟩
      | refine ⟨_, rfl, rfl, trivial, ?_⟩
      | refine ⟨_, _, rfl, ?_⟩))
          refine ⟨l, _, -1, a.length + 2, rfl, rfl, upd_same, ?_, ?_⟩
          · simp only [List.length_cons, List.length_append, List.length_nil]
            unfold ixN
            simp
            omega
          refine ⟨_, rfl, ?_⟩
          rw [es, upd_upd]
          refine q l _ _ (fun b u hb => ?_) hl' upd_same (.cons h0 (.cons (.str _) qa))
          have hbl : b ≠ l := fun e => by rw [e, hl'] at hb; cases hb
          have hbt : b ≠ t := fun e => by
            rw [e] at hb
            rw [upd_ne (Ne.symm hlt), hb] at ht
            cases ht
          rw [upd_ne hbl, upd_ne hbt, upd_ne hbl]
          exact hb
end
end My

namespace My
open PySem PySem.Spec PyProof.Rows L2 NumText TL
def cat : List Str → List Nat
  | [] => []
  | p :: r => tl p ++ cat r
theorem cat_snoc (y : Str) : ∀ ps, cat (ps ++ [y]) = cat ps ++ tl y
  | [] => by simp [cat]
  | p :: r => by
    show tl p ++ cat (r ++ [y]) = tl p ++ cat r ++ tl y
    rw [cat_snoc y r, List.append_assoc]
theorem cat_len : ∀ ps : List Str, (ps.map (·.length)).sum = (cat ps).length
  | [] => rfl
  | p :: r => by
    rw [List.map_cons, List.sum_cons, cat_len r]
    show _ = (tl p ++ cat r).length
    rw [List.length_append, tl_len]
theorem DpAll.last {K : PySem.W.Frag} {H : Hp} : ∀ {xs : List V} {ds : List PyData}, DpAll K H xs ds → xs ≠ [] → ∃ xs' y ds' e, xs = xs' ++ [y] ∧ ds = ds' ++ [e] ∧ DpAll K H xs' ds' ∧ Dp K H y e
  | _, _, .nil, h => absurd rfl h
  | _, _, .cons (v := x) (d := d) h .nil, _ => ⟨[], x, [], d, rfl, rfl, .nil, h⟩
  | _, _, .cons (v := x) (d := d) h (.cons h2 t), _ => by
    obtain ⟨xs', y, ds', e, e1, e2, h3, h4⟩ := DpAll.last (.cons h2 t) (List.cons_ne_nil _ _)
    exact ⟨x :: xs', y, d :: ds', e, by rw [e1]; rfl, by rw [e2]; rfl, .cons h h3, h4⟩
theorem DpAll.rev {K : PySem.W.Frag} {H : Hp} : ∀ {xs : List V} {ds : List PyData}, DpAll K H xs ds → DpAll K H xs.reverse ds.reverse
  | _, _, .nil => .nil
  | _, _, .cons h t => by
    rw [List.reverse_cons, List.reverse_cons]
    exact DpAll.app (DpAll.rev t) (.cons h .nil)
theorem joinL_cat : ∀ ps : List Str, joinL [] (ps.map tl) = cat ps
  | [] => rfl
  | [p] => by
    show tl p = tl p ++ []
    rw [List.append_nil]
  | p :: q :: r => by
    show tl p ++ ([] ++ joinL [] ((q :: r).map tl)) = tl p ++ cat (q :: r)
    rw [joinL_cat (q :: r)]
    rfl
section
variable {P : Program} {w : World} {K : PySem.W.Frag} {mg : Str → Option Value} {base : Heap}
/-! ### write_question -/
def sp_write (K : PySem.W.Frag) : Sp := fun vs H Q _ => ∃ (x : V) (d : PyData), vs = [x] ∧ Dp K H x d ∧ tr d = true ∧ ms d ≤ 10000 ∧ (wr d).length ≤ 1000000 ∧ ∀ H', L2.Same H H' → Q (.str (S (wr d))) H'
theorem ok_write_question (T : Top K mg w) : FnOk P w K mg base CX0 2 T.a_write_question T.d_write_question ["tree"] (sp_write K) := by
  refine T.F_write_question.ok sc_write_question (fun vs H Q E h => ?_) (fun cdv A outer s H vs Q E hr h => ?_)
  · obtain ⟨x, d, rfl, _⟩ := h
    rfl
  obtain ⟨x, d, rfl, hd, htr, hm, hw, q⟩ := h
  refine ⟨_, (pss_cons (ps_set (i := 1) sc_write_question.nd rfl (Or.inl rfl) (pe_lst pa_nil))
      (pss_cons (ps_set (i := 2) sc_write_question.nd rfl (Or.inl rfl) (pe_lst (pa_cons (pv 0) pa_nil)))
      (pss_cons (ps_while PassesOwn.never (pt_truth (pv 2) (by intro _; rfl))
        (pss_cons (ps_set (i := 3) sc_write_question.nd rfl (Or.inl rfl) (pe_bm0 PySem.F.plainAttrs_list PySem.F.slot_list_pop PySem.F.type_list_pop mt_pop (pv 2)))
      (pss_one (ps_if (pt_val (pe_callB (show CallR _ (.builtin "isinstance") (rIsi K) from call_isi) (by rfl) T.z_isinstance (by decide +kernel) (pa_cons (pv 3) (pa_cons (pe_bltn (v := .ty "tuple") (u := .type "tuple") (by rfl) T.z_tuple (by decide +kernel) rfl) pa_nil))))
        (pss_one (ps_expr (pe_bm PySem.F.plainAttrs_list PySem.F.slot_list_extend PySem.F.type_list_extend mt_extend (pv 2) (pa_cons (pe_revL (pe_call ((ok_items T).mono (by decide)) hr (by rfl) T.m_items T.F_items.kp T.b_items .nil pass0 (pa_cons (pv 3) pa_nil))) pa_nil))))
        (pss_one (ps_expr (pe_bm PySem.F.plainAttrs_list PySem.F.slot_list_append PySem.F.type_list_append mt_append (pv 1) (pa_cons (pe_callTy call_str_any (by rfl) T.z_str (by decide +kernel) (pa_cons (pv 3) pa_nil)) pa_nil))))))))
      (pss_one (ps_ret (pe_m1 PySem.F.slot_str_join PySem.F.type_str_join mt_join pe_str (pv 1))))))), ?_⟩
  refine ⟨by show 0 ≤ sizeLine; decide, fun pc hpc => ?_⟩
  (repeat (first
      | refine ⟨_, rfl, ?_⟩
      | refine ⟨_, _, rfl, rfl, ?_⟩
      | refine Or.inl ⟨_, rfl, ?_⟩
      | refine Or.inr ⟨_, rfl, ?_⟩
      | refine ⟨Or.inl ⟨by decide, by decide⟩, ?_⟩
      | refine ⟨Or.inr ⟨by decide, by decide⟩, ?_⟩
      | refine ⟨⟨by decide, by decide⟩, ?_⟩
      | refine ⟨⟨by decide, by decide, by decide⟩, ?_⟩
      | refine ⟨by decide, ?_⟩
      | refine ⟨(by show (0 : Int) < _; decide), ?_⟩
      | refine ⟨rfl, ?_⟩
      | refine ⟨⟨_, rfl⟩, ?_⟩
      | refine ⟨_, rfl, rfl, trivial, ?_⟩
      | refine ⟨_, _, rfl, ?_⟩))
  refine ⟨by show 1 ≤ sizeLine; decide, fun wt hwt => ?_⟩
  have hne : wt ≠ pc := fun e => by rw [e, upd_same] at hwt; cases hwt
  have sm0 : L2.Same H (upd (upd H pc (.lst [])) wt (.lst [x])) := (same_upd hpc).trans (same_upd hwt)
  have w0 : wt = wt ∧ H wt = none := ⟨rfl, by rw [upd_ne hne] at hwt; exact hwt⟩
  refine ⟨fun m σ H' => ∃ (xs : List V) (ds : List PyData) (ps : List Str) (y3 : Option V), σ = [some x, some (.ref pc), some (.ref wt), y3] ∧ H' wt = some (.lst xs) ∧ H' pc = some (.lst (ps.map V.str)) ∧ DpAll K H' xs ds ∧ trL ds = true ∧ L2.Same H H' ∧ cat ps ++ fl ds.reverse = wr d ∧ m = mf ds ∧ mf ds + ps.length ≤ ms d, ⟨_, [x], [d], [], none, rfl, upd_same, by rw [upd_ne (Ne.symm hne), upd_same]; rfl, .cons (Dp.same sm0 hd) .nil, by rw [trL, trL, htr]; rfl, sm0, by show [] ++ (wr d ++ []) = _; simp, rfl, by show ms d + 0 + 0 ≤ _; omega⟩, ?_⟩
  rintro m σ H' ⟨xs, ds, ps, y3, rfl, hx, hp, hdd, ht, sm, hc, rfl, hmf⟩
  have lx := DpAll.len hdd
  have lm := len_mf ds
  refine ⟨_, rfl, !xs.isEmpty, .inl ⟨xs, SqL.of hx, rfl⟩, ?_⟩
  refine ite_b (fun c => ?_) (fun c => ?_)
  · have hxs : xs ≠ [] := fun e => by rw [e] at c; cases c
    obtain ⟨xs', y, ds', e, rfl, rfl, hd', hy⟩ := DpAll.last hdd hxs
    have hte : tr e = true := trL_iff.mp ht e (by simp)
    have htd : trL ds' = true := trL_iff.mpr fun z hz => trL_iff.mp ht z (by simp [hz])
    have hmf' : mf (ds' ++ [e]) = mf ds' + ms e := by rw [mf_app]; rfl
    have hfl : fl (ds' ++ [e]).reverse = wr e ++ fl ds'.reverse := by rw [List.reverse_append]; rfl
    rw [hfl] at hc
    rw [hmf'] at hmf lm ⊢
    refine ⟨fun σ' H'' => ∃ m', m' < mf ds' + ms e ∧ ∃ (xs : List V) (ds : List PyData) (ps : List Str) (y3 : Option V), σ' = [some x, some (.ref pc), some (.ref wt), y3] ∧ H'' wt = some (.lst xs) ∧ H'' pc = some (.lst (ps.map V.str)) ∧ DpAll K H'' xs ds ∧ trL ds = true ∧ L2.Same H H'' ∧ cat ps ++ fl ds.reverse = wr d ∧ m' = mf ds ∧ mf ds + ps.length ≤ ms d, fun _ _ h => h, ?_⟩
    (repeat (first
      | refine ⟨_, rfl, ?_⟩
      | refine ⟨_, _, rfl, rfl, ?_⟩
      | refine Or.inl ⟨_, rfl, ?_⟩
      | refine Or.inr ⟨_, rfl, ?_⟩
      | refine ⟨Or.inl ⟨by decide, by decide⟩, ?_⟩
      | refine ⟨Or.inr ⟨by decide, by decide⟩, ?_⟩
      | refine ⟨⟨by decide, by decide⟩, ?_⟩
      | refine ⟨⟨by decide, by decide, by decide⟩, ?_⟩
      | refine ⟨by decide, ?_⟩
      | refine ⟨(by show (0 : Int) < _; decide), ?_⟩
      | refine ⟨rfl, ?_⟩
      | refine ⟨⟨_, rfl⟩, ?_⟩
      | refine ⟨_, rfl, rfl, trivial, ?_⟩
      | refine ⟨_, _, rfl, ?_⟩))
    refine ⟨.inl ⟨rfl, _, SqL.of hx⟩, ?_⟩
    refine ⟨wt, _, y, rfl, rfl, hx, by simp, ?_⟩
    rw [List.dropLast_concat]
    have tx1 : TX K H' (upd H' wt (.lst xs')) := TX.lst hx
    have hx1 : (upd H' wt (.lst xs')) wt = some (.lst xs') := upd_same
    have hp1 : (upd H' wt (.lst xs')) pc = some (.lst (ps.map V.str)) := by rw [upd_ne (Ne.symm hne)]; exact hp
    have sm1 : L2.Same H (upd H' wt (.lst xs')) := fun b u hb => by
      rw [upd_ne (fun z => by rw [z, w0.2] at hb; cases hb)]
      exact sm _ _ hb
    have hy1 := Dp.tx tx1 hy hte
    have hd1 := DpAll.tx tx1 hd' htd
    generalize upd H' wt (.lst xs') = H1 at hx1 hp1 sm1 hy1 hd1 ⊢
    have pos := ms_pos e
    cases hy1 with
    | non => rw [tr] at hte <;> first | cases hte | (intros; rename_i z; cases z)
    | bl b => rw [tr] at hte <;> first | cases hte | (intros; rename_i z; cases z)
    | lst _ _ => rw [tr] at hte <;> first | cases hte | (intros; rename_i z; cases z)
    | str b =>
      (repeat (first
      | refine ⟨_, rfl, ?_⟩
      | refine ⟨_, _, rfl, rfl, ?_⟩
      | refine Or.inl ⟨_, rfl, ?_⟩
      | refine Or.inr ⟨_, rfl, ?_⟩
      | refine ⟨Or.inl ⟨by decide, by decide⟩, ?_⟩
      | refine ⟨Or.inr ⟨by decide, by decide⟩, ?_⟩
      | refine ⟨⟨by decide, by decide⟩, ?_⟩
      | refine ⟨⟨by decide, by decide, by decide⟩, ?_⟩
      | refine ⟨by decide, ?_⟩
      | refine ⟨(by show (0 : Int) < _; decide), ?_⟩
      | refine ⟨rfl, ?_⟩
      | refine ⟨⟨_, rfl⟩, ?_⟩
      | refine ⟨_, rfl, rfl, trivial, ?_⟩
      | refine ⟨_, _, rfl, ?_⟩))
      refine ⟨_, _, _, _, false, rfl, .ty _, Dp.ty (.str b), isi_e "str" "tuple" false rfl (by decide +kernel), ?_⟩
      (repeat (first
      | refine ⟨_, rfl, ?_⟩
      | refine ⟨_, _, rfl, rfl, ?_⟩
      | refine Or.inl ⟨_, rfl, ?_⟩
      | refine Or.inr ⟨_, rfl, ?_⟩
      | refine ⟨Or.inl ⟨by decide, by decide⟩, ?_⟩
      | refine ⟨Or.inr ⟨by decide, by decide⟩, ?_⟩
      | refine ⟨⟨by decide, by decide⟩, ?_⟩
      | refine ⟨⟨by decide, by decide, by decide⟩, ?_⟩
      | refine ⟨by decide, ?_⟩
      | refine ⟨(by show (0 : Int) < _; decide), ?_⟩
      | refine ⟨rfl, ?_⟩
      | refine ⟨⟨_, rfl⟩, ?_⟩
      | refine ⟨_, rfl, rfl, trivial, ?_⟩
      | refine ⟨_, _, rfl, ?_⟩))
      refine ⟨.inl ⟨rfl, _, SqL.of hp1⟩, ?_⟩
      (repeat (first
      | refine ⟨_, rfl, ?_⟩
      | refine ⟨_, _, rfl, rfl, ?_⟩
      | refine Or.inl ⟨_, rfl, ?_⟩
      | refine Or.inr ⟨_, rfl, ?_⟩
      | refine ⟨Or.inl ⟨by decide, by decide⟩, ?_⟩
      | refine ⟨Or.inr ⟨by decide, by decide⟩, ?_⟩
      | refine ⟨⟨by decide, by decide⟩, ?_⟩
      | refine ⟨⟨by decide, by decide, by decide⟩, ?_⟩
      | refine ⟨by decide, ?_⟩
      | refine ⟨(by show (0 : Int) < _; decide), ?_⟩
      | refine ⟨rfl, ?_⟩
      | refine ⟨⟨_, rfl⟩, ?_⟩
      | refine ⟨_, rfl, rfl, trivial, ?_⟩
      | refine ⟨_, _, rfl, ?_⟩))
      refine ⟨pc, _, _, rfl, rfl, hp1, smallL (by rw [List.length_map]; omega), ?_⟩
      refine ⟨mf ds', by omega, xs', ds', ps ++ [b], _, rfl, by rw [upd_ne hne]; exact hx1, by rw [upd_same, List.map_append]; rfl, DpAll.tx (TX.lst hp1) hd1 htd, htd, fun b' u hb => ?_, ?_, rfl, by rw [List.length_append]; show _ + (_ + 1) ≤ _; omega⟩
      · rw [upd_ne (fun z => by rw [z, hpc] at hb; cases hb)]
        exact sm1 _ _ hb
      · rw [cat_snoc, List.append_assoc, ← hc]
        rw [show wr (.str b) = tl b from by rw [wr]; try rfl]
    | int b =>
      have hb' : b.natAbs < 1000 := by rw [tr] at hte; exact of_decide_eq_true hte
      have hlog : b.natAbs.log2 < 1920 := by
        by_cases z : b.natAbs = 0
        · rw [z]; decide
        · exact (Nat.log2_lt z).mpr (Nat.lt_trans hb' (by decide +kernel))
      (repeat (first
      | refine ⟨_, rfl, ?_⟩
      | refine ⟨_, _, rfl, rfl, ?_⟩
      | refine Or.inl ⟨_, rfl, ?_⟩
      | refine Or.inr ⟨_, rfl, ?_⟩
      | refine ⟨Or.inl ⟨by decide, by decide⟩, ?_⟩
      | refine ⟨Or.inr ⟨by decide, by decide⟩, ?_⟩
      | refine ⟨⟨by decide, by decide⟩, ?_⟩
      | refine ⟨⟨by decide, by decide, by decide⟩, ?_⟩
      | refine ⟨by decide, ?_⟩
      | refine ⟨(by show (0 : Int) < _; decide), ?_⟩
      | refine ⟨rfl, ?_⟩
      | refine ⟨⟨_, rfl⟩, ?_⟩
      | refine ⟨_, rfl, rfl, trivial, ?_⟩
      | refine ⟨_, _, rfl, ?_⟩))
      refine ⟨_, _, _, _, false, rfl, .ty _, Dp.ty (.int b), isi_e "int" "tuple" false rfl (by decide +kernel), ?_⟩
      (repeat (first
      | refine ⟨_, rfl, ?_⟩
      | refine ⟨_, _, rfl, rfl, ?_⟩
      | refine Or.inl ⟨_, rfl, ?_⟩
      | refine Or.inr ⟨_, rfl, ?_⟩
      | refine ⟨Or.inl ⟨by decide, by decide⟩, ?_⟩
      | refine ⟨Or.inr ⟨by decide, by decide⟩, ?_⟩
      | refine ⟨⟨by decide, by decide⟩, ?_⟩
      | refine ⟨⟨by decide, by decide, by decide⟩, ?_⟩
      | refine ⟨by decide, ?_⟩
      | refine ⟨(by show (0 : Int) < _; decide), ?_⟩
      | refine ⟨rfl, ?_⟩
      | refine ⟨⟨_, rfl⟩, ?_⟩
      | refine ⟨_, rfl, rfl, trivial, ?_⟩
      | refine ⟨_, _, rfl, ?_⟩))
      refine ⟨.inl ⟨rfl, _, SqL.of hp1⟩, ?_⟩
      (repeat (first
      | refine ⟨_, rfl, ?_⟩
      | refine ⟨_, _, rfl, rfl, ?_⟩
      | refine Or.inl ⟨_, rfl, ?_⟩
      | refine Or.inr ⟨_, rfl, ?_⟩
      | refine ⟨Or.inl ⟨by decide, by decide⟩, ?_⟩
      | refine ⟨Or.inr ⟨by decide, by decide⟩, ?_⟩
      | refine ⟨⟨by decide, by decide⟩, ?_⟩
      | refine ⟨⟨by decide, by decide, by decide⟩, ?_⟩
      | refine ⟨by decide, ?_⟩
      | refine ⟨(by show (0 : Int) < _; decide), ?_⟩
      | refine ⟨rfl, ?_⟩
      | refine ⟨⟨_, rfl⟩, ?_⟩
      | refine ⟨_, rfl, rfl, trivial, ?_⟩
      | refine ⟨_, _, rfl, ?_⟩))
      refine ⟨hlog, ?_⟩
      rw [S_int]
      refine ⟨pc, _, _, rfl, rfl, hp1, smallL (by rw [List.length_map]; omega), ?_⟩
      refine ⟨mf ds', by omega, xs', ds', ps ++ [S (intL b)], _, rfl, by rw [upd_ne hne]; exact hx1, by rw [upd_same, List.map_append]; rfl, DpAll.tx (TX.lst hp1) hd1 htd, htd, fun b' u hb => ?_, ?_, rfl, by rw [List.length_append]; show _ + (_ + 1) ≤ _; omega⟩
      · rw [upd_ne (fun z => by rw [z, hpc] at hb; cases hb)]
        exact sm1 _ _ hb
      · rw [cat_snoc, List.append_assoc, ← hc]
        rw [show wr (.int b) = tl (S (intL b)) from by rw [wr]; try rfl]
    | @tup a ys es h t =>
      have hes : es ≠ [] := fun e => by subst e; rw [tr] at hte; cases hte
      have htes : trL es = true := by rw [tr, Bool.and_eq_true] at hte; exact hte.2
      have hms : ms (.tuple es) = 1 + msT es := by rw [ms]
      have hmi := mf_items es
      have hle : es.length ≤ msT es := by
        have : ∀ l : List PyData, l.length ≤ msT l := fun l => by
          induction l with
          | nil => exact Nat.zero_le _
          | cons z zs ih => rw [msT]; show zs.length + 1 ≤ _; omega
        exact this es
      (repeat (first
      | refine ⟨_, rfl, ?_⟩
      | refine ⟨_, _, rfl, rfl, ?_⟩
      | refine Or.inl ⟨_, rfl, ?_⟩
      | refine Or.inr ⟨_, rfl, ?_⟩
      | refine ⟨Or.inl ⟨by decide, by decide⟩, ?_⟩
      | refine ⟨Or.inr ⟨by decide, by decide⟩, ?_⟩
      | refine ⟨⟨by decide, by decide⟩, ?_⟩
      | refine ⟨⟨by decide, by decide, by decide⟩, ?_⟩
      | refine ⟨by decide, ?_⟩
      | refine ⟨(by show (0 : Int) < _; decide), ?_⟩
      | refine ⟨rfl, ?_⟩
      | refine ⟨⟨_, rfl⟩, ?_⟩
      | refine ⟨_, rfl, rfl, trivial, ?_⟩
      | refine ⟨_, _, rfl, ?_⟩))
      refine ⟨_, _, _, _, true, rfl, .ty _, Dp.ty (.tup h t), isi_e "tuple" "tuple" true rfl (by decide +kernel), ?_⟩
      (repeat (first
      | refine ⟨_, rfl, ?_⟩
      | refine ⟨_, _, rfl, rfl, ?_⟩
      | refine Or.inl ⟨_, rfl, ?_⟩
      | refine Or.inr ⟨_, rfl, ?_⟩
      | refine ⟨Or.inl ⟨by decide, by decide⟩, ?_⟩
      | refine ⟨Or.inr ⟨by decide, by decide⟩, ?_⟩
      | refine ⟨⟨by decide, by decide⟩, ?_⟩
      | refine ⟨⟨by decide, by decide, by decide⟩, ?_⟩
      | refine ⟨by decide, ?_⟩
      | refine ⟨(by show (0 : Int) < _; decide), ?_⟩
      | refine ⟨rfl, ?_⟩
      | refine ⟨⟨_, rfl⟩, ?_⟩
      | refine ⟨_, rfl, rfl, trivial, ?_⟩
      | refine ⟨_, _, rfl, ?_⟩))
      refine ⟨.inl ⟨rfl, _, SqL.of hx1⟩, ?_⟩
      (repeat (first
      | refine ⟨_, rfl, ?_⟩
      | refine ⟨_, _, rfl, rfl, ?_⟩
      | refine Or.inl ⟨_, rfl, ?_⟩
      | refine Or.inr ⟨_, rfl, ?_⟩
      | refine ⟨Or.inl ⟨by decide, by decide⟩, ?_⟩
      | refine ⟨Or.inr ⟨by decide, by decide⟩, ?_⟩
      | refine ⟨⟨by decide, by decide⟩, ?_⟩
      | refine ⟨⟨by decide, by decide, by decide⟩, ?_⟩
      | refine ⟨by decide, ?_⟩
      | refine ⟨(by show (0 : Int) < _; decide), ?_⟩
      | refine ⟨rfl, ?_⟩
      | refine ⟨⟨_, rfl⟩, ?_⟩
      | refine ⟨_, rfl, rfl, trivial, ?_⟩
      | refine ⟨_, _, rfl, ?_⟩))
      refine ⟨a, es, rfl, .tup h t, hes, by omega, fun l ys' H2 s2 hl0 hl hdy => ?_⟩
      have ly := DpAll.len hdy
      have lmy := len_mf (items es)
      refine ⟨l, _, rfl, SqL.of hl, fun p2 h2 => ?_⟩
      have s3 : L2.Same H1 (upd H2 p2 (.lst ys'.reverse)) := s2.trans (same_upd h2)
      have hx3 := s3 _ _ hx1
      have tx4 : TX K H2 (upd (upd H2 p2 (.lst ys'.reverse)) wt (.lst (xs' ++ ys'.reverse))) := (TX.new h2).trans (TX.lst hx3)
      refine ⟨wt, p2, xs', _, rfl, rfl, hx3, upd_same, small (by rw [List.length_reverse]; have := DpAll.len hd1; have := len_mf ds'; omega), ?_⟩
      refine ⟨mf (ds' ++ (items es).reverse), by rw [mf_app, mf_rev]; omega, xs' ++ ys'.reverse, ds' ++ (items es).reverse, ps, _, rfl, upd_same, by rw [upd_ne (Ne.symm hne)]; exact s3 _ _ hp1, DpAll.app (DpAll.tx ((TX.same s2).trans tx4) hd1 htd) (DpAll.tx ((TX.same s2).trans tx4) (DpAll.rev hdy) (trL_iff.mpr fun z hz => trL_iff.mp (trL_items htes) z (List.mem_reverse.mp hz))), trL_iff.mpr fun z hz => ?_, fun b' u hb => ?_, ?_, rfl, by rw [mf_app, mf_rev]; omega⟩
      · rcases List.mem_append.mp hz with z1 | z1
        · exact trL_iff.mp htd z z1
        · exact trL_iff.mp (trL_items htes) z (List.mem_reverse.mp z1)
      · rw [upd_ne (fun z => by rw [z, w0.2] at hb; cases hb)]
        exact s3 _ _ (sm1 _ _ hb)
      · rw [List.reverse_append, List.reverse_reverse, fl_app, fl_items, ← hc, wr]
  · have e0 : xs = [] := by
      cases xs with
      | nil => rfl
      | cons _ _ => cases c
    subst e0
    cases hdd with
    | nil =>
      have hc' : cat ps = wr d := by rw [← hc]; show cat ps = cat ps ++ []; simp
      (repeat (first
      | refine ⟨_, rfl, ?_⟩
      | refine ⟨_, _, rfl, rfl, ?_⟩
      | refine Or.inl ⟨_, rfl, ?_⟩
      | refine Or.inr ⟨_, rfl, ?_⟩
      | refine ⟨Or.inl ⟨by decide, by decide⟩, ?_⟩
      | refine ⟨Or.inr ⟨by decide, by decide⟩, ?_⟩
      | refine ⟨⟨by decide, by decide⟩, ?_⟩
      | refine ⟨⟨by decide, by decide, by decide⟩, ?_⟩
      | refine ⟨by decide, ?_⟩
      | refine ⟨(by show (0 : Int) < _; decide), ?_⟩
      | refine ⟨rfl, ?_⟩
      | refine ⟨⟨_, rfl⟩, ?_⟩
      | refine ⟨_, rfl, rfl, trivial, ?_⟩
      | refine ⟨_, _, rfl, ?_⟩))
      refine ⟨_, pc, ps, rfl, rfl, .inl (SqL.of hp), ?_, ?_⟩
      · rw [cat_len, hc', show (Str.ofString "").length = 0 from by decide +kernel]
        omega
      · have e1 : Txt.join (Str.ofString "") ps = S (wr d) := ext_tl (by
          rw [join_eq, tl_join, show tl (Str.ofString "") = [] from rfl, joinL_cat, hc', tl_S])
        rw [e1]
        exact q H' sm
end
end My

namespace My
open PySem PySem.Spec PyProof.Rows L2 NumText TL
/-! ### parts of lists -/
def selV (f : PyData → Bool) : List V → List PyData → List V
  | x :: xs, d :: ds => if f d = true then x :: selV f xs ds else selV f xs ds
  | _, _ => []
theorem selV_dp {K : PySem.W.Frag} {H : Hp} (f : PyData → Bool) : ∀ {xs : List V} {ds : List PyData}, DpAll K H xs ds → DpAll K H (selV f xs ds) (ds.filter f)
  | _, _, .nil => .nil
  | _, _, .cons (d := d) h t => by
    unfold selV
    rw [List.filter_cons]
    cases e : f d with
    | true => exact .cons h (selV_dp f t)
    | false => exact selV_dp f t
theorem selV_step (f : PyData → Bool) : ∀ {xs : List V} {ds : List PyData} {i : Nat} {x : V} {d : PyData}, xs[i]? = some x → ds[i]? = some d →
    selV f (xs.take (i + 1)) (ds.take (i + 1)) = selV f (xs.take i) (ds.take i) ++ (if f d = true then [x] else [])
  | [], _, _, _, _, h, _ => by simp at h
  | _ :: _, [], _, _, _, _, h => by simp at h
  | y :: xs, e :: ds, 0, x, d, h1, h2 => by
    simp at h1 h2
    subst h1 h2
    simp only [List.take, selV]
    split <;> rfl
  | y :: xs, e :: ds, i + 1, x, d, h1, h2 => by
    have ih := selV_step f (xs := xs) (ds := ds) (i := i) (by simpa using h1) (by simpa using h2)
    simp only [List.take_succ_cons, selV]
    rw [ih]
    split <;> rfl
theorem selV_le (f : PyData → Bool) : ∀ (xs : List V) (ds : List PyData), (selV f xs ds).length ≤ xs.length
  | [], _ => by simp [selV]
  | _ :: _, [] => by simp [selV]
  | x :: xs, d :: ds => by
    have ih := selV_le f xs ds
    unfold selV
    split <;> simp <;> omega
theorem isi_t {K : PySem.W.Frag} {d : PyData} (h : tr d = true) : PySem.W.kitOne K (.type (tyN d)) (.type "tuple") = some (isT d) := by
  cases d with
  | str b => exact isi_e "str" "tuple" false rfl (by decide +kernel)
  | int b => exact isi_e "int" "tuple" false rfl (by decide +kernel)
  | tuple b => exact isi_e "tuple" "tuple" true rfl (by decide +kernel)
  | none => exact isi_e "NoneType" "tuple" false rfl (by decide +kernel)
  | bool b => exact isi_e "bool" "tuple" false rfl (by decide +kernel)
  | list b => exact isi_e "list" "tuple" false rfl (by decide +kernel)
  | dict b => exact isi_e "dict" "tuple" false rfl (by decide +kernel)
theorem cntT_pos : ∀ {ds : List PyData}, (∀ d ∈ ds, isT d = true) → ds.length ≤ cntT ds
  | [], _ => Nat.zero_le _
  | d :: ds, h => by
    have ih := cntT_pos (ds := ds) fun e he => h e (List.mem_cons_of_mem _ he)
    have hd := h d (List.mem_cons_self ..)
    cases d with
    | tuple xs => rw [cntT, cnt]; show ds.length + 1 ≤ _; omega
    | _ => cases hd
/-! ### bounds of what forms make -/
def Rb (r : Row) : Prop := r.2.1.length ≤ 3 ∧ msT r.2.1 ≤ 6 ∧ (fl r.2.1).length ≤ 300
theorem msT_app : ∀ a b, msT (a ++ b) = msT a + msT b
  | [], b => by rw [msT]; simp
  | x :: a, b => by
    rw [List.cons_append, msT, msT, msT_app a b]
    omega
theorem msT_mf : ∀ a, msT a = a.length + mf a
  | [] => by rw [msT]; rfl
  | x :: a => by
    rw [msT, msT_mf a]
    show _ = (a.length + 1) + (ms x + mf a)
    omega
theorem wrC_len : ∀ r, (wrC r).length = (fl r).length + r.length + 1
  | [] => by rw [wrC]; rfl
  | y :: r => by
    rw [wrC]
    show (wr y ++ wrC r).length + 1 = (wr y ++ fl r).length + (r.length + 1) + 1
    rw [List.length_append, List.length_append, wrC_len r]
    omega
theorem wrT_len : ∀ xs, (wrT xs).length ≤ (fl xs).length + xs.length
  | [] => by rw [wrT]; exact Nat.zero_le _
  | [x] => by
    rw [wrT, wrR]
    show (wr x ++ []).length ≤ (wr x ++ []).length + 1
    omega
  | x :: y :: r => by
    rw [wrT, wrR]
    have := wrC_len r
    show (wr x ++ (40 :: (wr y ++ wrC r))).length ≤ (wr x ++ (wr y ++ fl r)).length + (r.length + 1 + 1)
    rw [List.length_append, List.length_cons, List.length_append, List.length_append, List.length_append]
    omega
theorem bld_bd : ∀ {rows : List Row} {st : List PyData}, (∀ r ∈ rows, Rb r) → bld rows = some st → mf st + st.length ≤ 8 * rows.length ∧ (fl st).length + st.length ≤ 304 * rows.length
  | [], st, _, h => by
    cases h
    exact ⟨Nat.le_refl _, Nat.le_refl _⟩
  | r :: rs, st, hr, h => by
    cases e : bld rs with
    | none => rw [bld, e] at h; cases h
    | some s0 =>
      rw [bld_cons e] at h
      split at h
      · cases h
      · rename_i hn
        cases h
        obtain ⟨i1, i2⟩ := bld_bd (rows := rs) (fun x hx => hr x (List.mem_cons_of_mem _ hx)) e
        obtain ⟨b1, b2, b3⟩ := hr r (List.mem_cons_self ..)
        have es : s0 = s0.take r.2.2 ++ s0.drop r.2.2 := (List.take_append_drop _ _).symm
        have m1 : mf s0 = mf (s0.take r.2.2) + mf (s0.drop r.2.2) := by rw [← mf_app, ← es]
        have f1 : (fl s0).length = (fl (s0.take r.2.2)).length + (fl (s0.drop r.2.2)).length := by rw [← List.length_append, ← fl_app, ← es]
        have l1 : (s0.take r.2.2).length = r.2.2 := by rw [List.length_take]; omega
        have l2 : (s0.drop r.2.2).length = s0.length - r.2.2 := List.length_drop
        have w1 := wrT_len (r.2.1 ++ s0.take r.2.2)
        rw [fl_app, List.length_append, List.length_append] at w1
        have t1 := msT_mf (s0.take r.2.2)
        constructor
        · show ms (.tuple _) + mf (s0.drop r.2.2) + ((s0.drop r.2.2).length + 1) ≤ 8 * (rs.length + 1)
          rw [ms, msT_app]
          omega
        · show (wr (.tuple _) ++ fl (s0.drop r.2.2)).length + ((s0.drop r.2.2).length + 1) ≤ 304 * (rs.length + 1)
          rw [wr, List.length_append]
          omega
theorem sc_mem {tb : List Row} {l : List Nat} {o : Option (List Row)} (h : Sc tb l o) : ∀ rows, o = some rows → ∀ r ∈ rows, r ∈ tb := by
  induction h with
  | nil => intro rows e r hr; cases e; cases hr
  | no _ _ => intro rows e; cases e
  | @go l r o _ hh _ ih =>
    intro rows e x hx
    cases o with
    | none => cases e
    | some rs =>
      cases e
      rcases List.mem_cons.mp hx with rfl | hx
      · unfold hit at hh
        exact List.mem_of_find?_eq_some hh
      · exact ih rs rfl x hx
theorem tab0_rb : ∀ r ∈ tab0, Rb r := by
  have key : ∀ i : Fin tab0.length, Rb (tab0[i.1]'i.2) := by unfold Rb; decide +kernel
  intro r hr
  obtain ⟨i, hi, rfl⟩ := List.getElem_of_mem hr
  exact key ⟨i, hi⟩
theorem isR_rb {n : Str} (h : n.length ≤ 100) : Rb (isR n) := by
  refine ⟨by show 2 ≤ 3; decide, ?_, ?_⟩
  · show msT [sd "is", .str n] ≤ 6
    rw [msT, msT, msT, ms_sd, ms]
    · decide
    · intro xs h; cases h
  · show (wr (sd "is") ++ (wr (.str n) ++ [])).length ≤ 300
    rw [wr_sd, wr, List.length_append, List.length_append, tl_len n]
    have : (tl (Str.ofString "is")).length = 2 := by decide +kernel
    rw [this]
    show 2 + (n.length + 0) ≤ 300
    omega
theorem tabN_rb {ns : List Str} (h : ∀ n ∈ ns, n.length ≤ 100) : ∀ r ∈ tabN ns, Rb r := by
  intro r hr
  rcases tabN_mem ns hr with h0 | ⟨n, hn, rfl⟩
  · exact tab0_rb r h0
  · exact isR_rb (h n hn)
/-- what a text's forms make, if its text is the text -/
def rdO (l : List Nat) (o : Option (List Row)) : Option PyData :=
  match o with
  | none => none
  | some rows => match bld rows with
    | some [t] => if wr t = l then some t else none
    | _ => none
theorem mf_filter (f : PyData → Bool) : ∀ l, mf (l.filter f) ≤ mf l
  | [] => Nat.le_refl _
  | x :: l => by
    have ih := mf_filter f l
    rw [List.filter_cons]
    split
    · show ms x + mf _ ≤ ms x + mf l
      omega
    · show _ ≤ ms x + mf l
      omega
theorem DpAll.at2 {K : PySem.W.Frag} {H : Hp} : ∀ {xs : List V} {ds : List PyData} {i : Nat} {x : V}, DpAll K H xs ds → xs[i]? = some x → ∃ d, ds[i]? = some d ∧ Dp K H x d
  | _, _, _, _, .nil, e => by simp at e
  | _, _, 0, _, .cons h _, e => by simp at e; subst e; exact ⟨_, rfl, h⟩
  | _, _, i + 1, x, .cons _ t, e => by
    obtain ⟨u, h1, h2⟩ := DpAll.at2 (i := i) (x := x) t (by simpa using e)
    exact ⟨u, by simpa using h1, h2⟩
section
variable {P : Program} {w : World} {K : PySem.W.Frag} {mg : Str → Option Value} {base : Heap}
/-! ### read_question -/
def sp_read (K : PySem.W.Frag) : Sp := fun vs H Q _ => ∃ (x : Str) (nm : Addr) (ns : List Str) (o : Option (List Row)), vs = [.str x, .ref nm] ∧ x.length ≤ 1000 ∧ SqT K H nm (ns.map V.str) ∧ ns.length ≤ 100 ∧ (∀ n ∈ ns, n.length ≤ 100) ∧ Sc (tabN ns) (tl x) o ∧
  (∀ t, rdO (tl x) o = some t → ∀ H' v, L2.Same H H' → Dp K H' v t → tr t = true → Q v H') ∧ (rdO (tl x) o = none → ∀ H', L2.Same H H' → Q .non H')
theorem ok_read_question (T : Top K mg w) : FnOk P w K mg base CX0 3 T.a_read_question T.d_read_question ["text", "names"] (sp_read K) := by
  refine T.F_read_question.ok sc_read_question (fun vs H Q E h => ?_) (fun cdv A outer s H vs Q E hr h => ?_)
  · obtain ⟨x, nm, ns, o, rfl, _⟩ := h
    rfl
  obtain ⟨x, nm, ns, o, rfl, hx, hN, hn, hnl, hsc, q1, q0⟩ := h
  refine ⟨_, (pss_cons (ps_set (i := 2) sc_read_question.nd rfl (Or.inl rfl) (pe_call ((ok_forms_in_order T).mono (by decide)) hr (by rfl) T.m_forms_in_order T.F_forms_in_order.kp T.b_forms_in_order .nil pass0 (pa_cons (pv 0) (pa_cons (pv 1) pa_nil))))
      (pss_cons (ps_if (pt_cmpR op_isN (pv 2) pe_non (nomark _))
        (pss_one (ps_ret pe_non))
        pss_nil)
      (pss_cons (ps_set (i := 3) sc_read_question.nd rfl (Or.inl rfl) (pe_call ((ok_tree_of T).mono (by decide)) hr (by rfl) T.m_tree_of T.F_tree_of.kp T.b_tree_of .nil pass0 (pa_cons (pv 2) pa_nil)))
      (pss_cons (ps_if (PW.pt (pw_or (pt_cmpR op_isN (pv 3) pe_non (nomark _)) (pw_or1 (pt_cmpR op_ne (pe_call ((ok_write_question T).mono (by decide)) hr (by rfl) T.m_write_question T.F_write_question.kp T.b_write_question .nil pass0 (pa_cons (pv 3) pa_nil)) (pv 0) (nomark _)))))
        (pss_one (ps_ret pe_non))
        pss_nil)
      (pss_one (ps_ret (pv 3))))))), ?_⟩
  refine ⟨_, rfl, _, rfl, x, nm, ns, o, rfl, by omega, hN, hn, fun n hn' => Nat.le_trans (hnl n hn') (by decide), hsc, fun e H' sm => ?_, fun rows e p vs' H' sm hp hfo hvl => ?_⟩
  · subst e
    (repeat (first
      | refine ⟨_, rfl, ?_⟩
      | refine ⟨_, _, rfl, rfl, ?_⟩
      | refine Or.inl ⟨_, rfl, ?_⟩
      | refine Or.inr ⟨_, rfl, ?_⟩
      | refine ⟨Or.inl ⟨by decide, by decide⟩, ?_⟩
      | refine ⟨Or.inr ⟨by decide, by decide⟩, ?_⟩
      | refine ⟨⟨by decide, by decide⟩, ?_⟩
      | refine ⟨⟨by decide, by decide, by decide⟩, ?_⟩
      | refine ⟨by decide, ?_⟩
      | refine ⟨(by show (0 : Int) < _; decide), ?_⟩
      | refine ⟨rfl, ?_⟩
      | refine ⟨⟨_, rfl⟩, ?_⟩
      | refine ⟨_, rfl, rfl, trivial, ?_⟩
      | refine ⟨_, _, rfl, ?_⟩))
    exact q0 rfl H' sm
  · subst e
    have hmem := sc_mem hsc rows rfl
    have hrb : ∀ r ∈ rows, Rb r := fun r hr => tabN_rb hnl r (hmem r hr)
    have hlr : rows.length = vs'.length := (Paired.length hfo).symm
    (repeat (first
      | refine ⟨_, rfl, ?_⟩
      | refine ⟨_, _, rfl, rfl, ?_⟩
      | refine Or.inl ⟨_, rfl, ?_⟩
      | refine Or.inr ⟨_, rfl, ?_⟩
      | refine ⟨Or.inl ⟨by decide, by decide⟩, ?_⟩
      | refine ⟨Or.inr ⟨by decide, by decide⟩, ?_⟩
      | refine ⟨⟨by decide, by decide⟩, ?_⟩
      | refine ⟨⟨by decide, by decide, by decide⟩, ?_⟩
      | refine ⟨by decide, ?_⟩
      | refine ⟨(by show (0 : Int) < _; decide), ?_⟩
      | refine ⟨rfl, ?_⟩
      | refine ⟨⟨_, rfl⟩, ?_⟩
      | refine ⟨_, rfl, rfl, trivial, ?_⟩
      | refine ⟨_, _, rfl, ?_⟩))
    refine ⟨p, vs', rows, rfl, hp, hfo, fun r hr => (hrb r hr).1, by omega, fun t ht H2 v s2 hd htr ⟨a, hv⟩ => ?_, fun hno H2 s2 => ?_⟩
    · have hb := bld_bd hrb ht
      have b1 : ms t + 0 + 1 ≤ 8 * rows.length := hb.1
      have b2 : (wr t ++ []).length + 1 ≤ 304 * rows.length := hb.2
      rw [List.append_nil] at b2
      subst hv
      have hrd : rdO (tl x) (some rows) = if wr t = tl x then some t else none := by
        unfold rdO
        dsimp only
        rw [ht]
      (repeat (first
      | refine ⟨_, rfl, ?_⟩
      | refine ⟨_, _, rfl, rfl, ?_⟩
      | refine Or.inl ⟨_, rfl, ?_⟩
      | refine Or.inr ⟨_, rfl, ?_⟩
      | refine ⟨Or.inl ⟨by decide, by decide⟩, ?_⟩
      | refine ⟨Or.inr ⟨by decide, by decide⟩, ?_⟩
      | refine ⟨⟨by decide, by decide⟩, ?_⟩
      | refine ⟨⟨by decide, by decide, by decide⟩, ?_⟩
      | refine ⟨by decide, ?_⟩
      | refine ⟨(by show (0 : Int) < _; decide), ?_⟩
      | refine ⟨rfl, ?_⟩
      | refine ⟨⟨_, rfl⟩, ?_⟩
      | refine ⟨_, rfl, rfl, trivial, ?_⟩
      | refine ⟨_, _, rfl, ?_⟩))
      refine ⟨.ref a, t, rfl, hd, htr, by omega, by omega, fun H3 s3 => ?_⟩
      (repeat (first
      | refine ⟨_, rfl, ?_⟩
      | refine ⟨_, _, rfl, rfl, ?_⟩
      | refine Or.inl ⟨_, rfl, ?_⟩
      | refine Or.inr ⟨_, rfl, ?_⟩
      | refine ⟨Or.inl ⟨by decide, by decide⟩, ?_⟩
      | refine ⟨Or.inr ⟨by decide, by decide⟩, ?_⟩
      | refine ⟨⟨by decide, by decide⟩, ?_⟩
      | refine ⟨⟨by decide, by decide, by decide⟩, ?_⟩
      | refine ⟨by decide, ?_⟩
      | refine ⟨(by show (0 : Int) < _; decide), ?_⟩
      | refine ⟨rfl, ?_⟩
      | refine ⟨⟨_, rfl⟩, ?_⟩
      | refine ⟨_, rfl, rfl, trivial, ?_⟩
      | refine ⟨_, _, rfl, ?_⟩))
      have sm3 := (sm.trans s2).trans s3
      refine ite_nb (fun c => ?_) (fun c => ?_)
      · have hw : wr t ≠ tl x := fun e => of_decide_eq_false c (by rw [e, S_tl])
        exact q0 (by rw [hrd, if_neg hw]) H3 sm3
      · have hw : wr t = tl x := by
          have e := V.str.inj (of_decide_eq_true c)
          rw [← e, tl_S]
        refine ⟨_, rfl, ?_⟩
        exact q1 t (by rw [hrd, if_pos hw]) H3 _ sm3 (Dp.same s3 hd) htr
    · have hrd : rdO (tl x) (some rows) = none := by
        unfold rdO
        dsimp only
        split
        · rename_i t e; exact absurd e (hno t)
        · rfl
      (repeat (first
      | refine ⟨_, rfl, ?_⟩
      | refine ⟨_, _, rfl, rfl, ?_⟩
      | refine Or.inl ⟨_, rfl, ?_⟩
      | refine Or.inr ⟨_, rfl, ?_⟩
      | refine ⟨Or.inl ⟨by decide, by decide⟩, ?_⟩
      | refine ⟨Or.inr ⟨by decide, by decide⟩, ?_⟩
      | refine ⟨⟨by decide, by decide⟩, ?_⟩
      | refine ⟨⟨by decide, by decide, by decide⟩, ?_⟩
      | refine ⟨by decide, ?_⟩
      | refine ⟨(by show (0 : Int) < _; decide), ?_⟩
      | refine ⟨rfl, ?_⟩
      | refine ⟨⟨_, rfl⟩, ?_⟩
      | refine ⟨_, rfl, rfl, trivial, ?_⟩
      | refine ⟨_, _, rfl, ?_⟩))
      exact q0 hrd H2 (sm.trans s2)
end
end My

namespace My
open PySem PySem.Spec PyProof.Rows L2 NumText TL
section
variable {P : Program} {w : World} {K : PySem.W.Frag} {mg : Str → Option Value} {base : Heap}
/-! ### parts -/
/-! ### questions_in -/
def sp_qi (K : PySem.W.Frag) : Sp := fun vs H Q _ => ∃ (p : Addr) (fs : List PyData), vs = [.ref p] ∧ Dp K H (.ref p) (.tuple fs) ∧ trL fs = true ∧ fs.length ≤ 10000 ∧ ∀ D vs' H', L2.Same H H' → H D = none → H' D = some (.lst vs') → DpAll K H' vs' (fs.filter isT) → Q (.ref D) H'
theorem ok_questions_in (T : Top K mg w) : FnOk P w K mg base CX0 1 T.a_questions_in T.d_questions_in ["tree"] (sp_qi K) := by
  refine T.F_questions_in.ok sc_questions_in (fun vs H Q E h => ?_) (fun cdv A outer s H vs Q E hr h => ?_)
  · obtain ⟨p, fs, rfl, _⟩ := h
    rfl
  obtain ⟨p, fs, rfl, hd, htr, hlen, k⟩ := h
  cases hd with
  | @tup _ ys _ hT t =>
  have lys := DpAll.len t
  refine ⟨_, (pss_one (ps_ret (pe_lc (own := [("item", 1)]) (g := gName 1) (by rfl) sc_questions_in.nd (pi_tup (pv 0)) (blkOk_by (own := [("item", 1)]) (N := ["tree", "item"]) (sc := defScope s_questions_in) (by decide +kernel)) (fun _ _ _ _ _ => (pg_name (i := 1) sc_questions_in.nd rfl (Or.inl rfl))) (fun _ _ _ _ _ => pts_one (pt_val (pe_callB (show CallR _ (.builtin "isinstance") (rIsi K) from call_isi) (by rfl) T.z_isinstance (by decide +kernel) (pa_cons (pv 1) (pa_cons (pe_bltn (v := .ty "tuple") (u := .type "tuple") (by rfl) T.z_tuple (by decide +kernel) rfl) pa_nil))))) (fun _ _ _ _ _ => (pv 1))))), ?_⟩
  refine ⟨_, rfl, p, rfl, ⟨_, hT⟩, fun D hD => ?_⟩
  have smD : ∀ o, L2.Same H (upd H D o) := fun o => same_upd hD
  refine lc_tup (xs := ys) (fun i H' => H' = upd H D (.lst (selV isT (ys.take i) (fs.take i)))) rfl ?_ ?_ ?_
  · rintro i H' _ rfl
    exact My.Same.sqT (smD _) hT
  · rintro i x' H' hx' rfl
    obtain ⟨d, hdi, px⟩ := DpAll.at2 t hx'
    have htdi : tr d = true := trL_iff.mp htr d (List.mem_of_getElem? hdi)
    refine ⟨rfl, ?_⟩
    (repeat (first
      | refine ⟨_, rfl, ?_⟩
      | refine ⟨_, _, rfl, rfl, ?_⟩
      | refine Or.inl ⟨_, rfl, ?_⟩
      | refine Or.inr ⟨_, rfl, ?_⟩
      | refine ⟨Or.inl ⟨by decide, by decide⟩, ?_⟩
      | refine ⟨Or.inr ⟨by decide, by decide⟩, ?_⟩
      | refine ⟨⟨by decide, by decide⟩, ?_⟩
      | refine ⟨⟨by decide, by decide, by decide⟩, ?_⟩
      | refine ⟨by decide, ?_⟩
      | refine ⟨(by show (0 : Int) < _; decide), ?_⟩
      | refine ⟨rfl, ?_⟩
      | refine ⟨⟨_, rfl⟩, ?_⟩
      | refine ⟨_, rfl, rfl, trivial, ?_⟩
      | refine ⟨_, _, rfl, ?_⟩))
    refine ⟨_, _, _, _, isT d, rfl, .ty _, Dp.ty (Dp.same (smD _) px), isi_t htdi, ?_⟩
    (repeat (first
      | refine ⟨_, rfl, ?_⟩
      | refine ⟨_, _, rfl, rfl, ?_⟩
      | refine Or.inl ⟨_, rfl, ?_⟩
      | refine Or.inr ⟨_, rfl, ?_⟩
      | refine ⟨Or.inl ⟨by decide, by decide⟩, ?_⟩
      | refine ⟨Or.inr ⟨by decide, by decide⟩, ?_⟩
      | refine ⟨⟨by decide, by decide⟩, ?_⟩
      | refine ⟨⟨by decide, by decide, by decide⟩, ?_⟩
      | refine ⟨by decide, ?_⟩
      | refine ⟨(by show (0 : Int) < _; decide), ?_⟩
      | refine ⟨rfl, ?_⟩
      | refine ⟨⟨_, rfl⟩, ?_⟩
      | refine ⟨_, rfl, rfl, trivial, ?_⟩
      | refine ⟨_, _, rfl, ?_⟩))
    refine ite_b (fun cd => ?_) (fun cd => ?_)
    · (repeat (first
      | refine ⟨_, rfl, ?_⟩
      | refine ⟨_, _, rfl, rfl, ?_⟩
      | refine Or.inl ⟨_, rfl, ?_⟩
      | refine Or.inr ⟨_, rfl, ?_⟩
      | refine ⟨Or.inl ⟨by decide, by decide⟩, ?_⟩
      | refine ⟨Or.inr ⟨by decide, by decide⟩, ?_⟩
      | refine ⟨⟨by decide, by decide⟩, ?_⟩
      | refine ⟨⟨by decide, by decide, by decide⟩, ?_⟩
      | refine ⟨by decide, ?_⟩
      | refine ⟨(by show (0 : Int) < _; decide), ?_⟩
      | refine ⟨rfl, ?_⟩
      | refine ⟨⟨_, rfl⟩, ?_⟩
      | refine ⟨_, rfl, rfl, trivial, ?_⟩
      | refine ⟨_, _, rfl, ?_⟩))
      refine ⟨_, upd_same, smallL (by have := selV_le isT (ys.take i) (fs.take i); rw [List.length_take] at this; omega), ?_⟩
      rw [upd_upd, selV_step isT hx' hdi, if_pos cd]
    · show upd H D _ = upd H D _
      rw [selV_step isT hx' hdi, if_neg (by rw [cd]; decide), List.append_nil]
  rintro _ rfl
  rw [List.take_of_length_le (Nat.le_refl _), List.take_of_length_le (by omega)]
  exact k D _ _ (smD _) hD upd_same (DpAll.sx (fun _ _ h => My.Same.sqT (smD _) h) (fun _ _ h => (smD _).seq h) (selV_dp isT t))
def sp_parts (K : PySem.W.Frag) : Sp := fun vs H Q _ => ∃ (p : Addr) (es : List PyData), vs = [.ref p] ∧ Dp K H (.ref p) (.tuple es) ∧ tr (.tuple es) = true ∧ ms (.tuple es) ≤ 10000 ∧ cnt (.tuple es) ≤ 10000 ∧ ∀ H', L2.Same H H' → Q (.int ((cnt (.tuple es) : Nat) : Int)) H'
theorem ok_parts (T : Top K mg w) : FnOk P w K mg base CX0 2 T.a_parts T.d_parts ["tree"] (sp_parts K) := by
  refine T.F_parts.ok sc_parts (fun vs H Q E h => ?_) (fun cdv A outer s H vs Q E hr h => ?_)
  · obtain ⟨p, es, rfl, _⟩ := h
    rfl
  obtain ⟨p, es, rfl, hd, htr, hm, hcn, q⟩ := h
  refine ⟨_, (pss_cons (ps_set (i := 1) sc_parts.nd rfl (Or.inl rfl) pe_int)
      (pss_cons (ps_set (i := 2) sc_parts.nd rfl (Or.inl rfl) (pe_lst (pa_cons (pv 0) pa_nil)))
      (pss_cons (ps_while PassesOwn.never (pt_truth (pv 2) (by intro _; rfl))
        (pss_cons (ps_set (i := 3) sc_parts.nd rfl (Or.inl rfl) (pe_bm0 PySem.F.plainAttrs_list PySem.F.slot_list_pop PySem.F.type_list_pop mt_pop (pv 2)))
      (pss_cons (ps_aug (i := 1) sc_parts.nd rfl (Or.inl rfl) pe_int ip_add)
      (pss_one (ps_expr (pe_bm PySem.F.plainAttrs_list PySem.F.slot_list_extend PySem.F.type_list_extend mt_extend (pv 2) (pa_cons (pe_call ((ok_questions_in T).mono (by decide)) hr (by rfl) T.m_questions_in T.F_questions_in.kp T.b_questions_in .nil pass0 (pa_cons (pv 3) pa_nil)) pa_nil)))))))
      (pss_one (ps_ret (pv 1)))))), ?_⟩
  (repeat (first
      | refine ⟨_, rfl, ?_⟩
      | refine ⟨_, _, rfl, rfl, ?_⟩
      | refine Or.inl ⟨_, rfl, ?_⟩
      | refine Or.inr ⟨_, rfl, ?_⟩
      | refine ⟨Or.inl ⟨by decide, by decide⟩, ?_⟩
      | refine ⟨Or.inr ⟨by decide, by decide⟩, ?_⟩
      | refine ⟨⟨by decide, by decide⟩, ?_⟩
      | refine ⟨⟨by decide, by decide, by decide⟩, ?_⟩
      | refine ⟨by decide, ?_⟩
      | refine ⟨(by show (0 : Int) < _; decide), ?_⟩
      | refine ⟨rfl, ?_⟩
      | refine ⟨⟨_, rfl⟩, ?_⟩
      | refine ⟨_, rfl, rfl, trivial, ?_⟩
      | refine ⟨_, _, rfl, ?_⟩))
  refine ⟨by show 1 ≤ sizeLine; decide, fun wt hwt => ?_⟩
  have sm0 : L2.Same H (upd H wt (.lst [.ref p])) := same_upd hwt
  refine ⟨fun m σ H' => ∃ (xs : List V) (ds : List PyData) (c : Nat) (y3 : Option V), σ = [some (.ref p), some (.int (c : Int)), some (.ref wt), y3] ∧ H' wt = some (.lst xs) ∧ DpAll K H' xs ds ∧ trL ds = true ∧ (∀ d ∈ ds, isT d = true) ∧ L2.Same H H' ∧ c + cntT ds = cnt (.tuple es) ∧ m = cntT ds ∧ mf ds ≤ 10000, ⟨_, [.ref p], [.tuple es], 0, none, rfl, upd_same, .cons (Dp.same sm0 hd) .nil, by rw [trL, trL, htr]; rfl, fun d hd => by rw [List.mem_singleton.mp hd]; rfl, sm0, by rw [cntT, cntT]; omega, rfl, hm⟩, ?_⟩
  rintro m σ H' ⟨xs, ds, c, y3, rfl, hx, hdd, ht, hT, sm, hc, rfl, hmf⟩
  have lx := DpAll.len hdd
  have lc := cntT_pos hT
  refine ⟨_, rfl, !xs.isEmpty, .inl ⟨xs, SqL.of hx, rfl⟩, ?_⟩
  refine ite_b (fun cb => ?_) (fun cb => ?_)
  · have hxs : xs ≠ [] := fun e => by rw [e] at cb; cases cb
    obtain ⟨xs', y, ds', e, rfl, rfl, hd', hy⟩ := DpAll.last hdd hxs
    have hte : tr e = true := trL_iff.mp ht e (by simp)
    have hTe : isT e = true := hT e (by simp)
    have htd : trL ds' = true := trL_iff.mpr fun z hz => trL_iff.mp ht z (by simp [hz])
    have hcn' : cntT (ds' ++ [e]) = cntT ds' + cnt e := by rw [cntT_app, cntT, cntT]; omega
    rw [hcn'] at hc lc ⊢
    refine ⟨fun σ' H'' => ∃ m', m' < cntT ds' + cnt e ∧ ∃ (xs : List V) (ds : List PyData) (c : Nat) (y3 : Option V), σ' = [some (.ref p), some (.int (c : Int)), some (.ref wt), y3] ∧ H'' wt = some (.lst xs) ∧ DpAll K H'' xs ds ∧ trL ds = true ∧ (∀ d ∈ ds, isT d = true) ∧ L2.Same H H'' ∧ c + cntT ds = cnt (.tuple es) ∧ m' = cntT ds ∧ mf ds ≤ 10000, fun _ _ h => h, ?_⟩
    (repeat (first
      | refine ⟨_, rfl, ?_⟩
      | refine ⟨_, _, rfl, rfl, ?_⟩
      | refine Or.inl ⟨_, rfl, ?_⟩
      | refine Or.inr ⟨_, rfl, ?_⟩
      | refine ⟨Or.inl ⟨by decide, by decide⟩, ?_⟩
      | refine ⟨Or.inr ⟨by decide, by decide⟩, ?_⟩
      | refine ⟨⟨by decide, by decide⟩, ?_⟩
      | refine ⟨⟨by decide, by decide, by decide⟩, ?_⟩
      | refine ⟨by decide, ?_⟩
      | refine ⟨(by show (0 : Int) < _; decide), ?_⟩
      | refine ⟨rfl, ?_⟩
      | refine ⟨⟨_, rfl⟩, ?_⟩
      | refine ⟨_, rfl, rfl, trivial, ?_⟩
      | refine ⟨_, _, rfl, ?_⟩))
    refine ⟨.inl ⟨rfl, _, SqL.of hx⟩, ?_⟩
    refine ⟨wt, _, y, rfl, rfl, hx, by simp, ?_⟩
    rw [List.dropLast_concat]
    have tx1 : TX K H' (upd H' wt (.lst xs')) := TX.lst hx
    have hx1 : (upd H' wt (.lst xs')) wt = some (.lst xs') := upd_same
    have sm1 : L2.Same H (upd H' wt (.lst xs')) := fun b u hb => by
      rw [upd_ne (fun z => by rw [z, hwt] at hb; cases hb)]
      exact sm _ _ hb
    have hy1 := Dp.tx tx1 hy hte
    have hd1 := DpAll.tx tx1 hd' htd
    generalize upd H' wt (.lst xs') = H1 at hx1 sm1 hy1 hd1 ⊢
    cases hy1 with
    | non => cases hTe
    | bl b => cases hTe
    | lst _ _ => cases hTe
    | str b => cases hTe
    | int b => cases hTe
    | @tup a ys fs h t =>
      have htf : trL fs = true := by rw [tr, Bool.and_eq_true] at hte; exact hte.2
      have hcf : cnt (.tuple fs) = 1 + cntT fs := by rw [cnt]
      (repeat (first
      | refine ⟨_, rfl, ?_⟩
      | refine ⟨_, _, rfl, rfl, ?_⟩
      | refine Or.inl ⟨_, rfl, ?_⟩
      | refine Or.inr ⟨_, rfl, ?_⟩
      | refine ⟨Or.inl ⟨by decide, by decide⟩, ?_⟩
      | refine ⟨Or.inr ⟨by decide, by decide⟩, ?_⟩
      | refine ⟨⟨by decide, by decide⟩, ?_⟩
      | refine ⟨⟨by decide, by decide, by decide⟩, ?_⟩
      | refine ⟨by decide, ?_⟩
      | refine ⟨(by show (0 : Int) < _; decide), ?_⟩
      | refine ⟨rfl, ?_⟩
      | refine ⟨⟨_, rfl⟩, ?_⟩
      | refine ⟨_, rfl, rfl, trivial, ?_⟩
      | refine ⟨_, _, rfl, ?_⟩))
      refine ⟨.inl ⟨rfl, _, SqL.of hx1⟩, ?_⟩
      have lys := DpAll.len t
      rw [mf_app, show mf [PyData.tuple fs] = ms (.tuple fs) + 0 from rfl, ms, msT_mf] at hmf
      (repeat (first
      | refine ⟨_, rfl, ?_⟩
      | refine ⟨_, _, rfl, rfl, ?_⟩
      | refine Or.inl ⟨_, rfl, ?_⟩
      | refine Or.inr ⟨_, rfl, ?_⟩
      | refine ⟨Or.inl ⟨by decide, by decide⟩, ?_⟩
      | refine ⟨Or.inr ⟨by decide, by decide⟩, ?_⟩
      | refine ⟨⟨by decide, by decide⟩, ?_⟩
      | refine ⟨⟨by decide, by decide, by decide⟩, ?_⟩
      | refine ⟨by decide, ?_⟩
      | refine ⟨(by show (0 : Int) < _; decide), ?_⟩
      | refine ⟨rfl, ?_⟩
      | refine ⟨⟨_, rfl⟩, ?_⟩
      | refine ⟨_, rfl, rfl, trivial, ?_⟩
      | refine ⟨_, _, rfl, ?_⟩))
      refine ⟨a, fs, rfl, .tup h t, htf, by omega, fun D vs2 H4 s4 hD0 hD hds => ?_⟩
      have lsel := DpAll.len hds
      have lfl : (fs.filter isT).length ≤ fs.length := List.length_filter_le _ _
      have hx3 : H4 wt = some (.lst xs') := s4 _ _ hx1
      have tx4 : TX K H1 (upd H4 wt (.lst (xs' ++ vs2))) := (TX.same s4).trans (TX.lst hx3)
      have tx5 : TX K H4 (upd H4 wt (.lst (xs' ++ vs2))) := TX.lst hx3
      have htsel : trL (fs.filter isT) = true := trL_iff.mpr fun z hz => trL_iff.mp htf z (List.mem_filter.mp hz).1
      have lxs : xs'.length ≤ 20000 := by
        have := DpAll.len hd1
        rw [List.length_append] at lc
        omega
      refine ⟨wt, D, xs', _, rfl, rfl, hx3, hD, small (by omega), ?_⟩
      refine ⟨cntT (ds' ++ fs.filter isT), ?_, xs' ++ vs2, ds' ++ fs.filter isT, c + 1, _, rfl, upd_same, DpAll.app (DpAll.tx tx4 hd1 htd) (DpAll.tx tx5 hds htsel), trL_iff.mpr fun z hz => ?_, fun z hz => ?_, fun b' u hb => ?_, ?_, rfl, by rw [mf_app]; have := mf_filter isT fs; omega⟩
      · rw [cntT_app, cntT_filter, hcf]; omega
      · rcases List.mem_append.mp hz with z1 | z1
        · exact trL_iff.mp htd z z1
        · exact trL_iff.mp htsel z z1
      · rcases List.mem_append.mp hz with z1 | z1
        · exact hT z (by simp [z1])
        · exact (List.mem_filter.mp z1).2
      · rw [upd_ne (fun z => by rw [z, hwt] at hb; cases hb)]
        exact s4 _ _ (sm1 _ _ hb)
      · rw [cntT_app, cntT_filter, ← hc, hcf]; omega
  · have e0 : xs = [] := by
      cases xs with
      | nil => rfl
      | cons _ _ => cases cb
    subst e0
    cases hdd with
    | nil =>
      rw [cntT] at hc
      refine ⟨_, rfl, ?_⟩
      have hc' : c = cnt (.tuple es) := by omega
      rw [hc']
      exact q H' sm
end
end My

namespace My
open PySem PySem.Spec PyProof.Rows L2 NumText TL
/-! ### what the law's trees are -/
theorem UT_tab0 {r : Row} (h : r ∈ tab0) : r ∈ UT := List.mem_append_left _ h
theorem UT_menu {n : Str} (h : n ∈ menu9) : isR n ∈ UT := List.mem_append_right _ (List.mem_map.mpr ⟨n, h, rfl⟩)
theorem menu_len : ∀ n ∈ menu9, n.length ≤ 100 := by
  have key : ∀ i : Fin menu9.length, (menu9[i.1]'i.2).length ≤ 100 := by decide +kernel
  intro n hn
  obtain ⟨i, hi, rfl⟩ := List.getElem_of_mem hn
  exact key ⟨i, hi⟩
theorem UT_rb : ∀ r ∈ UT, Rb r := by
  intro r hr
  rcases List.mem_append.mp hr with h | h
  · exact tab0_rb r h
  · obtain ⟨n, hn, rfl⟩ := List.mem_map.mp h
    exact isR_rb (menu_len n hn)
theorem isR_tr (n : Str) : tr (.tuple (isR n).2.1) = true := by
  show tr (.tuple [sd "is", .str n]) = true
  rw [tr, trL, trL, trL, tr_sd, tr]
  rfl
theorem UT_tr : ∀ r ∈ UT, tr (.tuple r.2.1) = true := by
  intro r hr
  rcases List.mem_append.mp hr with h | h
  · exact tab0_tr r h
  · obtain ⟨n, hn, rfl⟩ := List.mem_map.mp h
    exact isR_tr n
/-- fields are texts and numbers -/
def flat (d : PyData) : Bool := match d with
  | .str _ => true
  | .int _ => true
  | _ => false
theorem UT_flat : ∀ r ∈ UT, ∀ f ∈ r.2.1, flat f = true := by
  have key : ∀ i : Fin tab0.length, (tab0[i.1]'i.2).2.1.all flat = true := by decide +kernel
  intro r hr f hf
  rcases List.mem_append.mp hr with h | h
  · obtain ⟨i, hi, rfl⟩ := List.getElem_of_mem h
    exact List.all_eq_true.mp (key ⟨i, hi⟩) f hf
  · obtain ⟨n, hn, rfl⟩ := List.mem_map.mp h
    have hf' : f ∈ [sd "is", PyData.str n] := hf
    simp only [List.mem_cons, List.not_mem_nil, or_false] at hf'
    rcases hf' with rfl | rfl <;> rfl
theorem flat_cnt {f : PyData} (h : flat f = true) : cnt f = 0 := cnt_no (by cases f <;> first | rfl | cases h)
theorem cntT_flat : ∀ {fs : List PyData}, (∀ f ∈ fs, flat f = true) → cntT fs = 0
  | [], _ => by rw [cntT]
  | f :: fs, h => by rw [cntT, flat_cnt (h f (List.mem_cons_self ..)), cntT_flat (fs := fs) fun x hx => h x (List.mem_cons_of_mem _ hx)]
theorem flat_sh : ∀ {f : PyData}, flat f = true → ∀ n, Sh n f
  | .str _, _, 0 => True.intro
  | .str _, _, _ + 1 => True.intro
  | .int _, _, 0 => True.intro
  | .int _, _, _ + 1 => True.intro
  | .none, h, _ => by cases h
  | .bool _, h, _ => by cases h
  | .list _, h, _ => by cases h
  | .tuple _, h, _ => by cases h
  | .dict _, h, _ => by cases h
theorem sh_mono : ∀ {n : Nat} {d : PyData}, Sh n d → Sh (n + 1) d
  | 0, .none, _ => True.intro
  | 0, .bool _, _ => True.intro
  | 0, .int _, _ => True.intro
  | 0, .str _, _ => True.intro
  | 0, .list _, h => h.elim
  | 0, .tuple _, h => h.elim
  | 0, .dict _, h => h.elim
  | n + 1, .none, _ => True.intro
  | n + 1, .bool _, _ => True.intro
  | n + 1, .int _, _ => True.intro
  | n + 1, .str _, _ => True.intro
  | n + 1, .list xs, h => ⟨h.1, fun x hx => sh_mono (h.2 x hx)⟩
  | n + 1, .tuple xs, h => ⟨h.1, fun x hx => sh_mono (h.2 x hx)⟩
  | n + 1, .dict _, h => h.elim
theorem sh_le {n m : Nat} {d : PyData} (h : Sh n d) (hm : n ≤ m) : Sh m d := by
  induction hm with
  | refl => exact h
  | step _ ih => exact sh_mono ih
mutual
theorem pr_tr : ∀ {d : PyData} {a : List Row}, Pr UT d a → tr d = true
  | _, _, .mk (r := r) (kids := kids) hr hk h => by
    have h1 := UT_tr r hr
    have h2 := prL_tr h
    rw [tr, Bool.and_eq_true] at h1 ⊢
    refine ⟨?_, trL_iff.mpr fun x hx => ?_⟩
    · cases e : r.2.1 with
      | nil => rw [e] at h1; cases h1.1
      | cons a b => rfl
    · rcases List.mem_append.mp hx with z | z
      · exact trL_iff.mp h1.2 x z
      · exact trL_iff.mp h2 x z
theorem prL_tr : ∀ {ds : List PyData} {a : List Row}, PrL UT ds a → trL ds = true
  | _, _, .nil => by rw [trL]
  | _, _, .cons h t => by
    rw [trL, pr_tr h, prL_tr t]
    rfl
end
mutual
theorem pr_cnt : ∀ {d : PyData} {a : List Row}, Pr UT d a → cnt d = a.length
  | _, _, .mk (r := r) (kids := kids) (rows := rows) hr hk h => by
    rw [cnt, cntT_app, cntT_flat (UT_flat r hr), prL_cnt h]
    show 1 + (0 + rows.length) = rows.length + 1
    omega
theorem prL_cnt : ∀ {ds : List PyData} {a : List Row}, PrL UT ds a → cntT ds = a.length
  | _, _, .nil => by rw [cntT]; rfl
  | _, _, .cons h t => by rw [cntT, pr_cnt h, prL_cnt t, List.length_append]
end
theorem prL_len : ∀ {tb : List Row} {ds : List PyData} {a : List Row}, PrL tb ds a → ds.length ≤ a.length
  | _, _, _, .nil => Nat.le_refl _
  | _, _, _, .cons (.mk _ _ _) t => by
    have := prL_len t
    rw [List.length_append]
    simp only [List.length_cons]
    omega
mutual
theorem pr_sh : ∀ {d : PyData} {a : List Row}, Pr UT d a → a.length ≤ 10000 → Sh a.length d
  | _, _, .mk (r := r) (kids := kids) (rows := rows) hr hk h => fun hb => by
    have hl := prL_len h
    have h3 := (UT_rb r hr).1
    rw [List.length_cons] at hb ⊢
    refine ⟨by rw [List.length_append]; omega, fun x hx => ?_⟩
    rcases List.mem_append.mp hx with z | z
    · exact flat_sh (UT_flat r hr x z) _
    · exact prL_sh h (by omega) x z
theorem prL_sh : ∀ {ds : List PyData} {a : List Row}, PrL UT ds a → a.length ≤ 10000 → ∀ x ∈ ds, Sh a.length x
  | _, _, .nil => fun _ _ h => by cases h
  | _, _, .cons (a := a) (b := b) h t => fun hb x hx => by
    have i1 := pr_sh h
    have i2 := prL_sh t
    rw [List.length_append] at hb ⊢
    rcases List.mem_cons.mp hx with e | hx
    · rw [e]
      exact sh_le (i1 (by omega)) (by omega)
    · exact sh_le (i2 (by omega) x hx) (by omega)
end
theorem pr_bd {d : PyData} {a : List Row} (h : Pr UT d a) (hr : ∀ r ∈ a, r ∈ UT) : ms d ≤ 8 * a.length ∧ (wr d).length ≤ 304 * a.length := by
  have e := bld_pr [] h rfl
  rw [List.append_nil] at e
  have b := bld_bd (fun r hr' => UT_rb r (hr r hr')) e
  have b1 : ms d + 0 + 1 ≤ 8 * a.length := b.1
  have b2 : (wr d ++ []).length + 1 ≤ 304 * a.length := b.2
  rw [List.append_nil] at b2
  omega
def NsOk (ns : List Str) : Prop := (∀ n ∈ ns, n ∈ menu) ∧ 0 < ns.length ∧ ns.length ≤ 3
theorem menu_9 {n : Str} (h : n ∈ menu) : n ∈ menu9 := List.mem_append_left _ h
theorem tabN_UT {ns : List Str} (h : ∀ n ∈ ns, n ∈ menu9) : ∀ r ∈ tabN ns, r ∈ UT := fun r hr => by
  rcases tabN_mem ns hr with h0 | ⟨n, hn, rfl⟩
  · exact UT_tab0 h0
  · exact UT_menu (h n hn)
theorem TX.sx {K : PySem.W.Frag} {st : Addr} {H H' : Hp} (e : SX st H H') : TX K H H' := fun _ _ h => e.seqT h
theorem pr1 {r : Row} (hr : r ∈ UT) (h0 : r.2.2 = 0) : Pr UT (.tuple (r.2.1 ++ [])) [r] := .mk hr h0.symm .nil
theorem pr2 {r : Row} {t : PyData} {a : List Row} (hr : r ∈ UT) (h1 : r.2.2 = 1) (h : Pr UT t a) : Pr UT (.tuple (r.2.1 ++ [t])) (r :: a) := by
  have := Pr.mk hr (kids := [t]) h1.symm (.cons h .nil)
  rwa [List.append_nil] at this
theorem pr3 {r : Row} {t u : PyData} {a b : List Row} (hr : r ∈ UT) (h1 : r.2.2 = 2) (h : Pr UT t a) (h' : Pr UT u b) : Pr UT (.tuple (r.2.1 ++ [t, u])) (r :: (a ++ b)) := by
  have := Pr.mk hr (kids := [t, u]) h1.symm (.cons h (.cons h' .nil))
  rwa [List.append_nil] at this
theorem pr4 {r : Row} {t u v : PyData} {a b c : List Row} (hr : r ∈ UT) (h1 : r.2.2 = 3) (h : Pr UT t a) (h' : Pr UT u b) (h'' : Pr UT v c) : Pr UT (.tuple (r.2.1 ++ [t, u, v])) (r :: (a ++ (b ++ c))) := by
  have := Pr.mk hr (kids := [t, u, v]) h1.symm (.cons h (.cons h' (.cons h'' .nil)))
  rwa [List.append_nil] at this
section
variable {P : Program} {w : World} {K : PySem.W.Frag} {mg : Str → Option Value} {base : Heap}
/-! ### _law_names -/
def sp_law_names (K : PySem.W.Frag) : Sp := fun vs H Q _ => ∃ (st : Addr) (n : Nat), vs = [.ref st] ∧ St H st n ∧ n < 2 ^ 40 ∧ ∀ p ns n' H', SX st H H' → St H' st n' → n' ≤ n + 2 → SqT K H' p (ns.map V.str) → NsOk ns → Q (.ref p) H'
theorem ok_law_names (T : Top K mg w) : FnOk P w K mg base CX0 3 T.a_law_names T.d_law_names ["state"] (sp_law_names K) := by
  refine T.F_law_names.ok sc_law_names (fun vs H Q E h => ?_) (fun cdv A outer s H vs Q E hr h => ?_)
  · obtain ⟨st, n, rfl, _⟩ := h
    rfl
  obtain ⟨st, n, rfl, hs, hn, q⟩ := h
  refine ⟨_, (pss_cons (ps_set (i := 1) sc_law_names.nd rfl (Or.inr rfl) (pe_lst (pa_cons pe_str (pa_cons pe_str (pa_cons pe_str (pa_cons pe_str (pa_cons pe_str (pa_cons pe_str (pa_cons pe_str pa_nil)))))))))
      (pss_cons (ps_set (i := 2) sc_law_names.nd rfl (Or.inr rfl) (pe_call ((ok_law_take T).mono (by decide)) hr (by rfl) T.m_law_take T.F_law_take.kp T.b_law_take .nil pass0 (pa_cons (pv 0) (pa_cons pe_int pa_nil))))
      (pss_one (ps_ret (pe_callTy call_tuple_of (by rfl) T.z_tuple (by decide +kernel) (pa_cons (pe_lc (own := [("k", 3)]) (g := gName 3) (by rfl) sc_law_names.nd (pi_range1 (by rfl) T.z_range (pa_cons (pe_op op_add pe_int (pe_call ((ok_law_take T).mono (by decide)) hr (by rfl) T.m_law_take T.F_law_take.kp T.b_law_take .nil pass0 (pa_cons (pv 0) (pa_cons pe_int pa_nil)))) pa_nil)) (blkOk_by (own := [("k", 3)]) (N := ["state", "menu", "first", "k"]) (sc := defScope s_law_names) (by decide +kernel)) (fun _ _ _ _ _ => (pg_name (i := 3) sc_law_names.nd rfl (Or.inl rfl))) (fun _ _ _ _ _ => pts_nil) (fun _ _ _ _ _ => (pe_ix (show IxR _ (rIxL K) from ix_list) (pv 1) (pe_op op_mod (pe_callTy call_int1 (by rfl) T.z_int (by decide +kernel) (pa_cons (pe_op op_add (pv 2) (pe_op op_mul pe_int (pv 3))) pa_nil)) pe_int) (fun _ _ => rfl)))) pa_nil)))))), ?_⟩
  refine ⟨by show 7 ≤ sizeLine; decide, fun mn hmn => ?_⟩
  have s0 := hs.new (o := .lst (menu.map V.str)) hmn
  have x0 : SX st H (upd H mn (.lst (menu.map V.str))) := SX.new hmn
  have m0 : (upd H mn (.lst (menu.map V.str))) mn = some (.lst (menu.map V.str)) := upd_same
  have hne : mn ≠ st := fun e => by
    obtain ⟨xs, hx⟩ := hs.isL
    rw [e, hx] at hmn
    cases hmn
  (repeat (first
      | refine ⟨_, rfl, ?_⟩
      | refine ⟨_, _, rfl, rfl, ?_⟩
      | refine Or.inl ⟨_, rfl, ?_⟩
      | refine Or.inr ⟨_, rfl, ?_⟩
      | refine ⟨Or.inl ⟨by decide, by decide⟩, ?_⟩
      | refine ⟨Or.inr ⟨by decide, by decide⟩, ?_⟩
      | refine ⟨⟨by decide, by decide⟩, ?_⟩
      | refine ⟨⟨by decide, by decide, by decide⟩, ?_⟩
      | refine ⟨by decide, ?_⟩
      | refine ⟨(by show (0 : Int) < _; decide), ?_⟩
      | refine ⟨rfl, ?_⟩
      | refine ⟨⟨_, rfl⟩, ?_⟩
      | refine ⟨_, rfl, rfl, trivial, ?_⟩
      | refine ⟨_, _, rfl, ?_⟩))
  refine ⟨st, n, 7, rfl, s0, by omega, by decide, fun first H1 f0 f1 x1 s1 => ?_⟩
  have m1 := x1.lst hne m0
  (repeat (first
      | refine ⟨_, rfl, ?_⟩
      | refine ⟨_, _, rfl, rfl, ?_⟩
      | refine Or.inl ⟨_, rfl, ?_⟩
      | refine Or.inr ⟨_, rfl, ?_⟩
      | refine ⟨Or.inl ⟨by decide, by decide⟩, ?_⟩
      | refine ⟨Or.inr ⟨by decide, by decide⟩, ?_⟩
      | refine ⟨⟨by decide, by decide⟩, ?_⟩
      | refine ⟨⟨by decide, by decide, by decide⟩, ?_⟩
      | refine ⟨by decide, ?_⟩
      | refine ⟨(by show (0 : Int) < _; decide), ?_⟩
      | refine ⟨rfl, ?_⟩
      | refine ⟨⟨_, rfl⟩, ?_⟩
      | refine ⟨_, rfl, rfl, trivial, ?_⟩
      | refine ⟨_, _, rfl, ?_⟩))
  refine ⟨st, n + 1, 3, rfl, s1, by omega, by decide, fun v H2 v0 v1 x2 s2 => ?_⟩
  have m2 := x2.lst hne m1
  (repeat (first
      | refine ⟨_, rfl, ?_⟩
      | refine ⟨_, _, rfl, rfl, ?_⟩
      | refine Or.inl ⟨_, rfl, ?_⟩
      | refine Or.inr ⟨_, rfl, ?_⟩
      | refine ⟨Or.inl ⟨by decide, by decide⟩, ?_⟩
      | refine ⟨Or.inr ⟨by decide, by decide⟩, ?_⟩
      | refine ⟨⟨by decide, by decide⟩, ?_⟩
      | refine ⟨⟨by decide, by decide, by decide⟩, ?_⟩
      | refine ⟨by decide, ?_⟩
      | refine ⟨(by show (0 : Int) < _; decide), ?_⟩
      | refine ⟨rfl, ?_⟩
      | refine ⟨⟨_, rfl⟩, ?_⟩
      | refine ⟨_, rfl, rfl, trivial, ?_⟩
      | refine ⟨_, _, rfl, ?_⟩))
  refine ⟨by omega, by omega, fun D hD => ?_⟩
  have smD : ∀ o, L2.Same H2 (upd H2 D o) := fun o => same_upd hD
  refine lc_range (lo := 0) (n := (1 + v).toNat) (fun i H' => ∃ ns : List Str, H' = upd H2 D (.lst (ns.map V.str)) ∧ (∀ n ∈ ns, n ∈ menu) ∧ ns.length = i) ⟨[], rfl, (fun _ h => by cases h), rfl⟩ ?_ ?_
  · rintro i H' hi ⟨ns, rfl, hm, hl⟩
    refine ⟨rfl, ?_⟩
    (repeat (first
      | refine ⟨_, rfl, ?_⟩
      | refine ⟨_, _, rfl, rfl, ?_⟩
      | refine Or.inl ⟨_, rfl, ?_⟩
      | refine Or.inr ⟨_, rfl, ?_⟩
      | refine ⟨Or.inl ⟨by decide, by decide⟩, ?_⟩
      | refine ⟨Or.inr ⟨by decide, by decide⟩, ?_⟩
      | refine ⟨⟨by decide, by decide⟩, ?_⟩
      | refine ⟨⟨by decide, by decide, by decide⟩, ?_⟩
      | refine ⟨by decide, ?_⟩
      | refine ⟨(by show (0 : Int) < _; decide), ?_⟩
      | refine ⟨rfl, ?_⟩
      | refine ⟨⟨_, rfl⟩, ?_⟩
      | refine ⟨_, rfl, rfl, trivial, ?_⟩
      | refine ⟨_, _, rfl, ?_⟩))
    have hj0 : 0 ≤ (first + 3 * (0 + (i : Int))) % 7 := Int.emod_nonneg _ (by decide)
    have hj1 : (first + 3 * (0 + (i : Int))) % 7 < 7 := Int.emod_lt_of_pos _ (by decide)
    obtain ⟨j, hj, ej⟩ : ∃ j : Nat, j < menu.length ∧ (first + 3 * (0 + (i : Int))) % 7 = (j : Int) := ⟨((first + 3 * (0 + (i : Int))) % 7).toNat, by show _ < 7; omega, by omega⟩
    refine ⟨mn, menu.map V.str, _, .str menu[j], rfl, rfl, SqL.of (smD _ _ _ m2), (by
      show atI _ ((first + 3 * (0 + (i : Int))) % 7) = _
      rw [ej]
      exact atI_nat (by rw [List.getElem?_map, List.getElem?_eq_getElem hj]; rfl)), ?_⟩
    refine ⟨_, upd_same, smallL (by rw [List.length_map]; omega), ns ++ [menu[j]], ?_, (fun n hn => ?_), by rw [List.length_append, hl]; rfl⟩
    · rw [upd_upd, List.map_append]
      rfl
    · rcases List.mem_append.mp hn with h | h
      · exact hm n h
      · rw [List.mem_singleton.mp h]
        exact List.getElem_mem hj
  rintro _ ⟨ns, rfl, hm, hl⟩
  (repeat (first
      | refine ⟨_, rfl, ?_⟩
      | refine ⟨_, _, rfl, rfl, ?_⟩
      | refine Or.inl ⟨_, rfl, ?_⟩
      | refine Or.inr ⟨_, rfl, ?_⟩
      | refine ⟨Or.inl ⟨by decide, by decide⟩, ?_⟩
      | refine ⟨Or.inr ⟨by decide, by decide⟩, ?_⟩
      | refine ⟨⟨by decide, by decide⟩, ?_⟩
      | refine ⟨⟨by decide, by decide, by decide⟩, ?_⟩
      | refine ⟨by decide, ?_⟩
      | refine ⟨(by show (0 : Int) < _; decide), ?_⟩
      | refine ⟨rfl, ?_⟩
      | refine ⟨⟨_, rfl⟩, ?_⟩
      | refine ⟨_, rfl, rfl, trivial, ?_⟩
      | refine ⟨_, _, rfl, ?_⟩))
  refine ⟨D, _, rfl, .inl ⟨SqL.of upd_same, fun p hp => ?_⟩⟩
  have s4 : SX st H2 (upd (upd H2 D (.lst (ns.map V.str))) p (.tup (ns.map V.str))) := (SX.same (smD _)).trans (SX.new hp)
  exact q p ns _ _ (((x0.trans x1).trans x2).trans s4) ((s2.new hD).new hp) (by omega) (SqT.of upd_same) ⟨hm, by omega, by omega⟩
/-! ### _law_leaf -/
def sp_law_leaf (K : PySem.W.Frag) : Sp := fun vs H Q _ => ∃ (st nm : Addr) (n : Nat) (ns : List Str), vs = [.ref st, .ref nm] ∧ St H st n ∧ n < 2 ^ 40 ∧ SqT K H nm (ns.map V.str) ∧ NsOk ns ∧ ∀ p t a n' H', SX st H H' → St H' st n' → n' ≤ n + 2 → Dp K H' (.ref p) t → Pr UT t a → (∀ r ∈ a, r ∈ tabN ns) → a.length = 1 → Q (.ref p) H'
theorem ok_law_leaf (T : Top K mg w) : FnOk P w K mg base CX0 3 T.a_law_leaf T.d_law_leaf ["state", "names"] (sp_law_leaf K) := by
  refine T.F_law_leaf.ok sc_law_leaf (fun vs H Q E h => ?_) (fun cdv A outer s H vs Q E hr h => ?_)
  · obtain ⟨st, nm, n, ns, rfl, _⟩ := h
    rfl
  obtain ⟨st, nm, n, ns, rfl, hs, hn, hN, hno, q⟩ := h
  refine ⟨_, (pss_cons (ps_set (i := 2) sc_law_leaf.nd rfl (Or.inl rfl) (pe_call ((ok_law_take T).mono (by decide)) hr (by rfl) T.m_law_take T.F_law_take.kp T.b_law_take .nil pass0 (pa_cons (pv 0) (pa_cons pe_int pa_nil))))
      (pss_cons (ps_if (pt_cmpR op_lt (pv 2) pe_int (nomark _))
        (pss_one (ps_ret (pe_tup (pa_cons pe_str pa_nil))))
        pss_nil)
      (pss_cons (ps_if (pt_cmpR op_eq (pv 2) pe_int (nomark _))
        (pss_one (ps_ret (pe_tup (pa_cons pe_str pa_nil))))
        pss_nil)
      (pss_one (ps_ret (pe_tup (pa_cons pe_str (pa_cons (pe_ix ix_tup (pv 1) (pe_call ((ok_law_take T).mono (by decide)) hr (by rfl) T.m_law_take T.F_law_take.kp T.b_law_take .nil pass0 (pa_cons (pv 0) (pa_cons (pe_callB call_len_seq (by rfl) T.z_len (by decide +kernel) (pa_cons (pv 1) pa_nil)) pa_nil))) (fun _ _ => rfl)) pa_nil)))))))), ?_⟩
  (repeat (first
      | refine ⟨_, rfl, ?_⟩
      | refine ⟨_, _, rfl, rfl, ?_⟩
      | refine Or.inl ⟨_, rfl, ?_⟩
      | refine Or.inr ⟨_, rfl, ?_⟩
      | refine ⟨Or.inl ⟨by decide, by decide⟩, ?_⟩
      | refine ⟨Or.inr ⟨by decide, by decide⟩, ?_⟩
      | refine ⟨⟨by decide, by decide⟩, ?_⟩
      | refine ⟨⟨by decide, by decide, by decide⟩, ?_⟩
      | refine ⟨by decide, ?_⟩
      | refine ⟨(by show (0 : Int) < _; decide), ?_⟩
      | refine ⟨rfl, ?_⟩
      | refine ⟨⟨_, rfl⟩, ?_⟩
      | refine ⟨_, rfl, rfl, trivial, ?_⟩
      | refine ⟨_, _, rfl, ?_⟩))
  refine ⟨st, n, 5, rfl, hs, by omega, by decide, fun v H1 v0 v1 x1 s1 => ?_⟩
  (repeat (first
      | refine ⟨_, rfl, ?_⟩
      | refine ⟨_, _, rfl, rfl, ?_⟩
      | refine Or.inl ⟨_, rfl, ?_⟩
      | refine Or.inr ⟨_, rfl, ?_⟩
      | refine ⟨Or.inl ⟨by decide, by decide⟩, ?_⟩
      | refine ⟨Or.inr ⟨by decide, by decide⟩, ?_⟩
      | refine ⟨⟨by decide, by decide⟩, ?_⟩
      | refine ⟨⟨by decide, by decide, by decide⟩, ?_⟩
      | refine ⟨by decide, ?_⟩
      | refine ⟨(by show (0 : Int) < _; decide), ?_⟩
      | refine ⟨rfl, ?_⟩
      | refine ⟨⟨_, rfl⟩, ?_⟩
      | refine ⟨_, rfl, rfl, trivial, ?_⟩
      | refine ⟨_, _, rfl, ?_⟩))
  refine ite_dec (fun c => ?_) (fun c => ?_)
  · refine ⟨by show 1 ≤ sizeLine; decide, fun p hp => ?_⟩
    exact q p _ _ _ _ (x1.trans (SX.new hp)) (s1.new hp) (by omega) (.tup (SqT.of upd_same) (.cons (.str _) .nil)) (pr1 (r := ("now", [sd "now"], 0)) (UT_tab0 (by simp [tab0])) rfl) (fun r hr => by rw [List.mem_singleton.mp hr]; exact tabN_tab0 (by simp [tab0])) rfl
  (repeat (first
      | refine ⟨_, rfl, ?_⟩
      | refine ⟨_, _, rfl, rfl, ?_⟩
      | refine Or.inl ⟨_, rfl, ?_⟩
      | refine Or.inr ⟨_, rfl, ?_⟩
      | refine ⟨Or.inl ⟨by decide, by decide⟩, ?_⟩
      | refine ⟨Or.inr ⟨by decide, by decide⟩, ?_⟩
      | refine ⟨⟨by decide, by decide⟩, ?_⟩
      | refine ⟨⟨by decide, by decide, by decide⟩, ?_⟩
      | refine ⟨by decide, ?_⟩
      | refine ⟨(by show (0 : Int) < _; decide), ?_⟩
      | refine ⟨rfl, ?_⟩
      | refine ⟨⟨_, rfl⟩, ?_⟩
      | refine ⟨_, rfl, rfl, trivial, ?_⟩
      | refine ⟨_, _, rfl, ?_⟩))
  refine ite_dec (fun c2 => ?_) (fun c2 => ?_)
  · refine ⟨by show 1 ≤ sizeLine; decide, fun p hp => ?_⟩
    exact q p _ _ _ _ (x1.trans (SX.new hp)) (s1.new hp) (by omega) (.tup (SqT.of upd_same) (.cons (.str _) .nil)) (pr1 (r := ("nothing", [sd "nothing"], 0)) (UT_tab0 (by simp [tab0])) rfl) (fun r hr => by rw [List.mem_singleton.mp hr]; exact tabN_tab0 (by simp [tab0])) rfl
  have hN1 := x1.seqT hN
  (repeat (first
      | refine ⟨_, rfl, ?_⟩
      | refine ⟨_, _, rfl, rfl, ?_⟩
      | refine Or.inl ⟨_, rfl, ?_⟩
      | refine Or.inr ⟨_, rfl, ?_⟩
      | refine ⟨Or.inl ⟨by decide, by decide⟩, ?_⟩
      | refine ⟨Or.inr ⟨by decide, by decide⟩, ?_⟩
      | refine ⟨⟨by decide, by decide⟩, ?_⟩
      | refine ⟨⟨by decide, by decide, by decide⟩, ?_⟩
      | refine ⟨by decide, ?_⟩
      | refine ⟨(by show (0 : Int) < _; decide), ?_⟩
      | refine ⟨rfl, ?_⟩
      | refine ⟨⟨_, rfl⟩, ?_⟩
      | refine ⟨_, rfl, rfl, trivial, ?_⟩
      | refine ⟨_, _, rfl, ?_⟩))
  refine ⟨nm, _, rfl, .inr hN1, ?_⟩
  rw [List.length_map]
  refine ⟨st, n + 1, _, rfl, s1, by omega, by have := hno.2.1; omega, fun i H2 i0 i1 x2 s2 => ?_⟩
  have hN2 := x2.seqT hN1
  have hi : i.toNat < ns.length := by omega
  have ei : i = (i.toNat : Int) := by omega
  refine ⟨nm, _, _, _, rfl, rfl, hN2, (by rw [ei]; exact atI_nat (j := i.toNat) (by rw [List.getElem?_map, List.getElem?_eq_getElem hi]; rfl)), ?_⟩
  refine ⟨by show 2 ≤ sizeLine; decide, fun p hp => ?_⟩
  have hmem : ns[i.toNat] ∈ ns := List.getElem_mem hi
  exact q p _ _ _ _ ((x1.trans x2).trans (SX.new hp)) (s2.new hp) (by omega) (.tup (SqT.of upd_same) (.cons (.str _) (.cons (.str _) .nil))) (pr1 (r := isR ns[i.toNat]) (UT_menu (menu_9 (hno.1 _ hmem))) rfl) (fun r hr => by rw [List.mem_singleton.mp hr]; exact tabN_has ns hmem) rfl
end
end My

namespace My
open PySem PySem.Spec PyProof.Rows L2 NumText TL
theorem in0 {i : Nat} (h : i < tab0.length := by decide) : tab0[i] ∈ tab0 := List.getElem_mem h
theorem un_row {v : Int} (h0 : 1 ≤ v) (h1 : v < 4) : ∃ (s : Str) (r : Row), atI [V.str "last", V.str "first", V.str "before"] (v - 1) = some (.str s) ∧ r ∈ tab0 ∧ r.2 = ([.str s], 1) := by
  have : v = 1 ∨ v = 2 ∨ v = 3 := by omega
  rcases this with rfl | rfl | rfl
  · exact ⟨"last", _, rfl, in0 (i := 5), rfl⟩
  · exact ⟨"first", _, rfl, in0 (i := 6), rfl⟩
  · exact ⟨"before", _, rfl, in0 (i := 7), rfl⟩
theorem nu_row {v : Int} (h0 : 4 ≤ v) (h1 : v < 7) : ∃ (s : Str) (m : Int), atI [V.int 2, V.int 2, V.int 3] (v - 4) = some (.int m) ∧ 0 < m ∧ atI [V.str "great", V.str "least", V.str "times"] (v - 4) = some (.str s) ∧ ∀ t, 0 ≤ t → t < m → ∃ r : Row, r ∈ tab0 ∧ r.2 = ([.str s, .int (1 + t)], 1) := by
  have : v = 4 ∨ v = 5 ∨ v = 6 := by omega
  rcases this with rfl | rfl | rfl
  · refine ⟨"great", 2, rfl, by decide, rfl, fun t t0 t1 => ?_⟩
    have : t = 0 ∨ t = 1 := by omega
    rcases this with rfl | rfl
    · exact ⟨_, in0 (i := 8), rfl⟩
    · exact ⟨_, in0 (i := 9), rfl⟩
  · refine ⟨"least", 2, rfl, by decide, rfl, fun t t0 t1 => ?_⟩
    have : t = 0 ∨ t = 1 := by omega
    rcases this with rfl | rfl
    · exact ⟨_, in0 (i := 10), rfl⟩
    · exact ⟨_, in0 (i := 11), rfl⟩
  · refine ⟨"times", 3, rfl, by decide, rfl, fun t t0 t1 => ?_⟩
    have : t = 0 ∨ t = 1 ∨ t = 2 := by omega
    rcases this with rfl | rfl | rfl
    · exact ⟨_, in0 (i := 12), rfl⟩
    · exact ⟨_, in0 (i := 13), rfl⟩
    · exact ⟨_, in0 (i := 14), rfl⟩
theorem ci_row {u t : Int} (h0 : 0 ≤ u) (h1 : u < 2) (t0 : 0 ≤ t) (t1 : t < 2 + u) : ∃ r : Row, r ∈ tab0 ∧ r.2 = ([sd "circle", .int (2 + u), .int t], 1) := by
  have : u = 0 ∨ u = 1 := by omega
  rcases this with rfl | rfl
  · have : t = 0 ∨ t = 1 := by omega
    rcases this with rfl | rfl
    · exact ⟨_, in0 (i := 15), rfl⟩
    · exact ⟨_, in0 (i := 16), rfl⟩
  · have : t = 0 ∨ t = 1 ∨ t = 2 := by omega
    rcases this with rfl | rfl | rfl
    · exact ⟨_, in0 (i := 17), rfl⟩
    · exact ⟨_, in0 (i := 18), rfl⟩
    · exact ⟨_, in0 (i := 19), rfl⟩
def words8 : List V := [V.str "less", V.str "same", V.str "since", V.str "among", V.str "since", V.str "among", V.str "less", V.str "same"]
theorem bi_row {v : Int} (h0 : 8 ≤ v) (h1 : v < 16) : ∃ (s : Str) (r : Row), atI words8 (v % 8) = some (.str s) ∧ r ∈ tab0 ∧ r.2 = ([.str s], 2) := by
  have : v = 8 ∨ v = 9 ∨ v = 10 ∨ v = 11 ∨ v = 12 ∨ v = 13 ∨ v = 14 ∨ v = 15 := by omega
  rcases this with rfl | rfl | rfl | rfl | rfl | rfl | rfl | rfl
  · exact ⟨"less", _, rfl, in0 (i := 2), rfl⟩
  · exact ⟨"same", _, rfl, in0 (i := 3), rfl⟩
  · exact ⟨"since", _, rfl, in0 (i := 20), rfl⟩
  · exact ⟨"among", _, rfl, in0 (i := 21), rfl⟩
  · exact ⟨"since", _, rfl, in0 (i := 20), rfl⟩
  · exact ⟨"among", _, rfl, in0 (i := 21), rfl⟩
  · exact ⟨"less", _, rfl, in0 (i := 2), rfl⟩
  · exact ⟨"same", _, rfl, in0 (i := 3), rfl⟩
theorem prL_app {tb : List Row} : ∀ {ds ds' : List PyData} {a a' : List Row}, PrL tb ds a → PrL tb ds' a' → PrL tb (ds ++ ds') (a ++ a')
  | _, _, _, _, .nil, h => h
  | _, _, _, _, .cons (a := a) (b := b) h t, h' => by
    rw [List.append_assoc]
    exact .cons h (prL_app t h')
theorem row_eta {r : Row} {fs : List PyData} {c : Nat} (h : r.2 = (fs, c)) : r.2.1 = fs ∧ r.2.2 = c := by rw [h]; exact ⟨rfl, rfl⟩
section
variable {P : Program} {w : World} {K : PySem.W.Frag} {mg : Str → Option Value} {base : Heap}
/-! ### _law_tree -/
def sp_law_tree (K : PySem.W.Frag) (j : Nat) : Sp := fun vs H Q _ => ∃ (st nm : Addr) (n : Nat) (ns : List Str) (room : Nat), vs = [.ref st, .ref nm, .int (room : Int)] ∧ St H st n ∧ n + 6 * room + 100 < 2 ^ 40 ∧ SqT K H nm (ns.map V.str) ∧ NsOk ns ∧ 1 ≤ room ∧ room ≤ j ∧ room ≤ 100 ∧
  ∀ p t a n' H', SX st H H' → St H' st n' → n' ≤ n + 6 * a.length → Dp K H' (.ref p) t → Pr UT t a → (∀ r ∈ a, r ∈ tabN ns) → a.length ≤ room → Q (.ref p) H'
theorem ptu {t : PyData} {a : List Row} (h : Pr UT t a) : tr t = true := pr_tr h
theorem step_law_tree (T : Top K mg w) (j k : Nat) (hk : 3 ≤ k) (G_law_tree : ∀ m, m + 1 = j → FnOk P w K mg base CX0 k T.a_law_tree T.d_law_tree ["state", "names", "room"] (sp_law_tree K m)) : FnOk P w K mg base CX0 (k + 1) T.a_law_tree T.d_law_tree ["state", "names", "room"] (sp_law_tree K j) := by
  have no0 : FnOk P w K mg base CX0 k T.a_law_tree T.d_law_tree ["state", "names", "room"] (fun _ _ _ _ => False) := ⟨fun vs H Q E h => h.elim, fun A outer s H args us vs Q E _ _ _ _ h => h.elim⟩
  have G_law_tree : FnOk P w K mg base CX0 k T.a_law_tree T.d_law_tree ["state", "names", "room"] (fun vs H Q E => ∃ m, m + 1 = j ∧ sp_law_tree K m vs H Q E) := by
    cases j with
    | zero => exact no0.imp fun vs H Q E ⟨m, h, _⟩ => by omega
    | succ n =>
      refine (G_law_tree n rfl).imp fun vs H Q E h => ?_
      obtain ⟨m, h, q⟩ := h
      have e : m = n := by omega
      subst e
      exact q
  have G_law_take : FnOk P w K mg base CX0 k T.a_law_take T.d_law_take ["state", "many"] sp_law_take := (ok_law_take T).mono (by omega)
  have G_law_leaf : FnOk P w K mg base CX0 k T.a_law_leaf T.d_law_leaf ["state", "names"] (sp_law_leaf K) := (ok_law_leaf T).mono hk
  refine T.F_law_tree.ok sc_law_tree (fun vs H Q E h => ?_) (fun cdv A outer s H vs Q E hr h => ?_)
  · obtain ⟨st, nm, n, ns, room, rfl, _⟩ := h
    rfl
  obtain ⟨st, nm, n, ns, room, rfl, hs, hn, hN, hno, h1, hj, h100, q⟩ := h
  refine ⟨_, (pss_cons (ps_set (i := 3) sc_law_tree.nd rfl (Or.inl rfl) (pe_call G_law_take hr (by rfl) T.m_law_take T.F_law_take.kp T.b_law_take .nil pass0 (pa_cons (pv 0) (pa_cons pe_int pa_nil))))
      (pss_cons (ps_if (PW.pt (pw_or (pt_cmpR op_lt (pv 2) pe_int (nomark _)) (pw_or1 (pt_cmpR op_eq (pv 3) pe_int (nomark _)))))
        (pss_one (ps_ret (pe_call G_law_leaf hr (by rfl) T.m_law_leaf T.F_law_leaf.kp T.b_law_leaf .nil pass0 (pa_cons (pv 0) (pa_cons (pv 1) pa_nil)))))
        pss_nil)
      (pss_cons (ps_if (pt_cmpR op_lt (pv 3) pe_int (nomark _))
        (pss_one (ps_ret (pe_tup (pa_cons (pe_ix ix_list (pe_lst (pa_cons pe_str (pa_cons pe_str (pa_cons pe_str pa_nil)))) (pe_op op_sub (pv 3) pe_int) (fun _ _ => rfl)) (pa_cons (pe_call G_law_tree hr (by rfl) T.m_law_tree T.F_law_tree.kp T.b_law_tree .nil pass0 (pa_cons (pv 0) (pa_cons (pv 1) (pa_cons (pe_op op_sub (pv 2) pe_int) pa_nil)))) pa_nil)))))
        pss_nil)
      (pss_cons (ps_if (pt_cmpR op_lt (pv 3) pe_int (nomark _))
        (pss_cons (ps_set (i := 4) sc_law_tree.nd rfl (Or.inl rfl) (pe_ix ix_list (pe_lst (pa_cons pe_int (pa_cons pe_int (pa_cons pe_int pa_nil)))) (pe_op op_sub (pv 3) pe_int) (fun _ _ => rfl)))
      (pss_one (ps_ret (pe_tup (pa_cons (pe_ix ix_list (pe_lst (pa_cons pe_str (pa_cons pe_str (pa_cons pe_str pa_nil)))) (pe_op op_sub (pv 3) pe_int) (fun _ _ => rfl)) (pa_cons (pe_op op_add pe_int (pe_call G_law_take hr (by rfl) T.m_law_take T.F_law_take.kp T.b_law_take .nil pass0 (pa_cons (pv 0) (pa_cons (pv 4) pa_nil)))) (pa_cons (pe_call G_law_tree hr (by rfl) T.m_law_tree T.F_law_tree.kp T.b_law_tree .nil pass0 (pa_cons (pv 0) (pa_cons (pv 1) (pa_cons (pe_op op_sub (pv 2) pe_int) pa_nil)))) pa_nil)))))))
        pss_nil)
      (pss_cons (ps_if (pt_cmpR op_eq (pv 3) pe_int (nomark _))
        (pss_cons (ps_set (i := 4) sc_law_tree.nd rfl (Or.inl rfl) (pe_op op_add pe_int (pe_call G_law_take hr (by rfl) T.m_law_take T.F_law_take.kp T.b_law_take .nil pass0 (pa_cons (pv 0) (pa_cons pe_int pa_nil)))))
      (pss_one (ps_ret (pe_tup (pa_cons pe_str (pa_cons (pv 4) (pa_cons (pe_call G_law_take hr (by rfl) T.m_law_take T.F_law_take.kp T.b_law_take .nil pass0 (pa_cons (pv 0) (pa_cons (pv 4) pa_nil))) (pa_cons (pe_call G_law_tree hr (by rfl) T.m_law_tree T.F_law_tree.kp T.b_law_tree .nil pass0 (pa_cons (pv 0) (pa_cons (pv 1) (pa_cons (pe_op op_sub (pv 2) pe_int) pa_nil)))) pa_nil))))))))
        pss_nil)
      (pss_cons (ps_if (PW.pt (pw_and (pt_cmpR op_lt (pv 3) pe_int (nomark _)) (pw_and1 (pt_cmpR op_gt (pv 2) pe_int (nomark _)))))
        (pss_cons (ps_setLc (i := 5) (own := [("k", 8)]) (g := gName 8) (by rfl) sc_law_tree.nd rfl rfl (sw_true rfl rfl rfl (by decide +kernel)) (pi_range1 (by rfl) T.z_range (pa_cons pe_int pa_nil)) (blkOk_by (own := [("k", 8)]) (N := ["state", "names", "room", "pick", "many", "kids", "first", "word", "k"]) (sc := defScope s_law_tree) (by decide +kernel)) (fun _ _ _ _ _ => (pg_name (i := 8) sc_law_tree.nd rfl (Or.inl rfl))) (fun _ _ _ _ _ => pts_nil) (fun _ _ _ _ _ => (pe_call G_law_tree hr (by rfl) T.m_law_tree T.F_law_tree.kp T.b_law_tree .nil pass0 (pa_cons (pv 0) (pa_cons (pv 1) (pa_cons (pe_op op_fdiv (pe_op op_sub (pv 2) pe_int) pe_int) pa_nil))))))
      (pss_one (ps_ret (pe_tup (pa_cons pe_str (pa_cons (pe_ix ix_list (pv 5) pe_int (fun _ _ => rfl)) (pa_cons (pe_ix ix_list (pv 5) pe_int (fun _ _ => rfl)) (pa_cons (pe_ix ix_list (pv 5) pe_int (fun _ _ => rfl)) pa_nil))))))))
        pss_nil)
      (pss_cons (ps_if (pt_cmpR op_lt (pv 2) pe_int (nomark _))
        (pss_one (ps_ret (pe_tup (pa_cons pe_str (pa_cons (pe_call G_law_leaf hr (by rfl) T.m_law_leaf T.F_law_leaf.kp T.b_law_leaf .nil pass0 (pa_cons (pv 0) (pa_cons (pv 1) pa_nil))) pa_nil)))))
        pss_nil)
      (pss_cons (ps_set (i := 6) sc_law_tree.nd rfl (Or.inl rfl) (pe_op op_add pe_int (pe_call G_law_take hr (by rfl) T.m_law_take T.F_law_take.kp T.b_law_take .nil pass0 (pa_cons (pv 0) (pa_cons (pe_op op_sub (pv 2) pe_int) pa_nil)))))
      (pss_cons (ps_set (i := 7) sc_law_tree.nd rfl (Or.inl rfl) (pe_ix ix_list (pe_lst (pa_cons pe_str (pa_cons pe_str (pa_cons pe_str (pa_cons pe_str (pa_cons pe_str (pa_cons pe_str (pa_cons pe_str (pa_cons pe_str pa_nil))))))))) (pe_op op_mod (pe_callTy call_int1 (by rfl) T.z_int (by decide +kernel) (pa_cons (pv 3) pa_nil)) pe_int) (fun _ _ => rfl)))
      (pss_one (ps_ret (pe_tup (pa_cons (pv 7) (pa_cons (pe_call G_law_tree hr (by rfl) T.m_law_tree T.F_law_tree.kp T.b_law_tree .nil pass0 (pa_cons (pv 0) (pa_cons (pv 1) (pa_cons (pv 6) pa_nil)))) (pa_cons (pe_call G_law_tree hr (by rfl) T.m_law_tree T.F_law_tree.kp T.b_law_tree .nil pass0 (pa_cons (pv 0) (pa_cons (pv 1) (pa_cons (pe_op op_sub (pe_op op_sub (pv 2) pe_int) (pv 6)) pa_nil)))) pa_nil))))))))))))))), ?_⟩
  (repeat (first
      | refine ⟨_, rfl, ?_⟩
      | refine ⟨_, _, rfl, rfl, ?_⟩
      | refine Or.inl ⟨_, rfl, ?_⟩
      | refine Or.inr ⟨_, rfl, ?_⟩
      | refine ⟨Or.inl ⟨by decide, by decide⟩, ?_⟩
      | refine ⟨Or.inr ⟨by decide, by decide⟩, ?_⟩
      | refine ⟨⟨by decide, by decide⟩, ?_⟩
      | refine ⟨⟨by decide, by decide, by decide⟩, ?_⟩
      | refine ⟨by decide, ?_⟩
      | refine ⟨(by show (0 : Int) < _; decide), ?_⟩
      | refine ⟨rfl, ?_⟩
      | refine ⟨⟨_, rfl⟩, ?_⟩
      | refine ⟨_, rfl, rfl, trivial, ?_⟩
      | refine ⟨_, _, rfl, ?_⟩))
  refine ⟨st, n, 16, rfl, hs, by omega, by decide, fun v H1 v0 v1 x1 s1 => ?_⟩
  have hN1 := x1.seqT hN
  (repeat (first
      | refine ⟨_, rfl, ?_⟩
      | refine ⟨_, _, rfl, rfl, ?_⟩
      | refine Or.inl ⟨_, rfl, ?_⟩
      | refine Or.inr ⟨_, rfl, ?_⟩
      | refine ⟨Or.inl ⟨by decide, by decide⟩, ?_⟩
      | refine ⟨Or.inr ⟨by decide, by decide⟩, ?_⟩
      | refine ⟨⟨by decide, by decide⟩, ?_⟩
      | refine ⟨⟨by decide, by decide, by decide⟩, ?_⟩
      | refine ⟨by decide, ?_⟩
      | refine ⟨(by show (0 : Int) < _; decide), ?_⟩
      | refine ⟨rfl, ?_⟩
      | refine ⟨⟨_, rfl⟩, ?_⟩
      | refine ⟨_, rfl, rfl, trivial, ?_⟩
      | refine ⟨_, _, rfl, ?_⟩))
  refine ite_dec (fun c => ?_) (fun c => ?_)
  · refine ifT ?_
    (repeat (first
      | refine ⟨_, rfl, ?_⟩
      | refine ⟨_, _, rfl, rfl, ?_⟩
      | refine Or.inl ⟨_, rfl, ?_⟩
      | refine Or.inr ⟨_, rfl, ?_⟩
      | refine ⟨Or.inl ⟨by decide, by decide⟩, ?_⟩
      | refine ⟨Or.inr ⟨by decide, by decide⟩, ?_⟩
      | refine ⟨⟨by decide, by decide⟩, ?_⟩
      | refine ⟨⟨by decide, by decide, by decide⟩, ?_⟩
      | refine ⟨by decide, ?_⟩
      | refine ⟨(by show (0 : Int) < _; decide), ?_⟩
      | refine ⟨rfl, ?_⟩
      | refine ⟨⟨_, rfl⟩, ?_⟩
      | refine ⟨_, rfl, rfl, trivial, ?_⟩
      | refine ⟨_, _, rfl, ?_⟩))
    refine ⟨st, nm, n + 1, ns, rfl, s1, by omega, hN1, hno, fun p t a n' H2 x2 s2 hn2 hd hp hr' ha => ?_⟩
    exact q p t a n' H2 (x1.trans x2) s2 (by omega) hd hp hr' (by omega)
  (repeat (first
      | refine ⟨_, rfl, ?_⟩
      | refine ⟨_, _, rfl, rfl, ?_⟩
      | refine Or.inl ⟨_, rfl, ?_⟩
      | refine Or.inr ⟨_, rfl, ?_⟩
      | refine ⟨Or.inl ⟨by decide, by decide⟩, ?_⟩
      | refine ⟨Or.inr ⟨by decide, by decide⟩, ?_⟩
      | refine ⟨⟨by decide, by decide⟩, ?_⟩
      | refine ⟨⟨by decide, by decide, by decide⟩, ?_⟩
      | refine ⟨by decide, ?_⟩
      | refine ⟨(by show (0 : Int) < _; decide), ?_⟩
      | refine ⟨rfl, ?_⟩
      | refine ⟨⟨_, rfl⟩, ?_⟩
      | refine ⟨_, rfl, rfl, trivial, ?_⟩
      | refine ⟨_, _, rfl, ?_⟩))
  refine ite_dec (fun c0 => ?_) (fun c0 => ?_)
  ·
    (repeat (first
      | refine ⟨_, rfl, ?_⟩
      | refine ⟨_, _, rfl, rfl, ?_⟩
      | refine Or.inl ⟨_, rfl, ?_⟩
      | refine Or.inr ⟨_, rfl, ?_⟩
      | refine ⟨Or.inl ⟨by decide, by decide⟩, ?_⟩
      | refine ⟨Or.inr ⟨by decide, by decide⟩, ?_⟩
      | refine ⟨⟨by decide, by decide⟩, ?_⟩
      | refine ⟨⟨by decide, by decide, by decide⟩, ?_⟩
      | refine ⟨by decide, ?_⟩
      | refine ⟨(by show (0 : Int) < _; decide), ?_⟩
      | refine ⟨rfl, ?_⟩
      | refine ⟨⟨_, rfl⟩, ?_⟩
      | refine ⟨_, rfl, rfl, trivial, ?_⟩
      | refine ⟨_, _, rfl, ?_⟩))
    refine ⟨st, nm, n + 1, ns, rfl, s1, by omega, hN1, hno, fun p t a n' H2 x2 s2 hn2 hd hp hr' ha => ?_⟩
    exact q p t a n' H2 (x1.trans x2) s2 (by omega) hd hp hr' (by omega)
  have hv0 : v ≠ 0 := fun e => c0 (by rw [e])
  have hr2 : 2 ≤ room := by omega
  have cast1 : (room : Int) - 1 = ((room - 1 : Nat) : Int) := by omega
  have cpf : [V.ref st, V.ref nm, V.int ((room : Int) - 1)] = [V.ref st, V.ref nm, V.int ((room - 1 : Nat) : Int)] := by rw [cast1]
  (repeat (first
      | refine ⟨_, rfl, ?_⟩
      | refine ⟨_, _, rfl, rfl, ?_⟩
      | refine Or.inl ⟨_, rfl, ?_⟩
      | refine Or.inr ⟨_, rfl, ?_⟩
      | refine ⟨Or.inl ⟨by decide, by decide⟩, ?_⟩
      | refine ⟨Or.inr ⟨by decide, by decide⟩, ?_⟩
      | refine ⟨⟨by decide, by decide⟩, ?_⟩
      | refine ⟨⟨by decide, by decide, by decide⟩, ?_⟩
      | refine ⟨by decide, ?_⟩
      | refine ⟨(by show (0 : Int) < _; decide), ?_⟩
      | refine ⟨rfl, ?_⟩
      | refine ⟨⟨_, rfl⟩, ?_⟩
      | refine ⟨_, rfl, rfl, trivial, ?_⟩
      | refine ⟨_, _, rfl, ?_⟩))
  refine ite_dec (fun c4 => ?_) (fun c4 => ?_)
  · obtain ⟨sw, r, hat, hrm, hre⟩ := un_row (v := v) (by omega) c4
    obtain ⟨re1, re2⟩ := row_eta hre
    refine ⟨by show 3 ≤ sizeLine; decide, fun l hl => ?_⟩
    (repeat (first
      | refine ⟨_, rfl, ?_⟩
      | refine ⟨_, _, rfl, rfl, ?_⟩
      | refine Or.inl ⟨_, rfl, ?_⟩
      | refine Or.inr ⟨_, rfl, ?_⟩
      | refine ⟨Or.inl ⟨by decide, by decide⟩, ?_⟩
      | refine ⟨Or.inr ⟨by decide, by decide⟩, ?_⟩
      | refine ⟨⟨by decide, by decide⟩, ?_⟩
      | refine ⟨⟨by decide, by decide, by decide⟩, ?_⟩
      | refine ⟨by decide, ?_⟩
      | refine ⟨(by show (0 : Int) < _; decide), ?_⟩
      | refine ⟨rfl, ?_⟩
      | refine ⟨⟨_, rfl⟩, ?_⟩
      | refine ⟨_, rfl, rfl, trivial, ?_⟩
      | refine ⟨_, _, rfl, ?_⟩))
    refine ⟨l, _, _, _, rfl, rfl, SqL.of upd_same, hat, ?_⟩
    (repeat (first
      | refine ⟨_, rfl, ?_⟩
      | refine ⟨_, _, rfl, rfl, ?_⟩
      | refine Or.inl ⟨_, rfl, ?_⟩
      | refine Or.inr ⟨_, rfl, ?_⟩
      | refine ⟨Or.inl ⟨by decide, by decide⟩, ?_⟩
      | refine ⟨Or.inr ⟨by decide, by decide⟩, ?_⟩
      | refine ⟨⟨by decide, by decide⟩, ?_⟩
      | refine ⟨⟨by decide, by decide, by decide⟩, ?_⟩
      | refine ⟨by decide, ?_⟩
      | refine ⟨(by show (0 : Int) < _; decide), ?_⟩
      | refine ⟨rfl, ?_⟩
      | refine ⟨⟨_, rfl⟩, ?_⟩
      | refine ⟨_, rfl, rfl, trivial, ?_⟩
      | refine ⟨_, _, rfl, ?_⟩))
    refine ⟨j - 1, by omega, st, nm, n + 1, ns, room - 1, cpf, s1.new hl, by omega, My.Same.sqT (same_upd hl) hN1, hno, by omega, by omega, by omega, fun p t a n' H2 x2 s2 hn2 hd hp hr' ha => ?_⟩
    refine ⟨by show 2 ≤ sizeLine; decide, fun p2 hp2 => ?_⟩
    refine q p2 _ _ _ _ (((x1.trans (SX.new hl)).trans x2).trans (SX.new hp2)) (s2.new hp2) ?_ ?_ (pr2 (r := r) (UT_tab0 hrm) re2 hp) (fun x hx => ?_) ?_
    · show n' ≤ n + 6 * (a.length + 1); omega
    · rw [re1]
      exact .tup (SqT.of upd_same) (.cons (.str _) (.cons (Dp.tx (TX.new hp2) hd (ptu hp)) .nil))
    · rcases List.mem_cons.mp hx with rfl | hx
      · exact tabN_tab0 hrm
      · exact hr' x hx
    · show a.length + 1 ≤ room; omega
  (repeat (first
      | refine ⟨_, rfl, ?_⟩
      | refine ⟨_, _, rfl, rfl, ?_⟩
      | refine Or.inl ⟨_, rfl, ?_⟩
      | refine Or.inr ⟨_, rfl, ?_⟩
      | refine ⟨Or.inl ⟨by decide, by decide⟩, ?_⟩
      | refine ⟨Or.inr ⟨by decide, by decide⟩, ?_⟩
      | refine ⟨⟨by decide, by decide⟩, ?_⟩
      | refine ⟨⟨by decide, by decide, by decide⟩, ?_⟩
      | refine ⟨by decide, ?_⟩
      | refine ⟨(by show (0 : Int) < _; decide), ?_⟩
      | refine ⟨rfl, ?_⟩
      | refine ⟨⟨_, rfl⟩, ?_⟩
      | refine ⟨_, rfl, rfl, trivial, ?_⟩
      | refine ⟨_, _, rfl, ?_⟩))
  refine ite_dec (fun c7 => ?_) (fun c7 => ?_)
  · obtain ⟨sw, m, hatm, hm0, hats, hrow⟩ := nu_row (v := v) (by omega) c7
    refine ⟨by show 3 ≤ sizeLine; decide, fun l hl => ?_⟩
    (repeat (first
      | refine ⟨_, rfl, ?_⟩
      | refine ⟨_, _, rfl, rfl, ?_⟩
      | refine Or.inl ⟨_, rfl, ?_⟩
      | refine Or.inr ⟨_, rfl, ?_⟩
      | refine ⟨Or.inl ⟨by decide, by decide⟩, ?_⟩
      | refine ⟨Or.inr ⟨by decide, by decide⟩, ?_⟩
      | refine ⟨⟨by decide, by decide⟩, ?_⟩
      | refine ⟨⟨by decide, by decide, by decide⟩, ?_⟩
      | refine ⟨by decide, ?_⟩
      | refine ⟨(by show (0 : Int) < _; decide), ?_⟩
      | refine ⟨rfl, ?_⟩
      | refine ⟨⟨_, rfl⟩, ?_⟩
      | refine ⟨_, rfl, rfl, trivial, ?_⟩
      | refine ⟨_, _, rfl, ?_⟩))
    refine ⟨l, _, _, _, rfl, rfl, SqL.of upd_same, hatm, ?_⟩
    (repeat (first
      | refine ⟨_, rfl, ?_⟩
      | refine ⟨_, _, rfl, rfl, ?_⟩
      | refine Or.inl ⟨_, rfl, ?_⟩
      | refine Or.inr ⟨_, rfl, ?_⟩
      | refine ⟨Or.inl ⟨by decide, by decide⟩, ?_⟩
      | refine ⟨Or.inr ⟨by decide, by decide⟩, ?_⟩
      | refine ⟨⟨by decide, by decide⟩, ?_⟩
      | refine ⟨⟨by decide, by decide, by decide⟩, ?_⟩
      | refine ⟨by decide, ?_⟩
      | refine ⟨(by show (0 : Int) < _; decide), ?_⟩
      | refine ⟨rfl, ?_⟩
      | refine ⟨⟨_, rfl⟩, ?_⟩
      | refine ⟨_, rfl, rfl, trivial, ?_⟩
      | refine ⟨_, _, rfl, ?_⟩))
    refine fun l2 hl2 => ?_
    (repeat (first
      | refine ⟨_, rfl, ?_⟩
      | refine ⟨_, _, rfl, rfl, ?_⟩
      | refine Or.inl ⟨_, rfl, ?_⟩
      | refine Or.inr ⟨_, rfl, ?_⟩
      | refine ⟨Or.inl ⟨by decide, by decide⟩, ?_⟩
      | refine ⟨Or.inr ⟨by decide, by decide⟩, ?_⟩
      | refine ⟨⟨by decide, by decide⟩, ?_⟩
      | refine ⟨⟨by decide, by decide, by decide⟩, ?_⟩
      | refine ⟨by decide, ?_⟩
      | refine ⟨(by show (0 : Int) < _; decide), ?_⟩
      | refine ⟨rfl, ?_⟩
      | refine ⟨⟨_, rfl⟩, ?_⟩
      | refine ⟨_, rfl, rfl, trivial, ?_⟩
      | refine ⟨_, _, rfl, ?_⟩))
    refine ⟨l2, _, _, _, rfl, rfl, SqL.of upd_same, hats, ?_⟩
    (repeat (first
      | refine ⟨_, rfl, ?_⟩
      | refine ⟨_, _, rfl, rfl, ?_⟩
      | refine Or.inl ⟨_, rfl, ?_⟩
      | refine Or.inr ⟨_, rfl, ?_⟩
      | refine ⟨Or.inl ⟨by decide, by decide⟩, ?_⟩
      | refine ⟨Or.inr ⟨by decide, by decide⟩, ?_⟩
      | refine ⟨⟨by decide, by decide⟩, ?_⟩
      | refine ⟨⟨by decide, by decide, by decide⟩, ?_⟩
      | refine ⟨by decide, ?_⟩
      | refine ⟨(by show (0 : Int) < _; decide), ?_⟩
      | refine ⟨rfl, ?_⟩
      | refine ⟨⟨_, rfl⟩, ?_⟩
      | refine ⟨_, rfl, rfl, trivial, ?_⟩
      | refine ⟨_, _, rfl, ?_⟩))
    refine ⟨st, n + 1, m, rfl, (s1.new hl).new hl2, by omega, hm0, fun t H2 t0 t1 x2 s2 => ?_⟩
    obtain ⟨r, hrm, hre⟩ := hrow t t0 t1
    obtain ⟨re1, re2⟩ := row_eta hre
    (repeat (first
      | refine ⟨_, rfl, ?_⟩
      | refine ⟨_, _, rfl, rfl, ?_⟩
      | refine Or.inl ⟨_, rfl, ?_⟩
      | refine Or.inr ⟨_, rfl, ?_⟩
      | refine ⟨Or.inl ⟨by decide, by decide⟩, ?_⟩
      | refine ⟨Or.inr ⟨by decide, by decide⟩, ?_⟩
      | refine ⟨⟨by decide, by decide⟩, ?_⟩
      | refine ⟨⟨by decide, by decide, by decide⟩, ?_⟩
      | refine ⟨by decide, ?_⟩
      | refine ⟨(by show (0 : Int) < _; decide), ?_⟩
      | refine ⟨rfl, ?_⟩
      | refine ⟨⟨_, rfl⟩, ?_⟩
      | refine ⟨_, rfl, rfl, trivial, ?_⟩
      | refine ⟨_, _, rfl, ?_⟩))
    refine ⟨j - 1, by omega, st, nm, n + 2, ns, room - 1, cpf, s2, by omega, x2.seqT (My.Same.sqT ((same_upd hl).trans (same_upd hl2)) hN1), hno, by omega, by omega, by omega, fun p t' a n' H3 x3 s3 hn2 hd hp hr' ha => ?_⟩
    refine ⟨by show 3 ≤ sizeLine; decide, fun p2 hp2 => ?_⟩
    refine q p2 _ _ _ _ (((((x1.trans (SX.new hl)).trans (SX.new hl2)).trans x2).trans x3).trans (SX.new hp2)) (s3.new hp2) ?_ ?_ (pr2 (r := r) (UT_tab0 hrm) re2 hp) (fun x hx => ?_) ?_
    · show n' ≤ n + 6 * (a.length + 1); omega
    · rw [re1]
      exact .tup (SqT.of upd_same) (.cons (.str _) (.cons (.int _) (.cons (Dp.tx (TX.new hp2) hd (ptu hp)) .nil)))
    · rcases List.mem_cons.mp hx with rfl | hx
      · exact tabN_tab0 hrm
      · exact hr' x hx
    · show a.length + 1 ≤ room; omega
  (repeat (first
      | refine ⟨_, rfl, ?_⟩
      | refine ⟨_, _, rfl, rfl, ?_⟩
      | refine Or.inl ⟨_, rfl, ?_⟩
      | refine Or.inr ⟨_, rfl, ?_⟩
      | refine ⟨Or.inl ⟨by decide, by decide⟩, ?_⟩
      | refine ⟨Or.inr ⟨by decide, by decide⟩, ?_⟩
      | refine ⟨⟨by decide, by decide⟩, ?_⟩
      | refine ⟨⟨by decide, by decide, by decide⟩, ?_⟩
      | refine ⟨by decide, ?_⟩
      | refine ⟨(by show (0 : Int) < _; decide), ?_⟩
      | refine ⟨rfl, ?_⟩
      | refine ⟨⟨_, rfl⟩, ?_⟩
      | refine ⟨_, rfl, rfl, trivial, ?_⟩
      | refine ⟨_, _, rfl, ?_⟩))
  refine ite_dec (fun c8 => ?_) (fun c8 => ?_)
  · (repeat (first
      | refine ⟨_, rfl, ?_⟩
      | refine ⟨_, _, rfl, rfl, ?_⟩
      | refine Or.inl ⟨_, rfl, ?_⟩
      | refine Or.inr ⟨_, rfl, ?_⟩
      | refine ⟨Or.inl ⟨by decide, by decide⟩, ?_⟩
      | refine ⟨Or.inr ⟨by decide, by decide⟩, ?_⟩
      | refine ⟨⟨by decide, by decide⟩, ?_⟩
      | refine ⟨⟨by decide, by decide, by decide⟩, ?_⟩
      | refine ⟨by decide, ?_⟩
      | refine ⟨(by show (0 : Int) < _; decide), ?_⟩
      | refine ⟨rfl, ?_⟩
      | refine ⟨⟨_, rfl⟩, ?_⟩
      | refine ⟨_, rfl, rfl, trivial, ?_⟩
      | refine ⟨_, _, rfl, ?_⟩))
    refine ⟨st, n + 1, 2, rfl, s1, by omega, by decide, fun u H2 u0 u1 x2 s2 => ?_⟩
    (repeat (first
      | refine ⟨_, rfl, ?_⟩
      | refine ⟨_, _, rfl, rfl, ?_⟩
      | refine Or.inl ⟨_, rfl, ?_⟩
      | refine Or.inr ⟨_, rfl, ?_⟩
      | refine ⟨Or.inl ⟨by decide, by decide⟩, ?_⟩
      | refine ⟨Or.inr ⟨by decide, by decide⟩, ?_⟩
      | refine ⟨⟨by decide, by decide⟩, ?_⟩
      | refine ⟨⟨by decide, by decide, by decide⟩, ?_⟩
      | refine ⟨by decide, ?_⟩
      | refine ⟨(by show (0 : Int) < _; decide), ?_⟩
      | refine ⟨rfl, ?_⟩
      | refine ⟨⟨_, rfl⟩, ?_⟩
      | refine ⟨_, rfl, rfl, trivial, ?_⟩
      | refine ⟨_, _, rfl, ?_⟩))
    refine ⟨st, n + 2, 2 + u, rfl, s2, by omega, by omega, fun t H3 t0 t1 x3 s3 => ?_⟩
    obtain ⟨r, hrm, hre⟩ := ci_row u0 u1 t0 t1
    obtain ⟨re1, re2⟩ := row_eta hre
    (repeat (first
      | refine ⟨_, rfl, ?_⟩
      | refine ⟨_, _, rfl, rfl, ?_⟩
      | refine Or.inl ⟨_, rfl, ?_⟩
      | refine Or.inr ⟨_, rfl, ?_⟩
      | refine ⟨Or.inl ⟨by decide, by decide⟩, ?_⟩
      | refine ⟨Or.inr ⟨by decide, by decide⟩, ?_⟩
      | refine ⟨⟨by decide, by decide⟩, ?_⟩
      | refine ⟨⟨by decide, by decide, by decide⟩, ?_⟩
      | refine ⟨by decide, ?_⟩
      | refine ⟨(by show (0 : Int) < _; decide), ?_⟩
      | refine ⟨rfl, ?_⟩
      | refine ⟨⟨_, rfl⟩, ?_⟩
      | refine ⟨_, rfl, rfl, trivial, ?_⟩
      | refine ⟨_, _, rfl, ?_⟩))
    refine ⟨j - 1, by omega, st, nm, n + 3, ns, room - 1, cpf, s3, by omega, x3.seqT (x2.seqT hN1), hno, by omega, by omega, by omega, fun p t' a n' H4 x4 s4 hn2 hd hp hr' ha => ?_⟩
    refine ⟨by show 4 ≤ sizeLine; decide, fun p2 hp2 => ?_⟩
    refine q p2 _ _ _ _ ((((x1.trans x2).trans x3).trans x4).trans (SX.new hp2)) (s4.new hp2) ?_ ?_ (pr2 (r := r) (UT_tab0 hrm) re2 hp) (fun x hx => ?_) ?_
    · show n' ≤ n + 6 * (a.length + 1); omega
    · rw [re1]
      exact .tup (SqT.of upd_same) (.cons (.str _) (.cons (.int _) (.cons (.int _) (.cons (Dp.tx (TX.new hp2) hd (ptu hp)) .nil))))
    · rcases List.mem_cons.mp hx with rfl | hx
      · exact tabN_tab0 hrm
      · exact hr' x hx
    · show a.length + 1 ≤ room; omega
  have hv8 : 8 ≤ v := by
    have : v ≠ 7 := fun e => c8 (by rw [e])
    omega
  (repeat (first
      | refine ⟨_, rfl, ?_⟩
      | refine ⟨_, _, rfl, rfl, ?_⟩
      | refine Or.inl ⟨_, rfl, ?_⟩
      | refine Or.inr ⟨_, rfl, ?_⟩
      | refine ⟨Or.inl ⟨by decide, by decide⟩, ?_⟩
      | refine ⟨Or.inr ⟨by decide, by decide⟩, ?_⟩
      | refine ⟨⟨by decide, by decide⟩, ?_⟩
      | refine ⟨⟨by decide, by decide, by decide⟩, ?_⟩
      | refine ⟨by decide, ?_⟩
      | refine ⟨(by show (0 : Int) < _; decide), ?_⟩
      | refine ⟨rfl, ?_⟩
      | refine ⟨⟨_, rfl⟩, ?_⟩
      | refine ⟨_, rfl, rfl, trivial, ?_⟩
      | refine ⟨_, _, rfl, ?_⟩))
  refine ite_dec (fun c10 => ?_) (fun c10 => ?_)
  · (repeat (first
      | refine ⟨_, rfl, ?_⟩
      | refine ⟨_, _, rfl, rfl, ?_⟩
      | refine Or.inl ⟨_, rfl, ?_⟩
      | refine Or.inr ⟨_, rfl, ?_⟩
      | refine ⟨Or.inl ⟨by decide, by decide⟩, ?_⟩
      | refine ⟨Or.inr ⟨by decide, by decide⟩, ?_⟩
      | refine ⟨⟨by decide, by decide⟩, ?_⟩
      | refine ⟨⟨by decide, by decide, by decide⟩, ?_⟩
      | refine ⟨by decide, ?_⟩
      | refine ⟨(by show (0 : Int) < _; decide), ?_⟩
      | refine ⟨rfl, ?_⟩
      | refine ⟨⟨_, rfl⟩, ?_⟩
      | refine ⟨_, rfl, rfl, trivial, ?_⟩
      | refine ⟨_, _, rfl, ?_⟩))
    refine ite_dec (fun cr => ?_) (fun cr => ?_)
    · have castd : ((room : Int) - 1) / 3 = (((room - 1) / 3 : Nat) : Int) := by omega
      have cpd : [V.ref st, V.ref nm, V.int (((room : Int) - 1) / 3)] = [V.ref st, V.ref nm, V.int (((room - 1) / 3 : Nat) : Int)] := by rw [castd]
      (repeat (first
      | refine ⟨_, rfl, ?_⟩
      | refine ⟨_, _, rfl, rfl, ?_⟩
      | refine Or.inl ⟨_, rfl, ?_⟩
      | refine Or.inr ⟨_, rfl, ?_⟩
      | refine ⟨Or.inl ⟨by decide, by decide⟩, ?_⟩
      | refine ⟨Or.inr ⟨by decide, by decide⟩, ?_⟩
      | refine ⟨⟨by decide, by decide⟩, ?_⟩
      | refine ⟨⟨by decide, by decide, by decide⟩, ?_⟩
      | refine ⟨by decide, ?_⟩
      | refine ⟨(by show (0 : Int) < _; decide), ?_⟩
      | refine ⟨rfl, ?_⟩
      | refine ⟨⟨_, rfl⟩, ?_⟩
      | refine ⟨_, rfl, rfl, trivial, ?_⟩
      | refine ⟨_, _, rfl, ?_⟩))
      refine fun D hD => ?_
      have hDst : D ≠ st := fun e => by
        obtain ⟨xs, hx⟩ := s1.isL
        rw [e, hx] at hD
        cases hD
      refine lc_range (lo := 0) (n := 3) (fun i H' => ∃ (vs' : List V) (ts : List PyData) (a : List Row) (n' : Nat), H' D = some (.lst vs') ∧ DpAll K H' vs' ts ∧ PrL UT ts a ∧ (∀ r ∈ a, r ∈ tabN ns) ∧ SX st H1 H' ∧ St H' st n' ∧ n' ≤ n + 1 + 6 * a.length ∧ a.length ≤ i * ((room - 1) / 3) ∧ vs'.length = i) ?_ ?_ ?_
      · exact ⟨[], [], [], n + 1, upd_same, .nil, .nil, (fun _ h => by cases h), SX.new hD, s1.new hD, by show n + 1 ≤ n + 1 + 6 * 0; omega, by show 0 ≤ _; omega, rfl⟩
      · rintro i H' hi ⟨vs', ts, a, n', hDl, hdd, hpl, hrl, sx, hs', hn', hal, hvl⟩
        refine ⟨rfl, ?_⟩
        have hmul : i * ((room - 1) / 3) ≤ 2 * ((room - 1) / 3) := Nat.mul_le_mul_right _ (by omega)
        (repeat (first
      | refine ⟨_, rfl, ?_⟩
      | refine ⟨_, _, rfl, rfl, ?_⟩
      | refine Or.inl ⟨_, rfl, ?_⟩
      | refine Or.inr ⟨_, rfl, ?_⟩
      | refine ⟨Or.inl ⟨by decide, by decide⟩, ?_⟩
      | refine ⟨Or.inr ⟨by decide, by decide⟩, ?_⟩
      | refine ⟨⟨by decide, by decide⟩, ?_⟩
      | refine ⟨⟨by decide, by decide, by decide⟩, ?_⟩
      | refine ⟨by decide, ?_⟩
      | refine ⟨(by show (0 : Int) < _; decide), ?_⟩
      | refine ⟨rfl, ?_⟩
      | refine ⟨⟨_, rfl⟩, ?_⟩
      | refine ⟨_, rfl, rfl, trivial, ?_⟩
      | refine ⟨_, _, rfl, ?_⟩))
        refine ⟨j - 1, by omega, st, nm, n', ns, (room - 1) / 3, cpd, hs', by omega, sx.seqT hN1, hno, by omega, by omega, by omega, fun p t a2 n2 H2 x2 s2 hn2 hd hp hr' ha => ?_⟩
        have hD2 := x2.lst hDst hDl
        refine ⟨_, hD2, smallL (by omega), vs' ++ [.ref p], ts ++ [t], a ++ a2, n2, upd_same, ?_, ?_, fun r hr => ?_, ?_, ?_, ?_, ?_, ?_⟩
        · exact DpAll.app (DpAll.tx ((TX.sx x2).trans (TX.lst hD2)) hdd (prL_tr hpl)) (.cons (Dp.tx (TX.lst hD2) hd (ptu hp)) .nil)
        · have h1 : PrL UT [t] a2 := by
            have := PrL.cons hp .nil
            rwa [List.append_nil] at this
          exact prL_app hpl h1
        · rcases List.mem_append.mp hr with h | h
          · exact hrl r h
          · exact hr' r h
        · exact SX.new2 hD (sx.trans x2)
        · exact St.upd s1 hD (sx.trans x2) s2
        · rw [List.length_append]; omega
        · rw [List.length_append, Nat.add_mul]; omega
        · rw [List.length_append, hvl]; rfl
      rintro H' ⟨vs', ts, a, n', hDl, hdd, hpl, hrl, sx, hs', hn', hal, hvl⟩
      have lts := DpAll.len hdd
      match vs', ts, hvl, lts, hdd, hpl, hDl with
      | [y0, y1, y2], [t0, t1, t2], _, _, hdd, hpl, hDl =>
      (repeat (first
      | refine ⟨_, rfl, ?_⟩
      | refine ⟨_, _, rfl, rfl, ?_⟩
      | refine Or.inl ⟨_, rfl, ?_⟩
      | refine Or.inr ⟨_, rfl, ?_⟩
      | refine ⟨Or.inl ⟨by decide, by decide⟩, ?_⟩
      | refine ⟨Or.inr ⟨by decide, by decide⟩, ?_⟩
      | refine ⟨⟨by decide, by decide⟩, ?_⟩
      | refine ⟨⟨by decide, by decide, by decide⟩, ?_⟩
      | refine ⟨by decide, ?_⟩
      | refine ⟨(by show (0 : Int) < _; decide), ?_⟩
      | refine ⟨rfl, ?_⟩
      | refine ⟨⟨_, rfl⟩, ?_⟩
      | refine ⟨_, rfl, rfl, trivial, ?_⟩
      | refine ⟨_, _, rfl, ?_⟩))
      refine ⟨D, _, 0, _, rfl, rfl, SqL.of hDl, atI_nat (j := 0) rfl, ?_⟩
      (repeat (first
      | refine ⟨_, rfl, ?_⟩
      | refine ⟨_, _, rfl, rfl, ?_⟩
      | refine Or.inl ⟨_, rfl, ?_⟩
      | refine Or.inr ⟨_, rfl, ?_⟩
      | refine ⟨Or.inl ⟨by decide, by decide⟩, ?_⟩
      | refine ⟨Or.inr ⟨by decide, by decide⟩, ?_⟩
      | refine ⟨⟨by decide, by decide⟩, ?_⟩
      | refine ⟨⟨by decide, by decide, by decide⟩, ?_⟩
      | refine ⟨by decide, ?_⟩
      | refine ⟨(by show (0 : Int) < _; decide), ?_⟩
      | refine ⟨rfl, ?_⟩
      | refine ⟨⟨_, rfl⟩, ?_⟩
      | refine ⟨_, rfl, rfl, trivial, ?_⟩
      | refine ⟨_, _, rfl, ?_⟩))
      refine ⟨D, _, 1, _, rfl, rfl, SqL.of hDl, atI_nat (j := 1) rfl, ?_⟩
      (repeat (first
      | refine ⟨_, rfl, ?_⟩
      | refine ⟨_, _, rfl, rfl, ?_⟩
      | refine Or.inl ⟨_, rfl, ?_⟩
      | refine Or.inr ⟨_, rfl, ?_⟩
      | refine ⟨Or.inl ⟨by decide, by decide⟩, ?_⟩
      | refine ⟨Or.inr ⟨by decide, by decide⟩, ?_⟩
      | refine ⟨⟨by decide, by decide⟩, ?_⟩
      | refine ⟨⟨by decide, by decide, by decide⟩, ?_⟩
      | refine ⟨by decide, ?_⟩
      | refine ⟨(by show (0 : Int) < _; decide), ?_⟩
      | refine ⟨rfl, ?_⟩
      | refine ⟨⟨_, rfl⟩, ?_⟩
      | refine ⟨_, rfl, rfl, trivial, ?_⟩
      | refine ⟨_, _, rfl, ?_⟩))
      refine ⟨D, _, 2, _, rfl, rfl, SqL.of hDl, atI_nat (j := 2) rfl, ?_⟩
      refine ⟨by show 4 ≤ sizeLine; decide, fun p2 hp2 => ?_⟩
      refine q p2 _ _ _ _ ((x1.trans sx).trans (SX.new hp2)) (hs'.new hp2) ?_ (.tup (SqT.of upd_same) (.cons (.str _) (DpAll.tx (TX.new hp2) hdd (prL_tr hpl)))) (Pr.mk (r := ("if(", [sd "if"], 3)) (UT_tab0 (in0 (i := 4))) rfl hpl) (fun x hx => ?_) ?_
      · show n' ≤ n + 6 * (a.length + 1); omega
      · rcases List.mem_cons.mp hx with rfl | hx
        · exact tabN_tab0 (in0 (i := 4))
        · exact hrl x hx
      · show a.length + 1 ≤ room; omega
    ·
      (repeat (first
      | refine ⟨_, rfl, ?_⟩
      | refine ⟨_, _, rfl, rfl, ?_⟩
      | refine Or.inl ⟨_, rfl, ?_⟩
      | refine Or.inr ⟨_, rfl, ?_⟩
      | refine ⟨Or.inl ⟨by decide, by decide⟩, ?_⟩
      | refine ⟨Or.inr ⟨by decide, by decide⟩, ?_⟩
      | refine ⟨⟨by decide, by decide⟩, ?_⟩
      | refine ⟨⟨by decide, by decide, by decide⟩, ?_⟩
      | refine ⟨by decide, ?_⟩
      | refine ⟨(by show (0 : Int) < _; decide), ?_⟩
      | refine ⟨rfl, ?_⟩
      | refine ⟨⟨_, rfl⟩, ?_⟩
      | refine ⟨_, rfl, rfl, trivial, ?_⟩
      | refine ⟨_, _, rfl, ?_⟩))
      refine ite_dec (fun c3 => ?_) (fun c3 => ?_)
      · (repeat (first
      | refine ⟨_, rfl, ?_⟩
      | refine ⟨_, _, rfl, rfl, ?_⟩
      | refine Or.inl ⟨_, rfl, ?_⟩
      | refine Or.inr ⟨_, rfl, ?_⟩
      | refine ⟨Or.inl ⟨by decide, by decide⟩, ?_⟩
      | refine ⟨Or.inr ⟨by decide, by decide⟩, ?_⟩
      | refine ⟨⟨by decide, by decide⟩, ?_⟩
      | refine ⟨⟨by decide, by decide, by decide⟩, ?_⟩
      | refine ⟨by decide, ?_⟩
      | refine ⟨(by show (0 : Int) < _; decide), ?_⟩
      | refine ⟨rfl, ?_⟩
      | refine ⟨⟨_, rfl⟩, ?_⟩
      | refine ⟨_, rfl, rfl, trivial, ?_⟩
      | refine ⟨_, _, rfl, ?_⟩))
        refine ⟨st, nm, n + 1, ns, rfl, s1, by omega, hN1, hno, fun p t a n' H2 x2 s2 hn2 hd hp hr' ha => ?_⟩
        refine ⟨by show 2 ≤ sizeLine; decide, fun p2 hp2 => ?_⟩
        refine q p2 _ _ _ _ ((x1.trans x2).trans (SX.new hp2)) (s2.new hp2) ?_ (.tup (SqT.of upd_same) (.cons (.str _) (.cons (Dp.tx (TX.new hp2) hd (ptu hp)) .nil))) (pr2 (r := ("last(", [sd "last"], 1)) (UT_tab0 (in0 (i := 5))) rfl hp) (fun x hx => ?_) ?_
        · show n' ≤ n + 6 * (a.length + 1); omega
        · rcases List.mem_cons.mp hx with rfl | hx
          · exact tabN_tab0 (in0 (i := 5))
          · exact hr' x hx
        · show a.length + 1 ≤ room; omega
      · (repeat (first
      | refine ⟨_, rfl, ?_⟩
      | refine ⟨_, _, rfl, rfl, ?_⟩
      | refine Or.inl ⟨_, rfl, ?_⟩
      | refine Or.inr ⟨_, rfl, ?_⟩
      | refine ⟨Or.inl ⟨by decide, by decide⟩, ?_⟩
      | refine ⟨Or.inr ⟨by decide, by decide⟩, ?_⟩
      | refine ⟨⟨by decide, by decide⟩, ?_⟩
      | refine ⟨⟨by decide, by decide, by decide⟩, ?_⟩
      | refine ⟨by decide, ?_⟩
      | refine ⟨(by show (0 : Int) < _; decide), ?_⟩
      | refine ⟨rfl, ?_⟩
      | refine ⟨⟨_, rfl⟩, ?_⟩
      | refine ⟨_, rfl, rfl, trivial, ?_⟩
      | refine ⟨_, _, rfl, ?_⟩))
        refine ⟨st, n + 1, (room : Int) - 2, rfl, s1, by omega, by omega, fun f H2 f0 f1 x2 s2 => ?_⟩
        obtain ⟨sw, r, hat, hrm, hre⟩ := bi_row hv8 v1
        obtain ⟨re1, re2⟩ := row_eta hre
        obtain ⟨fn, hfn⟩ : ∃ fn : Nat, 1 + f = (fn : Int) := ⟨(1 + f).toNat, by omega⟩
        (repeat (first
      | refine ⟨_, rfl, ?_⟩
      | refine ⟨_, _, rfl, rfl, ?_⟩
      | refine Or.inl ⟨_, rfl, ?_⟩
      | refine Or.inr ⟨_, rfl, ?_⟩
      | refine ⟨Or.inl ⟨by decide, by decide⟩, ?_⟩
      | refine ⟨Or.inr ⟨by decide, by decide⟩, ?_⟩
      | refine ⟨⟨by decide, by decide⟩, ?_⟩
      | refine ⟨⟨by decide, by decide, by decide⟩, ?_⟩
      | refine ⟨by decide, ?_⟩
      | refine ⟨(by show (0 : Int) < _; decide), ?_⟩
      | refine ⟨rfl, ?_⟩
      | refine ⟨⟨_, rfl⟩, ?_⟩
      | refine ⟨_, rfl, rfl, trivial, ?_⟩
      | refine ⟨_, _, rfl, ?_⟩))
        refine fun l hl => ?_
        (repeat (first
      | refine ⟨_, rfl, ?_⟩
      | refine ⟨_, _, rfl, rfl, ?_⟩
      | refine Or.inl ⟨_, rfl, ?_⟩
      | refine Or.inr ⟨_, rfl, ?_⟩
      | refine ⟨Or.inl ⟨by decide, by decide⟩, ?_⟩
      | refine ⟨Or.inr ⟨by decide, by decide⟩, ?_⟩
      | refine ⟨⟨by decide, by decide⟩, ?_⟩
      | refine ⟨⟨by decide, by decide, by decide⟩, ?_⟩
      | refine ⟨by decide, ?_⟩
      | refine ⟨(by show (0 : Int) < _; decide), ?_⟩
      | refine ⟨rfl, ?_⟩
      | refine ⟨⟨_, rfl⟩, ?_⟩
      | refine ⟨_, rfl, rfl, trivial, ?_⟩
      | refine ⟨_, _, rfl, ?_⟩))
        refine ⟨l, words8, _, _, rfl, rfl, SqL.of upd_same, hat, ?_⟩
        (repeat (first
      | refine ⟨_, rfl, ?_⟩
      | refine ⟨_, _, rfl, rfl, ?_⟩
      | refine Or.inl ⟨_, rfl, ?_⟩
      | refine Or.inr ⟨_, rfl, ?_⟩
      | refine ⟨Or.inl ⟨by decide, by decide⟩, ?_⟩
      | refine ⟨Or.inr ⟨by decide, by decide⟩, ?_⟩
      | refine ⟨⟨by decide, by decide⟩, ?_⟩
      | refine ⟨⟨by decide, by decide, by decide⟩, ?_⟩
      | refine ⟨by decide, ?_⟩
      | refine ⟨(by show (0 : Int) < _; decide), ?_⟩
      | refine ⟨rfl, ?_⟩
      | refine ⟨⟨_, rfl⟩, ?_⟩
      | refine ⟨_, rfl, rfl, trivial, ?_⟩
      | refine ⟨_, _, rfl, ?_⟩))
        refine ⟨j - 1, by omega, st, nm, n + 2, ns, fn, by rw [← hfn]; rfl, s2.new hl, by omega, (x2.trans (SX.new hl)).seqT hN1, hno, by omega, by omega, by omega, fun p t a n' H3 x3 s3 hn2 hd hp hr' ha => ?_⟩
        (repeat (first
      | refine ⟨_, rfl, ?_⟩
      | refine ⟨_, _, rfl, rfl, ?_⟩
      | refine Or.inl ⟨_, rfl, ?_⟩
      | refine Or.inr ⟨_, rfl, ?_⟩
      | refine ⟨Or.inl ⟨by decide, by decide⟩, ?_⟩
      | refine ⟨Or.inr ⟨by decide, by decide⟩, ?_⟩
      | refine ⟨⟨by decide, by decide⟩, ?_⟩
      | refine ⟨⟨by decide, by decide, by decide⟩, ?_⟩
      | refine ⟨by decide, ?_⟩
      | refine ⟨(by show (0 : Int) < _; decide), ?_⟩
      | refine ⟨rfl, ?_⟩
      | refine ⟨⟨_, rfl⟩, ?_⟩
      | refine ⟨_, rfl, rfl, trivial, ?_⟩
      | refine ⟨_, _, rfl, ?_⟩))
        refine ⟨j - 1, by omega, st, nm, n', ns, room - 1 - fn, by rw [show (((room - 1 - fn : Nat)) : Int) = (room : Int) - 1 - (1 + f) by omega]; rfl, s3, by omega, x3.seqT ((x2.trans (SX.new hl)).seqT hN1), hno, by omega, by omega, by omega, fun p' t' a' n'' H4 x4 s4 hn3 hd' hp' hr'' ha' => ?_⟩
        refine ⟨by show 3 ≤ sizeLine; decide, fun p2 hp2 => ?_⟩
        refine q p2 _ _ _ _ (((((x1.trans x2).trans (SX.new hl)).trans x3).trans x4).trans (SX.new hp2)) (s4.new hp2) ?_ ?_ (pr3 (r := r) (UT_tab0 hrm) re2 hp hp') (fun x hx => ?_) ?_
        · show n'' ≤ n + 6 * ((a ++ a').length + 1)
          rw [List.length_append]
          omega
        · rw [re1]
          exact .tup (SqT.of upd_same) (.cons (.str _) (.cons (Dp.tx ((TX.sx x4).trans (TX.new hp2)) hd (ptu hp)) (.cons (Dp.tx (TX.new hp2) hd' (ptu hp')) .nil)))
        · rcases List.mem_cons.mp hx with rfl | hx
          · exact tabN_tab0 hrm
          · rcases List.mem_append.mp hx with hx | hx
            · exact hr' x hx
            · exact hr'' x hx
        · show (a ++ a').length + 1 ≤ room
          rw [List.length_append]
          omega
  ·
    (repeat (first
      | refine ⟨_, rfl, ?_⟩
      | refine ⟨_, _, rfl, rfl, ?_⟩
      | refine Or.inl ⟨_, rfl, ?_⟩
      | refine Or.inr ⟨_, rfl, ?_⟩
      | refine ⟨Or.inl ⟨by decide, by decide⟩, ?_⟩
      | refine ⟨Or.inr ⟨by decide, by decide⟩, ?_⟩
      | refine ⟨⟨by decide, by decide⟩, ?_⟩
      | refine ⟨⟨by decide, by decide, by decide⟩, ?_⟩
      | refine ⟨by decide, ?_⟩
      | refine ⟨(by show (0 : Int) < _; decide), ?_⟩
      | refine ⟨rfl, ?_⟩
      | refine ⟨⟨_, rfl⟩, ?_⟩
      | refine ⟨_, rfl, rfl, trivial, ?_⟩
      | refine ⟨_, _, rfl, ?_⟩))
    refine ite_dec (fun c3 => ?_) (fun c3 => ?_)
    · (repeat (first
      | refine ⟨_, rfl, ?_⟩
      | refine ⟨_, _, rfl, rfl, ?_⟩
      | refine Or.inl ⟨_, rfl, ?_⟩
      | refine Or.inr ⟨_, rfl, ?_⟩
      | refine ⟨Or.inl ⟨by decide, by decide⟩, ?_⟩
      | refine ⟨Or.inr ⟨by decide, by decide⟩, ?_⟩
      | refine ⟨⟨by decide, by decide⟩, ?_⟩
      | refine ⟨⟨by decide, by decide, by decide⟩, ?_⟩
      | refine ⟨by decide, ?_⟩
      | refine ⟨(by show (0 : Int) < _; decide), ?_⟩
      | refine ⟨rfl, ?_⟩
      | refine ⟨⟨_, rfl⟩, ?_⟩
      | refine ⟨_, rfl, rfl, trivial, ?_⟩
      | refine ⟨_, _, rfl, ?_⟩))
      refine ⟨st, nm, n + 1, ns, rfl, s1, by omega, hN1, hno, fun p t a n' H2 x2 s2 hn2 hd hp hr' ha => ?_⟩
      refine ⟨by show 2 ≤ sizeLine; decide, fun p2 hp2 => ?_⟩
      refine q p2 _ _ _ _ ((x1.trans x2).trans (SX.new hp2)) (s2.new hp2) ?_ (.tup (SqT.of upd_same) (.cons (.str _) (.cons (Dp.tx (TX.new hp2) hd (ptu hp)) .nil))) (pr2 (r := ("last(", [sd "last"], 1)) (UT_tab0 (in0 (i := 5))) rfl hp) (fun x hx => ?_) ?_
      · show n' ≤ n + 6 * (a.length + 1); omega
      · rcases List.mem_cons.mp hx with rfl | hx
        · exact tabN_tab0 (in0 (i := 5))
        · exact hr' x hx
      · show a.length + 1 ≤ room; omega
    · (repeat (first
      | refine ⟨_, rfl, ?_⟩
      | refine ⟨_, _, rfl, rfl, ?_⟩
      | refine Or.inl ⟨_, rfl, ?_⟩
      | refine Or.inr ⟨_, rfl, ?_⟩
      | refine ⟨Or.inl ⟨by decide, by decide⟩, ?_⟩
      | refine ⟨Or.inr ⟨by decide, by decide⟩, ?_⟩
      | refine ⟨⟨by decide, by decide⟩, ?_⟩
      | refine ⟨⟨by decide, by decide, by decide⟩, ?_⟩
      | refine ⟨by decide, ?_⟩
      | refine ⟨(by show (0 : Int) < _; decide), ?_⟩
      | refine ⟨rfl, ?_⟩
      | refine ⟨⟨_, rfl⟩, ?_⟩
      | refine ⟨_, rfl, rfl, trivial, ?_⟩
      | refine ⟨_, _, rfl, ?_⟩))
      refine ⟨st, n + 1, (room : Int) - 2, rfl, s1, by omega, by omega, fun f H2 f0 f1 x2 s2 => ?_⟩
      obtain ⟨sw, r, hat, hrm, hre⟩ := bi_row hv8 v1
      obtain ⟨re1, re2⟩ := row_eta hre
      obtain ⟨fn, hfn⟩ : ∃ fn : Nat, 1 + f = (fn : Int) := ⟨(1 + f).toNat, by omega⟩
      (repeat (first
      | refine ⟨_, rfl, ?_⟩
      | refine ⟨_, _, rfl, rfl, ?_⟩
      | refine Or.inl ⟨_, rfl, ?_⟩
      | refine Or.inr ⟨_, rfl, ?_⟩
      | refine ⟨Or.inl ⟨by decide, by decide⟩, ?_⟩
      | refine ⟨Or.inr ⟨by decide, by decide⟩, ?_⟩
      | refine ⟨⟨by decide, by decide⟩, ?_⟩
      | refine ⟨⟨by decide, by decide, by decide⟩, ?_⟩
      | refine ⟨by decide, ?_⟩
      | refine ⟨(by show (0 : Int) < _; decide), ?_⟩
      | refine ⟨rfl, ?_⟩
      | refine ⟨⟨_, rfl⟩, ?_⟩
      | refine ⟨_, rfl, rfl, trivial, ?_⟩
      | refine ⟨_, _, rfl, ?_⟩))
      refine fun l hl => ?_
      (repeat (first
      | refine ⟨_, rfl, ?_⟩
      | refine ⟨_, _, rfl, rfl, ?_⟩
      | refine Or.inl ⟨_, rfl, ?_⟩
      | refine Or.inr ⟨_, rfl, ?_⟩
      | refine ⟨Or.inl ⟨by decide, by decide⟩, ?_⟩
      | refine ⟨Or.inr ⟨by decide, by decide⟩, ?_⟩
      | refine ⟨⟨by decide, by decide⟩, ?_⟩
      | refine ⟨⟨by decide, by decide, by decide⟩, ?_⟩
      | refine ⟨by decide, ?_⟩
      | refine ⟨(by show (0 : Int) < _; decide), ?_⟩
      | refine ⟨rfl, ?_⟩
      | refine ⟨⟨_, rfl⟩, ?_⟩
      | refine ⟨_, rfl, rfl, trivial, ?_⟩
      | refine ⟨_, _, rfl, ?_⟩))
      refine ⟨l, words8, _, _, rfl, rfl, SqL.of upd_same, hat, ?_⟩
      (repeat (first
      | refine ⟨_, rfl, ?_⟩
      | refine ⟨_, _, rfl, rfl, ?_⟩
      | refine Or.inl ⟨_, rfl, ?_⟩
      | refine Or.inr ⟨_, rfl, ?_⟩
      | refine ⟨Or.inl ⟨by decide, by decide⟩, ?_⟩
      | refine ⟨Or.inr ⟨by decide, by decide⟩, ?_⟩
      | refine ⟨⟨by decide, by decide⟩, ?_⟩
      | refine ⟨⟨by decide, by decide, by decide⟩, ?_⟩
      | refine ⟨by decide, ?_⟩
      | refine ⟨(by show (0 : Int) < _; decide), ?_⟩
      | refine ⟨rfl, ?_⟩
      | refine ⟨⟨_, rfl⟩, ?_⟩
      | refine ⟨_, rfl, rfl, trivial, ?_⟩
      | refine ⟨_, _, rfl, ?_⟩))
      refine ⟨j - 1, by omega, st, nm, n + 2, ns, fn, by rw [← hfn]; rfl, s2.new hl, by omega, (x2.trans (SX.new hl)).seqT hN1, hno, by omega, by omega, by omega, fun p t a n' H3 x3 s3 hn2 hd hp hr' ha => ?_⟩
      (repeat (first
      | refine ⟨_, rfl, ?_⟩
      | refine ⟨_, _, rfl, rfl, ?_⟩
      | refine Or.inl ⟨_, rfl, ?_⟩
      | refine Or.inr ⟨_, rfl, ?_⟩
      | refine ⟨Or.inl ⟨by decide, by decide⟩, ?_⟩
      | refine ⟨Or.inr ⟨by decide, by decide⟩, ?_⟩
      | refine ⟨⟨by decide, by decide⟩, ?_⟩
      | refine ⟨⟨by decide, by decide, by decide⟩, ?_⟩
      | refine ⟨by decide, ?_⟩
      | refine ⟨(by show (0 : Int) < _; decide), ?_⟩
      | refine ⟨rfl, ?_⟩
      | refine ⟨⟨_, rfl⟩, ?_⟩
      | refine ⟨_, rfl, rfl, trivial, ?_⟩
      | refine ⟨_, _, rfl, ?_⟩))
      refine ⟨j - 1, by omega, st, nm, n', ns, room - 1 - fn, by rw [show (((room - 1 - fn : Nat)) : Int) = (room : Int) - 1 - (1 + f) by omega]; rfl, s3, by omega, x3.seqT ((x2.trans (SX.new hl)).seqT hN1), hno, by omega, by omega, by omega, fun p' t' a' n'' H4 x4 s4 hn3 hd' hp' hr'' ha' => ?_⟩
      refine ⟨by show 3 ≤ sizeLine; decide, fun p2 hp2 => ?_⟩
      refine q p2 _ _ _ _ (((((x1.trans x2).trans (SX.new hl)).trans x3).trans x4).trans (SX.new hp2)) (s4.new hp2) ?_ ?_ (pr3 (r := r) (UT_tab0 hrm) re2 hp hp') (fun x hx => ?_) ?_
      · show n'' ≤ n + 6 * ((a ++ a').length + 1)
        rw [List.length_append]
        omega
      · rw [re1]
        exact .tup (SqT.of upd_same) (.cons (.str _) (.cons (Dp.tx ((TX.sx x4).trans (TX.new hp2)) hd (ptu hp)) (.cons (Dp.tx (TX.new hp2) hd' (ptu hp')) .nil)))
      · rcases List.mem_cons.mp hx with rfl | hx
        · exact tabN_tab0 hrm
        · rcases List.mem_append.mp hx with hx | hx
          · exact hr' x hx
          · exact hr'' x hx
      · show (a ++ a').length + 1 ≤ room
        rw [List.length_append]
        omega
theorem ok_law_tree (T : Top K mg w) : ∀ j : Nat, FnOk P w K mg base CX0 (j + 4) T.a_law_tree T.d_law_tree ["state", "names", "room"] (sp_law_tree K j)
  | 0 => step_law_tree T 0 3 (by decide) fun m h => by omega
  | j + 1 => step_law_tree T (j + 1) (j + 4) (by omega) fun m h => by
    have e : m = j := by omega
    subst e
    exact ok_law_tree T m
end
end My

namespace My
open PySem PySem.Spec PyProof.Rows L2 NumText TL
/-! ### short texts -/
theorem bld_fl {c : Nat} : ∀ {rows : List Row} {st : List PyData}, (∀ r ∈ rows, r.2.1.length ≤ 3 ∧ (fl r.2.1).length ≤ c) → bld rows = some st → (fl st).length + st.length ≤ (c + 4) * rows.length
  | [], st, _, h => by
    cases h
    exact Nat.le_refl _
  | r :: rs, st, hr, h => by
    cases e : bld rs with
    | none => rw [bld, e] at h; cases h
    | some s0 =>
      rw [bld_cons e] at h
      split at h
      · cases h
      · rename_i hn
        cases h
        have i2 := bld_fl (c := c) (rows := rs) (fun x hx => hr x (List.mem_cons_of_mem _ hx)) e
        obtain ⟨b1, b3⟩ := hr r (List.mem_cons_self ..)
        have es : s0 = s0.take r.2.2 ++ s0.drop r.2.2 := (List.take_append_drop _ _).symm
        have f1 : (fl s0).length = (fl (s0.take r.2.2)).length + (fl (s0.drop r.2.2)).length := by rw [← List.length_append, ← fl_app, ← es]
        have l1 : (s0.take r.2.2).length = r.2.2 := by rw [List.length_take]; omega
        have l2 : (s0.drop r.2.2).length = s0.length - r.2.2 := List.length_drop
        have w1 := wrT_len (r.2.1 ++ s0.take r.2.2)
        rw [fl_app, List.length_append, List.length_append] at w1
        show (wr (.tuple _) ++ fl (s0.drop r.2.2)).length + ((s0.drop r.2.2).length + 1) ≤ (c + 4) * (rs.length + 1)
        rw [wr, List.length_append, Nat.mul_add]
        omega
theorem UT_fl : ∀ r ∈ UT, r.2.1.length ≤ 3 ∧ (fl r.2.1).length ≤ 10 := by
  have key : ∀ i : Fin UT.length, (UT[i.1]'i.2).2.1.length ≤ 3 ∧ (fl (UT[i.1]'i.2).2.1).length ≤ 10 := by decide +kernel
  intro r hr
  obtain ⟨i, hi, rfl⟩ := List.getElem_of_mem hr
  exact key ⟨i, hi⟩
theorem pr_short {d : PyData} {a : List Row} (h : Pr UT d a) (hr : ∀ r ∈ a, r ∈ UT) : (wr d).length ≤ 14 * a.length := by
  have e := bld_pr [] h rfl
  rw [List.append_nil] at e
  have b := bld_fl (c := 10) (fun r hr' => UT_fl r (hr r hr')) e
  have b2 : (wr d ++ []).length + 1 ≤ 14 * a.length := b
  rw [List.append_nil] at b2
  omega
/-! ### what stands in a tree -/
theorem UT_head : ∀ r ∈ UT, ∃ s fs, r.2.1 = .str s :: fs := by
  have key : ∀ i : Fin UT.length, (match (UT[i.1]'i.2).2.1 with | .str _ :: _ => true | _ => false) = true := by decide +kernel
  intro r hr
  obtain ⟨i, hi, rfl⟩ := List.getElem_of_mem hr
  have := key ⟨i, hi⟩
  dsimp only at this
  split at this
  · rename_i s fs e
    exact ⟨s, fs, e⟩
  · cases this
def Kid (n : Nat) (x : PyData) : Prop := (flat x = true ∧ tr x = true) ∨ ∃ a', Pr UT x a' ∧ a'.length ≤ n ∧ ∀ r ∈ a', r ∈ UT
theorem prL_kid : ∀ {ds : List PyData} {a : List Row}, PrL UT ds a → (∀ r ∈ a, r ∈ UT) → ∀ x ∈ ds, ∃ a', Pr UT x a' ∧ a'.length ≤ a.length ∧ ∀ r ∈ a', r ∈ UT
  | _, _, .nil, _, _, h => by cases h
  | _, _, .cons (a := a) (b := b) h t, hr, x, hx => by
    rcases List.mem_cons.mp hx with e | hx
    · rw [e]
      exact ⟨a, h, by rw [List.length_append]; omega, fun r h => hr r (List.mem_append_left _ h)⟩
    · obtain ⟨a', h1, h2, h3⟩ := prL_kid t (fun r h => hr r (List.mem_append_right _ h)) x hx
      exact ⟨a', h1, by rw [List.length_append]; omega, h3⟩
theorem pr_open {t : PyData} {a : List Row} (h : Pr UT t a) (hr : ∀ r ∈ a, r ∈ UT) : ∃ s es, t = .tuple (.str s :: es) ∧ ∀ x ∈ es, Kid (a.length - 1) x := by
  cases h with
  | @mk r kids rows hm hk h =>
    obtain ⟨s, fs, e⟩ := UT_head r hm
    refine ⟨s, fs ++ kids, by rw [e]; rfl, fun x hx => ?_⟩
    rcases List.mem_append.mp hx with z | z
    · have hx' : x ∈ r.2.1 := by rw [e]; exact List.mem_cons_of_mem _ z
      have h2 := UT_tr r hm
      rw [tr, Bool.and_eq_true] at h2
      exact .inl ⟨UT_flat r hm x hx', trL_iff.mp h2.2 x hx'⟩
    · exact .inr (prL_kid h (fun r h => hr r (List.mem_cons_of_mem _ h)) x z)
theorem pr_pos : ∀ {tb : List Row} {d : PyData} {a : List Row}, Pr tb d a → 1 ≤ a.length
  | _, _, _, .mk _ _ _ => by simp
theorem dp_ref {K : PySem.W.Frag} {H : Hp} {x : V} {d : PyData} (h : Dp K H x d) (ht : isT d = true) : ∃ q, x = .ref q := by
  cases h with
  | tup _ _ => exact ⟨_, rfl⟩
  | _ => cases ht
theorem fl_sum : ∀ es : List PyData, ((es.map fun x => S (wr x)).map (·.length)).sum = (fl es).length
  | [] => rfl
  | x :: r => by
    rw [List.map_cons, List.map_cons, List.sum_cons, fl_sum r, S_len]
    show _ = (wr x ++ fl r).length
    rw [List.length_append]
theorem log_ok {b : Int} (h : b.natAbs < 1000) : b.natAbs.log2 < 1920 := by
  by_cases z : b.natAbs = 0
  · rw [z]; decide
  · exact (Nat.log2_lt z).mpr (Nat.lt_trans h (by decide +kernel))
theorem kid_tr {n : Nat} {x : PyData} (h : Kid n x) : tr x = true := by
  rcases h with h | ⟨a, h, _⟩
  · exact h.2
  · exact pr_tr h
theorem kid_tup {n : Nat} {x : PyData} (h : Kid n x) (ht : isT x = true) : ∃ a', Pr UT x a' ∧ a'.length ≤ n ∧ ∀ r ∈ a', r ∈ UT := by
  rcases h with h | h
  · cases x with
    | tuple _ => cases h.1
    | _ => cases ht
  · exact h
theorem kid_flat {n : Nat} {x : PyData} (h : Kid n x) (ht : isT x = false) : (∃ s, x = .str s) ∨ ∃ i, x = .int i ∧ i.natAbs < 1000 := by
  rcases h with ⟨h1, h2⟩ | ⟨a, h, _⟩
  · cases x with
    | str s => exact .inl ⟨s, rfl⟩
    | int i => exact .inr ⟨i, rfl, by rw [tr] at h2; exact of_decide_eq_true h2⟩
    | _ => cases h1
  · cases h
    cases ht
theorem wr_join : ∀ (y : PyData) (r : List PyData), wr y ++ wrC r = joinL [44] (((y :: r).map fun x => S (wr x)).map tl) ++ [41]
  | y, [] => by
    rw [wrC]
    rfl
  | y, z :: r => by
    rw [wrC, wr_join z r]
    show _ = (wr y ++ ([44] ++ joinL [44] (((z :: r).map fun x => S (wr x)).map tl))) ++ [41]
    simp
section
variable {P : Program} {w : World} {K : PySem.W.Frag} {mg : Str → Option Value} {base : Heap}
/-! ### _law_text -/
def sp_law_text (K : PySem.W.Frag) (n : Nat) : Sp := fun vs H Q _ => ∃ (p : Addr) (t : PyData) (a : List Row), vs = [.ref p] ∧ Dp K H (.ref p) t ∧ Pr UT t a ∧ (∀ r ∈ a, r ∈ UT) ∧ a.length ≤ n ∧ n ≤ 100 ∧ ∀ H', L2.Same H H' → Q (.str (S (wr t))) H'
theorem step_law_text (T : Top K mg w) (n k : Nat) (G_law_text : ∀ m, m + 1 = n → FnOk P w K mg base CX0 k T.a_law_text T.d_law_text ["tree"] (sp_law_text K m)) : FnOk P w K mg base CX0 (k + 1) T.a_law_text T.d_law_text ["tree"] (sp_law_text K n) := by
  have no0 : FnOk P w K mg base CX0 k T.a_law_text T.d_law_text ["tree"] (fun _ _ _ _ => False) := ⟨fun vs H Q E h => h.elim, fun A outer s H args us vs Q E _ _ _ _ h => h.elim⟩
  have G_law_text : FnOk P w K mg base CX0 k T.a_law_text T.d_law_text ["tree"] (fun vs H Q E => ∃ m, m + 1 = n ∧ sp_law_text K m vs H Q E) := by
    cases n with
    | zero => exact no0.imp fun vs H Q E ⟨m, h, _⟩ => by omega
    | succ n =>
      refine (G_law_text n rfl).imp fun vs H Q E h => ?_
      obtain ⟨m, h, q⟩ := h
      have e : m = n := by omega
      subst e
      exact q
  refine T.F_law_text.ok sc_law_text (fun vs H Q E h => ?_) (fun cdv A outer s H vs Q E hr h => ?_)
  · obtain ⟨p, t, a, rfl, _⟩ := h
    rfl
  obtain ⟨p, t, a, rfl, hd, hp, hra, han, hn100, q⟩ := h
  obtain ⟨sh, es, rfl, hkid⟩ := pr_open hp hra
  have hbd := pr_short hp hra
  have hal : 1 ≤ a.length := pr_pos hp
  cases hd with
  | @tup _ xs _ hT hA =>
  have ll := DpAll.len hA
  cases hA with
  | @cons x0 xr _ _ h0 hr0 =>
  cases h0 with
  | str _ =>
  have lr := DpAll.len hr0
  have hesl : es.length ≤ 10000 := by
    have h1 := pr_bd hp hra
    rw [ms, msT, msT_mf] at h1
    omega
  refine ⟨_, (pss_cons (ps_if (pt_cmpR op_eq (pe_callB call_len_seq (by rfl) T.z_len (by decide +kernel) (pa_cons (pv 0) pa_nil)) pe_int (nomark _))
        (pss_one (ps_ret (pe_ix ix_tup (pv 0) pe_int (fun _ _ => rfl))))
        pss_nil)
      (pss_cons (ps_set (i := 1) sc_law_text.nd rfl (Or.inl rfl) (pe_lst pa_nil))
      (pss_cons (ps_for PassesOwn.never rfl (pi_tup (pe_slice sl_tupA (pv 0) (po_some pe_int) po_none)) (pg_name (i := 2) sc_law_text.nd rfl (Or.inl rfl))
        (pss_one (ps_if (pt_val (pe_callB (show CallR _ (.builtin "isinstance") (rIsi K) from call_isi) (by rfl) T.z_isinstance (by decide +kernel) (pa_cons (pv 2) (pa_cons (pe_bltn (v := .ty "tuple") (u := .type "tuple") (by rfl) T.z_tuple (by decide +kernel) rfl) pa_nil))))
        (pss_one (ps_expr (pe_bm PySem.F.plainAttrs_list PySem.F.slot_list_append PySem.F.type_list_append mt_append (pv 1) (pa_cons (pe_call G_law_text hr (by rfl) T.m_law_text T.F_law_text.kp T.b_law_text .nil pass0 (pa_cons (pv 2) pa_nil)) pa_nil))))
        (pss_one (ps_expr (pe_bm PySem.F.plainAttrs_list PySem.F.slot_list_append PySem.F.type_list_append mt_append (pv 1) (pa_cons (pe_callTy call_str_any (by rfl) T.z_str (by decide +kernel) (pa_cons (pv 2) pa_nil)) pa_nil)))))))
      (pss_one (ps_ret (pe_op op_add_str (pe_op op_add_str (pe_op op_add_str (pe_ix ix_tup (pv 0) pe_int (fun _ _ => rfl)) pe_str) (pe_m1 PySem.F.slot_str_join PySem.F.type_str_join mt_join pe_str (pv 1))) pe_str)))))), ?_⟩
  refine ⟨_, rfl, p, _, rfl, .inr hT, ?_⟩
  (repeat (first
      | refine ⟨_, rfl, ?_⟩
      | refine ⟨_, _, rfl, rfl, ?_⟩
      | refine Or.inl ⟨_, rfl, ?_⟩
      | refine Or.inr ⟨_, rfl, ?_⟩
      | refine ⟨Or.inl ⟨by decide, by decide⟩, ?_⟩
      | refine ⟨Or.inr ⟨by decide, by decide⟩, ?_⟩
      | refine ⟨⟨by decide, by decide⟩, ?_⟩
      | refine ⟨⟨by decide, by decide, by decide⟩, ?_⟩
      | refine ⟨by decide, ?_⟩
      | refine ⟨(by show (0 : Int) < _; decide), ?_⟩
      | refine ⟨rfl, ?_⟩
      | refine ⟨⟨_, rfl⟩, ?_⟩
      | refine ⟨_, rfl, rfl, trivial, ?_⟩
      | refine ⟨_, _, rfl, ?_⟩))
  refine ite_dec (fun c => ?_) (fun c => ?_)
  · have c' : xr.length = 0 := by
      have e := V.int.inj c
      rw [List.length_cons] at e
      omega
    have e0 : es = [] := List.length_eq_zero_iff.mp (lr.symm.trans c')
    subst e0
    refine ⟨_, rfl, p, _, 0, _, rfl, rfl, hT, atI_nat (j := 0) rfl, ?_⟩
    have e1 : S (wr (.tuple [.str sh])) = sh := by
      rw [wr, wrT, wrR, wr, List.append_nil, S_tl]
    rw [e1] at q
    exact q H (.refl H)
  · have hne : es ≠ [] := fun e => by
      rw [e] at lr
      exact c (by rw [List.length_cons, lr]; rfl)
    (repeat (first
      | refine ⟨_, rfl, ?_⟩
      | refine ⟨_, _, rfl, rfl, ?_⟩
      | refine Or.inl ⟨_, rfl, ?_⟩
      | refine Or.inr ⟨_, rfl, ?_⟩
      | refine ⟨Or.inl ⟨by decide, by decide⟩, ?_⟩
      | refine ⟨Or.inr ⟨by decide, by decide⟩, ?_⟩
      | refine ⟨⟨by decide, by decide⟩, ?_⟩
      | refine ⟨⟨by decide, by decide, by decide⟩, ?_⟩
      | refine ⟨by decide, ?_⟩
      | refine ⟨(by show (0 : Int) < _; decide), ?_⟩
      | refine ⟨rfl, ?_⟩
      | refine ⟨⟨_, rfl⟩, ?_⟩
      | refine ⟨_, rfl, rfl, trivial, ?_⟩
      | refine ⟨_, _, rfl, ?_⟩))
    refine fun pc hpc => ?_
    (repeat (first
      | refine ⟨_, rfl, ?_⟩
      | refine ⟨_, _, rfl, rfl, ?_⟩
      | refine Or.inl ⟨_, rfl, ?_⟩
      | refine Or.inr ⟨_, rfl, ?_⟩
      | refine ⟨Or.inl ⟨by decide, by decide⟩, ?_⟩
      | refine ⟨Or.inr ⟨by decide, by decide⟩, ?_⟩
      | refine ⟨⟨by decide, by decide⟩, ?_⟩
      | refine ⟨⟨by decide, by decide, by decide⟩, ?_⟩
      | refine ⟨by decide, ?_⟩
      | refine ⟨(by show (0 : Int) < _; decide), ?_⟩
      | refine ⟨rfl, ?_⟩
      | refine ⟨⟨_, rfl⟩, ?_⟩
      | refine ⟨_, rfl, rfl, trivial, ?_⟩
      | refine ⟨_, _, rfl, ?_⟩))
    have smp : L2.Same H (upd H pc (.lst [])) := same_upd hpc
    refine ⟨p, _, rfl, My.Same.sqT smp hT, fun e => ?_, fun _ tt htt => ?_⟩
    · exfalso
      have e1 := e.1
      rw [show (1 : Int) = ((1 : Nat) : Int) from rfl, HT.sIx_nat] at e1
      simp only [List.length_cons] at e1
      omega
    have ec : cutV (V.str sh :: xr) (some 1) none = xr := cut_end (a := 1) (by simp)
    rw [ec]
    have smt : L2.Same H (upd (upd H pc (.lst [])) tt (.tup xr)) := smp.trans (same_upd htt)
    refine ⟨tt, rfl, ⟨_, SqT.of upd_same⟩, for_tup (xs := xr) (fun i σ H' => ∃ y2, σ = [some (.ref p), some (.ref pc), y2] ∧ L2.Same H H' ∧ H' tt = some (.tup xr) ∧ H' pc = some (.lst (((es.take i).map fun x => S (wr x)).map V.str))) ?_ ?_ ?_ ?_⟩
    · exact ⟨none, rfl, smt, upd_same, by rw [upd_ne (ne_of_none upd_same htt), upd_same]; rfl⟩
    · rintro i σ H' _ ⟨y2, rfl, _, ht, _⟩
      exact SqT.of ht
    · rintro i x σ H' hi ⟨y2, rfl, sm, ht, hpl⟩
      obtain ⟨d, hdi, px⟩ := DpAll.at2 hr0 hi
      have hk := hkid d (List.mem_of_getElem? hdi)
      have hi2 : i < es.length := (List.getElem?_eq_some_iff.mp hdi).1
      have ti : es.take (i + 1) = es.take i ++ [d] := by
        obtain ⟨h3, h4⟩ := List.getElem?_eq_some_iff.mp hdi
        rw [List.take_succ_eq_append_getElem h3, h4]
      have hlen : (((es.take i).map fun x => S (wr x)).map V.str).length ≤ 10000 := by rw [List.length_map, List.length_map, List.length_take]; omega
      have px' := Dp.same sm px
      (repeat (first
      | refine ⟨_, rfl, ?_⟩
      | refine ⟨_, _, rfl, rfl, ?_⟩
      | refine Or.inl ⟨_, rfl, ?_⟩
      | refine Or.inr ⟨_, rfl, ?_⟩
      | refine ⟨Or.inl ⟨by decide, by decide⟩, ?_⟩
      | refine ⟨Or.inr ⟨by decide, by decide⟩, ?_⟩
      | refine ⟨⟨by decide, by decide⟩, ?_⟩
      | refine ⟨⟨by decide, by decide, by decide⟩, ?_⟩
      | refine ⟨by decide, ?_⟩
      | refine ⟨(by show (0 : Int) < _; decide), ?_⟩
      | refine ⟨rfl, ?_⟩
      | refine ⟨⟨_, rfl⟩, ?_⟩
      | refine ⟨_, rfl, rfl, trivial, ?_⟩
      | refine ⟨_, _, rfl, ?_⟩))
      refine ⟨_, _, _, _, isT d, rfl, .ty _, Dp.ty px', isi_t (kid_tr hk), ?_⟩
      (repeat (first
      | refine ⟨_, rfl, ?_⟩
      | refine ⟨_, _, rfl, rfl, ?_⟩
      | refine Or.inl ⟨_, rfl, ?_⟩
      | refine Or.inr ⟨_, rfl, ?_⟩
      | refine ⟨Or.inl ⟨by decide, by decide⟩, ?_⟩
      | refine ⟨Or.inr ⟨by decide, by decide⟩, ?_⟩
      | refine ⟨⟨by decide, by decide⟩, ?_⟩
      | refine ⟨⟨by decide, by decide, by decide⟩, ?_⟩
      | refine ⟨by decide, ?_⟩
      | refine ⟨(by show (0 : Int) < _; decide), ?_⟩
      | refine ⟨rfl, ?_⟩
      | refine ⟨⟨_, rfl⟩, ?_⟩
      | refine ⟨_, rfl, rfl, trivial, ?_⟩
      | refine ⟨_, _, rfl, ?_⟩))
      refine ite_b (fun cd => ?_) (fun cd => ?_)
      · obtain ⟨a', hpk, hlk, hrk⟩ := kid_tup hk cd
        obtain ⟨q', rfl⟩ := dp_ref px' cd
        (repeat (first
      | refine ⟨_, rfl, ?_⟩
      | refine ⟨_, _, rfl, rfl, ?_⟩
      | refine Or.inl ⟨_, rfl, ?_⟩
      | refine Or.inr ⟨_, rfl, ?_⟩
      | refine ⟨Or.inl ⟨by decide, by decide⟩, ?_⟩
      | refine ⟨Or.inr ⟨by decide, by decide⟩, ?_⟩
      | refine ⟨⟨by decide, by decide⟩, ?_⟩
      | refine ⟨⟨by decide, by decide, by decide⟩, ?_⟩
      | refine ⟨by decide, ?_⟩
      | refine ⟨(by show (0 : Int) < _; decide), ?_⟩
      | refine ⟨rfl, ?_⟩
      | refine ⟨⟨_, rfl⟩, ?_⟩
      | refine ⟨_, rfl, rfl, trivial, ?_⟩
      | refine ⟨_, _, rfl, ?_⟩))
        refine ⟨.inl ⟨rfl, _, SqL.of hpl⟩, ?_⟩
        (repeat (first
      | refine ⟨_, rfl, ?_⟩
      | refine ⟨_, _, rfl, rfl, ?_⟩
      | refine Or.inl ⟨_, rfl, ?_⟩
      | refine Or.inr ⟨_, rfl, ?_⟩
      | refine ⟨Or.inl ⟨by decide, by decide⟩, ?_⟩
      | refine ⟨Or.inr ⟨by decide, by decide⟩, ?_⟩
      | refine ⟨⟨by decide, by decide⟩, ?_⟩
      | refine ⟨⟨by decide, by decide, by decide⟩, ?_⟩
      | refine ⟨by decide, ?_⟩
      | refine ⟨(by show (0 : Int) < _; decide), ?_⟩
      | refine ⟨rfl, ?_⟩
      | refine ⟨⟨_, rfl⟩, ?_⟩
      | refine ⟨_, rfl, rfl, trivial, ?_⟩
      | refine ⟨_, _, rfl, ?_⟩))
        refine ⟨n - 1, by omega, q', d, a', rfl, px', hpk, hrk, by omega, by omega, fun H2 s2 => ?_⟩
        refine ⟨pc, _, _, rfl, rfl, s2 _ _ hpl, smallL (by omega), ?_⟩
        refine ⟨_, rfl, fun b u hb => ?_, ?_, ?_⟩
        · rw [upd_ne (fun z => by rw [z, hpc] at hb; cases hb)]
          exact s2 _ _ (sm _ _ hb)
        · rw [upd_ne (fun z => by rw [z, upd_same] at htt; cases htt)]
          exact s2 _ _ ht
        · rw [upd_same, ti, List.map_append, List.map_append]
          rfl
      · rcases kid_flat hk cd with ⟨sx, rfl⟩ | ⟨zx, rfl, hz⟩
        · cases px'
          (repeat (first
      | refine ⟨_, rfl, ?_⟩
      | refine ⟨_, _, rfl, rfl, ?_⟩
      | refine Or.inl ⟨_, rfl, ?_⟩
      | refine Or.inr ⟨_, rfl, ?_⟩
      | refine ⟨Or.inl ⟨by decide, by decide⟩, ?_⟩
      | refine ⟨Or.inr ⟨by decide, by decide⟩, ?_⟩
      | refine ⟨⟨by decide, by decide⟩, ?_⟩
      | refine ⟨⟨by decide, by decide, by decide⟩, ?_⟩
      | refine ⟨by decide, ?_⟩
      | refine ⟨(by show (0 : Int) < _; decide), ?_⟩
      | refine ⟨rfl, ?_⟩
      | refine ⟨⟨_, rfl⟩, ?_⟩
      | refine ⟨_, rfl, rfl, trivial, ?_⟩
      | refine ⟨_, _, rfl, ?_⟩))
          refine ⟨.inl ⟨rfl, _, SqL.of hpl⟩, ?_⟩
          (repeat (first
      | refine ⟨_, rfl, ?_⟩
      | refine ⟨_, _, rfl, rfl, ?_⟩
      | refine Or.inl ⟨_, rfl, ?_⟩
      | refine Or.inr ⟨_, rfl, ?_⟩
      | refine ⟨Or.inl ⟨by decide, by decide⟩, ?_⟩
      | refine ⟨Or.inr ⟨by decide, by decide⟩, ?_⟩
      | refine ⟨⟨by decide, by decide⟩, ?_⟩
      | refine ⟨⟨by decide, by decide, by decide⟩, ?_⟩
      | refine ⟨by decide, ?_⟩
      | refine ⟨(by show (0 : Int) < _; decide), ?_⟩
      | refine ⟨rfl, ?_⟩
      | refine ⟨⟨_, rfl⟩, ?_⟩
      | refine ⟨_, rfl, rfl, trivial, ?_⟩
      | refine ⟨_, _, rfl, ?_⟩))
          refine ⟨pc, _, _, rfl, rfl, hpl, smallL (by omega), ?_⟩
          refine ⟨_, rfl, fun b u hb => ?_, ?_, ?_⟩
          · rw [upd_ne (fun z => by rw [z, hpc] at hb; cases hb)]
            exact sm _ _ hb
          · rw [upd_ne (fun z => by rw [z, upd_same] at htt; cases htt)]
            exact ht
          · rw [upd_same, ti, List.map_append, List.map_append]
            show _ = some (HO.lst (_ ++ [V.str (S (wr (.str sx)))]))
            rw [wr, S_tl]
        · cases px'
          (repeat (first
      | refine ⟨_, rfl, ?_⟩
      | refine ⟨_, _, rfl, rfl, ?_⟩
      | refine Or.inl ⟨_, rfl, ?_⟩
      | refine Or.inr ⟨_, rfl, ?_⟩
      | refine ⟨Or.inl ⟨by decide, by decide⟩, ?_⟩
      | refine ⟨Or.inr ⟨by decide, by decide⟩, ?_⟩
      | refine ⟨⟨by decide, by decide⟩, ?_⟩
      | refine ⟨⟨by decide, by decide, by decide⟩, ?_⟩
      | refine ⟨by decide, ?_⟩
      | refine ⟨(by show (0 : Int) < _; decide), ?_⟩
      | refine ⟨rfl, ?_⟩
      | refine ⟨⟨_, rfl⟩, ?_⟩
      | refine ⟨_, rfl, rfl, trivial, ?_⟩
      | refine ⟨_, _, rfl, ?_⟩))
          refine ⟨.inl ⟨rfl, _, SqL.of hpl⟩, ?_⟩
          (repeat (first
      | refine ⟨_, rfl, ?_⟩
      | refine ⟨_, _, rfl, rfl, ?_⟩
      | refine Or.inl ⟨_, rfl, ?_⟩
      | refine Or.inr ⟨_, rfl, ?_⟩
      | refine ⟨Or.inl ⟨by decide, by decide⟩, ?_⟩
      | refine ⟨Or.inr ⟨by decide, by decide⟩, ?_⟩
      | refine ⟨⟨by decide, by decide⟩, ?_⟩
      | refine ⟨⟨by decide, by decide, by decide⟩, ?_⟩
      | refine ⟨by decide, ?_⟩
      | refine ⟨(by show (0 : Int) < _; decide), ?_⟩
      | refine ⟨rfl, ?_⟩
      | refine ⟨⟨_, rfl⟩, ?_⟩
      | refine ⟨_, rfl, rfl, trivial, ?_⟩
      | refine ⟨_, _, rfl, ?_⟩))
          refine ⟨log_ok hz, ?_⟩
          rw [S_int]
          refine ⟨pc, _, _, rfl, rfl, hpl, smallL (by omega), ?_⟩
          refine ⟨_, rfl, fun b u hb => ?_, ?_, ?_⟩
          · rw [upd_ne (fun z => by rw [z, hpc] at hb; cases hb)]
            exact sm _ _ hb
          · rw [upd_ne (fun z => by rw [z, upd_same] at htt; cases htt)]
            exact ht
          · rw [upd_same, ti, List.map_append, List.map_append]
            show _ = some (HO.lst (_ ++ [V.str (S (wr (.int zx)))]))
            rw [wr]
    · rintro σ H' ⟨y2, rfl, sm, ht, hpl⟩
      rw [List.take_of_length_le (by omega)] at hpl
      have hT' := My.Same.sqT sm hT
      have hwr : wr (.tuple (.str sh :: es)) = tl sh ++ 40 :: (joinL [44] ((es.map fun x => S (wr x)).map tl) ++ [41]) := by
        cases es with
        | nil => exact absurd rfl hne
        | cons y r => rw [wr, wrT, wrR, wr, wr_join]
      have hjl : (joinL [44] ((es.map fun x => S (wr x)).map tl)).length + (tl sh).length + 2 = (wr (.tuple (.str sh :: es))).length := by
        rw [hwr]
        simp
        omega
      have hjoin : Txt.join (Str.ofString ",") (es.map fun x => S (wr x)) = S (joinL [44] ((es.map fun x => S (wr x)).map tl)) := ext_tl (by
        rw [join_eq, tl_join, tl_S]
        rfl)
      refine ⟨_, rfl, p, _, 0, _, rfl, rfl, hT', atI_nat (j := 0) rfl, ?_⟩
      have l1 : (Str.ofString "(").length = 1 := by decide +kernel
      have l2 : (Str.ofString ")").length = 1 := by decide +kernel
      have l3 : (Str.ofString ",").length = 1 := by decide +kernel
      have lsh := tl_len sh
      have hfl : (fl es).length + es.length ≤ (wr (.tuple (.str sh :: es))).length := by
        cases es with
        | nil => exact absurd rfl hne
        | cons y r =>
          have := wrC_len r
          rw [wr, wrT, wrR, wr]
          show (wr y ++ fl r).length + (r.length + 1) ≤ (tl sh ++ (40 :: (wr y ++ wrC r))).length
          rw [List.length_append, List.length_append, List.length_cons, List.length_append]
          omega
      (repeat (first
      | refine ⟨_, rfl, ?_⟩
      | refine ⟨_, _, rfl, rfl, ?_⟩
      | refine Or.inl ⟨_, rfl, ?_⟩
      | refine Or.inr ⟨_, rfl, ?_⟩
      | refine ⟨Or.inl ⟨by decide, by decide⟩, ?_⟩
      | refine ⟨Or.inr ⟨by decide, by decide⟩, ?_⟩
      | refine ⟨⟨by decide, by decide⟩, ?_⟩
      | refine ⟨⟨by decide, by decide, by decide⟩, ?_⟩
      | refine ⟨by decide, ?_⟩
      | refine ⟨(by show (0 : Int) < _; decide), ?_⟩
      | refine ⟨rfl, ?_⟩
      | refine ⟨⟨_, rfl⟩, ?_⟩
      | refine ⟨_, rfl, rfl, trivial, ?_⟩
      | refine ⟨_, _, rfl, ?_⟩))
      refine ⟨small (by rw [l1]; omega), ?_⟩
      (repeat (first
      | refine ⟨_, rfl, ?_⟩
      | refine ⟨_, _, rfl, rfl, ?_⟩
      | refine Or.inl ⟨_, rfl, ?_⟩
      | refine Or.inr ⟨_, rfl, ?_⟩
      | refine ⟨Or.inl ⟨by decide, by decide⟩, ?_⟩
      | refine ⟨Or.inr ⟨by decide, by decide⟩, ?_⟩
      | refine ⟨⟨by decide, by decide⟩, ?_⟩
      | refine ⟨⟨by decide, by decide, by decide⟩, ?_⟩
      | refine ⟨by decide, ?_⟩
      | refine ⟨(by show (0 : Int) < _; decide), ?_⟩
      | refine ⟨rfl, ?_⟩
      | refine ⟨⟨_, rfl⟩, ?_⟩
      | refine ⟨_, rfl, rfl, trivial, ?_⟩
      | refine ⟨_, _, rfl, ?_⟩))
      refine ⟨_, pc, es.map (fun x => S (wr x)), rfl, rfl, .inl (SqL.of hpl), ?_, ?_⟩
      · rw [fl_sum, l3, List.length_map]
        omega
      rw [hjoin]
      have lenA : ∀ a b : Str, (a ++ b).length = a.length + b.length := fun a b => by rw [← tl_len, ← tl_len, ← tl_len, tl_append, List.length_append]
      have lj : (S (joinL [44] ((es.map fun x => S (wr x)).map tl))).length ≤ 2000 := by rw [S_len]; omega
      (repeat (first
      | refine ⟨_, rfl, ?_⟩
      | refine ⟨_, _, rfl, rfl, ?_⟩
      | refine Or.inl ⟨_, rfl, ?_⟩
      | refine Or.inr ⟨_, rfl, ?_⟩
      | refine ⟨Or.inl ⟨by decide, by decide⟩, ?_⟩
      | refine ⟨Or.inr ⟨by decide, by decide⟩, ?_⟩
      | refine ⟨⟨by decide, by decide⟩, ?_⟩
      | refine ⟨⟨by decide, by decide, by decide⟩, ?_⟩
      | refine ⟨by decide, ?_⟩
      | refine ⟨(by show (0 : Int) < _; decide), ?_⟩
      | refine ⟨rfl, ?_⟩
      | refine ⟨⟨_, rfl⟩, ?_⟩
      | refine ⟨_, rfl, rfl, trivial, ?_⟩
      | refine ⟨_, _, rfl, ?_⟩))
      refine ⟨small (by rw [lenA, l1]; omega), ?_⟩
      (repeat (first
      | refine ⟨_, rfl, ?_⟩
      | refine ⟨_, _, rfl, rfl, ?_⟩
      | refine Or.inl ⟨_, rfl, ?_⟩
      | refine Or.inr ⟨_, rfl, ?_⟩
      | refine ⟨Or.inl ⟨by decide, by decide⟩, ?_⟩
      | refine ⟨Or.inr ⟨by decide, by decide⟩, ?_⟩
      | refine ⟨⟨by decide, by decide⟩, ?_⟩
      | refine ⟨⟨by decide, by decide, by decide⟩, ?_⟩
      | refine ⟨by decide, ?_⟩
      | refine ⟨(by show (0 : Int) < _; decide), ?_⟩
      | refine ⟨rfl, ?_⟩
      | refine ⟨⟨_, rfl⟩, ?_⟩
      | refine ⟨_, rfl, rfl, trivial, ?_⟩
      | refine ⟨_, _, rfl, ?_⟩))
      refine ⟨small (by rw [lenA, lenA, l1, l2]; omega), ?_⟩
      have fin : sh ++ Str.ofString "(" ++ S (joinL [44] ((es.map fun x => S (wr x)).map tl)) ++ Str.ofString ")" = S (wr (.tuple (.str sh :: es))) := ext_tl (by
        rw [tl_append, tl_append, tl_append, tl_S, tl_S, hwr, show tl (Str.ofString "(") = [40] from rfl, show tl (Str.ofString ")") = [41] from rfl]
        simp)
      show Q (.str (sh ++ Str.ofString "(" ++ S (joinL [44] ((es.map fun x => S (wr x)).map tl)) ++ Str.ofString ")")) H'
      rw [fin]
      exact q H' sm
theorem ok_law_text (T : Top K mg w) : ∀ n : Nat, FnOk P w K mg base CX0 (n + 1) T.a_law_text T.d_law_text ["tree"] (sp_law_text K n)
  | 0 => step_law_text T 0 0 fun m h => by omega
  | n + 1 => step_law_text T (n + 1) (n + 1) fun m h => by
    have e : m = n := by omega
    subst e
    exact ok_law_text T m
end
end My

namespace My
open PySem PySem.Spec PyProof.Rows L2 NumText TL
def isIs : PyData → Bool
  | .str s => decide (s = Str.ofString "is")
  | _ => false
mutual
/-- a name is asked for in it -/
def nm : PyData → Bool
  | .tuple xs => nmT xs
  | _ => false
def nmT : List PyData → Bool
  | [] => false
  | x :: r => isIs x || nmR r
def nmR : List PyData → Bool
  | [] => false
  | x :: r => nm x || nmR r
end
theorem nmR_app : ∀ a b, nmR (a ++ b) = (nmR a || nmR b)
  | [], b => by rw [nmR]; rfl
  | x :: a, b => by
    rw [List.cons_append, nmR, nmR, nmR_app a b, Bool.or_assoc]
theorem nmR_filter : ∀ l, nmR l = decide (0 < (l.filter nm).length)
  | [] => by rw [nmR]; rfl
  | x :: r => by
    rw [nmR, nmR_filter r, List.filter_cons]
    cases nm x with
    | true => rfl
    | false => rfl
theorem nm_no {d : PyData} (h : isT d = false) : nm d = false := by
  cases d with
  | tuple xs => cases h
  | _ => rw [nm]; intro xs h; cases h
theorem nmR_flat : ∀ {fs : List PyData}, (∀ f ∈ fs, flat f = true) → nmR fs = false
  | [], _ => by rw [nmR]
  | f :: fs, h => by
    have hf := h f (List.mem_cons_self ..)
    rw [nmR, nmR_flat (fs := fs) fun x hx => h x (List.mem_cons_of_mem _ hx), nm_no (by cases f <;> first | rfl | cases hf)]
    rfl
theorem sum_cnt : ∀ l : List PyData, ((l.filter isT).map fun x => ((cnt x : Nat) : Int)).sum = ((cntT l : Nat) : Int)
  | [] => by rw [cntT]; rfl
  | x :: r => by
    rw [List.filter_cons, cntT]
    cases e : isT x with
    | true =>
      rw [if_pos rfl, List.map_cons, List.sum_cons, sum_cnt r]
      omega
    | false =>
      rw [if_neg (by decide), sum_cnt r, cnt_no e]
      omega
theorem tab0_head : ∀ r ∈ tab0, nmT r.2.1 = false := by
  have key : ∀ i : Fin tab0.length, nmT (tab0[i.1]'i.2).2.1 = false := by decide +kernel
  intro r hr
  obtain ⟨i, hi, rfl⟩ := List.getElem_of_mem hr
  exact key ⟨i, hi⟩
theorem nmT_app {f : PyData} {fs b : List PyData} : nmT (f :: fs ++ b) = (nmT (f :: fs) || nmR b) := by
  show nmT (f :: (fs ++ b)) = _
  rw [nmT, nmT, nmR_app, Bool.or_assoc]
theorem isR_head (n : Str) : nmT (isR n).2.1 = true := by
  show nmT [sd "is", .str n] = true
  rw [nmT]
  rfl
mutual
theorem pr_nm : ∀ {d : PyData} {a : List Row}, Pr UT d a → nm d = a.any fun r => nmT r.2.1
  | _, _, .mk (r := r) (kids := kids) (rows := rows) hr hk h => by
    have e2 := prL_nm h
    obtain ⟨s, fs, e⟩ := UT_head r hr
    rw [nm, List.any_cons, ← e2, e, nmT_app]
theorem prL_nm : ∀ {ds : List PyData} {a : List Row}, PrL UT ds a → nmR ds = a.any fun r => nmT r.2.1
  | _, _, .nil => by rw [nmR]; rfl
  | _, _, .cons h t => by rw [nmR, pr_nm h, prL_nm t, List.any_append]
end
section
variable {P : Program} {w : World} {K : PySem.W.Frag} {mg : Str → Option Value} {base : Heap}
theorem first_one {p : Prop} {l : List V} {v : V} (h : HT.sIx (v :: l).length 0 (some 1) = 0 ∧ p) : False := by
  have e1 := h.1
  rw [show (1 : Int) = ((1 : Nat) : Int) from rfl, HT.sIx_nat] at e1
  simp only [List.length_cons] at e1
  omega
/-! ### _law_parts -/
def sp_law_parts (K : PySem.W.Frag) (n : Nat) : Sp := fun vs H Q _ => ∃ (p : Addr) (t : PyData) (a : List Row), vs = [.ref p] ∧ Dp K H (.ref p) t ∧ Pr UT t a ∧ (∀ r ∈ a, r ∈ UT) ∧ a.length ≤ n ∧ n ≤ 100 ∧ ∀ H', L2.Same H H' → Q (.int ((cnt t : Nat) : Int)) H'
theorem step_law_parts (T : Top K mg w) (n k : Nat) (G_law_parts : ∀ m, m + 1 = n → FnOk P w K mg base CX0 k T.a_law_parts T.d_law_parts ["tree"] (sp_law_parts K m)) : FnOk P w K mg base CX0 (k + 1) T.a_law_parts T.d_law_parts ["tree"] (sp_law_parts K n) := by
  have no0 : FnOk P w K mg base CX0 k T.a_law_parts T.d_law_parts ["tree"] (fun _ _ _ _ => False) := ⟨fun vs H Q E h => h.elim, fun A outer s H args us vs Q E _ _ _ _ h => h.elim⟩
  have G_law_parts : FnOk P w K mg base CX0 k T.a_law_parts T.d_law_parts ["tree"] (fun vs H Q E => ∃ m, m + 1 = n ∧ sp_law_parts K m vs H Q E) := by
    cases n with
    | zero => exact no0.imp fun vs H Q E ⟨m, h, _⟩ => by omega
    | succ n =>
      refine (G_law_parts n rfl).imp fun vs H Q E h => ?_
      obtain ⟨m, h, q⟩ := h
      have e : m = n := by omega
      subst e
      exact q
  refine T.F_law_parts.ok sc_law_parts (fun vs H Q E h => ?_) (fun cdv A outer s H vs Q E hr h => ?_)
  · obtain ⟨p, t, a, rfl, _⟩ := h
    rfl
  obtain ⟨p, t, a, rfl, hd, hp, hra, han, hn100, q⟩ := h
  obtain ⟨sh, es, rfl, hkid⟩ := pr_open hp hra
  have hal : 1 ≤ a.length := pr_pos hp
  cases hd with
  | @tup _ xs _ hT hA =>
  cases hA with
  | @cons x0 xr _ _ h0 hr0 =>
  cases h0 with
  | str _ =>
  have lr := DpAll.len hr0
  have hesl : es.length ≤ 10000 := by
    have h1 := pr_bd hp hra
    rw [ms, msT, msT_mf] at h1
    omega
  have hcq : cnt (.tuple (.str sh :: es)) = 1 + cntT es := by
    rw [cnt, cntT, cnt_no rfl]
    omega
  refine ⟨_, (pss_one (ps_ret (pe_op op_add pe_int (pe_callB (cr_sum rfl) (by rfl) T.z_sum (by decide +kernel) (pa_cons (pe_lc (own := [("one", 1)]) (g := gName 1) (by rfl) sc_law_parts.nd (pi_tup (pe_slice sl_tupA (pv 0) (po_some pe_int) po_none)) (blkOk_by (own := [("one", 1)]) (N := ["tree", "one"]) (sc := defScope s_law_parts) (by decide +kernel)) (fun _ _ _ _ _ => (pg_name (i := 1) sc_law_parts.nd rfl (Or.inl rfl))) (fun _ _ _ _ _ => pts_one (pt_val (pe_callB (show CallR _ (.builtin "isinstance") (rIsi K) from call_isi) (by rfl) T.z_isinstance (by decide +kernel) (pa_cons (pv 1) (pa_cons (pe_bltn (v := .ty "tuple") (u := .type "tuple") (by rfl) T.z_tuple (by decide +kernel) rfl) pa_nil))))) (fun _ _ _ _ _ => (pe_call G_law_parts hr (by rfl) T.m_law_parts T.F_law_parts.kp T.b_law_parts .nil pass0 (pa_cons (pv 1) pa_nil)))) pa_nil))))), ?_⟩
  (repeat (first
      | refine ⟨_, rfl, ?_⟩
      | refine ⟨_, _, rfl, rfl, ?_⟩
      | refine Or.inl ⟨_, rfl, ?_⟩
      | refine Or.inr ⟨_, rfl, ?_⟩
      | refine ⟨Or.inl ⟨by decide, by decide⟩, ?_⟩
      | refine ⟨Or.inr ⟨by decide, by decide⟩, ?_⟩
      | refine ⟨⟨by decide, by decide⟩, ?_⟩
      | refine ⟨⟨by decide, by decide, by decide⟩, ?_⟩
      | refine ⟨by decide, ?_⟩
      | refine ⟨(by show (0 : Int) < _; decide), ?_⟩
      | refine ⟨rfl, ?_⟩
      | refine ⟨⟨_, rfl⟩, ?_⟩
      | refine ⟨_, rfl, rfl, trivial, ?_⟩
      | refine ⟨_, _, rfl, ?_⟩))
  refine ⟨p, _, rfl, hT, fun e => (first_one e).elim, fun _ tt htt => ?_⟩
  have ec : cutV (V.str sh :: xr) (some 1) none = xr := cut_end (a := 1) (by simp)
  rw [ec]
  have smt : L2.Same H (upd H tt (.tup xr)) := same_upd htt
  have et : (upd H tt (.tup xr)) tt = some (.tup xr) := upd_same
  generalize upd H tt (.tup xr) = H1 at smt et ⊢
  refine ⟨tt, rfl, ⟨_, SqT.of et⟩, fun D hD => ?_⟩
  have smD : ∀ o, L2.Same H1 (upd H1 D o) := fun o => same_upd hD
  refine lc_tup (xs := xr) (fun i H' => L2.Same H1 H' ∧ H' D = some (.lst ((((es.take i).filter isT).map fun x => ((cnt x : Nat) : Int)).map V.int))) ⟨smD _, upd_same⟩ ?_ ?_ ?_
  · rintro i H' _ ⟨sm, _⟩
    exact SqT.of (sm _ _ et)
  · rintro i x H' hi ⟨sm, hDl⟩
    obtain ⟨d, hdi, px⟩ := DpAll.at2 hr0 hi
    have hk := hkid d (List.mem_of_getElem? hdi)
    have ti : es.take (i + 1) = es.take i ++ [d] := by
      obtain ⟨h3, h4⟩ := List.getElem?_eq_some_iff.mp hdi
      rw [List.take_succ_eq_append_getElem h3, h4]
    have px' := Dp.same (smt.trans sm) px
    refine ⟨rfl, ?_⟩
    (repeat (first
      | refine ⟨_, rfl, ?_⟩
      | refine ⟨_, _, rfl, rfl, ?_⟩
      | refine Or.inl ⟨_, rfl, ?_⟩
      | refine Or.inr ⟨_, rfl, ?_⟩
      | refine ⟨Or.inl ⟨by decide, by decide⟩, ?_⟩
      | refine ⟨Or.inr ⟨by decide, by decide⟩, ?_⟩
      | refine ⟨⟨by decide, by decide⟩, ?_⟩
      | refine ⟨⟨by decide, by decide, by decide⟩, ?_⟩
      | refine ⟨by decide, ?_⟩
      | refine ⟨(by show (0 : Int) < _; decide), ?_⟩
      | refine ⟨rfl, ?_⟩
      | refine ⟨⟨_, rfl⟩, ?_⟩
      | refine ⟨_, rfl, rfl, trivial, ?_⟩
      | refine ⟨_, _, rfl, ?_⟩))
    refine ⟨_, _, _, _, isT d, rfl, .ty _, Dp.ty px', isi_t (kid_tr hk), ?_⟩
    (repeat (first
      | refine ⟨_, rfl, ?_⟩
      | refine ⟨_, _, rfl, rfl, ?_⟩
      | refine Or.inl ⟨_, rfl, ?_⟩
      | refine Or.inr ⟨_, rfl, ?_⟩
      | refine ⟨Or.inl ⟨by decide, by decide⟩, ?_⟩
      | refine ⟨Or.inr ⟨by decide, by decide⟩, ?_⟩
      | refine ⟨⟨by decide, by decide⟩, ?_⟩
      | refine ⟨⟨by decide, by decide, by decide⟩, ?_⟩
      | refine ⟨by decide, ?_⟩
      | refine ⟨(by show (0 : Int) < _; decide), ?_⟩
      | refine ⟨rfl, ?_⟩
      | refine ⟨⟨_, rfl⟩, ?_⟩
      | refine ⟨_, rfl, rfl, trivial, ?_⟩
      | refine ⟨_, _, rfl, ?_⟩))
    refine ite_b (fun cd => ?_) (fun cd => ?_)
    · obtain ⟨a', hpk, hlk, hrk⟩ := kid_tup hk cd
      obtain ⟨q', rfl⟩ := dp_ref px' cd
      (repeat (first
      | refine ⟨_, rfl, ?_⟩
      | refine ⟨_, _, rfl, rfl, ?_⟩
      | refine Or.inl ⟨_, rfl, ?_⟩
      | refine Or.inr ⟨_, rfl, ?_⟩
      | refine ⟨Or.inl ⟨by decide, by decide⟩, ?_⟩
      | refine ⟨Or.inr ⟨by decide, by decide⟩, ?_⟩
      | refine ⟨⟨by decide, by decide⟩, ?_⟩
      | refine ⟨⟨by decide, by decide, by decide⟩, ?_⟩
      | refine ⟨by decide, ?_⟩
      | refine ⟨(by show (0 : Int) < _; decide), ?_⟩
      | refine ⟨rfl, ?_⟩
      | refine ⟨⟨_, rfl⟩, ?_⟩
      | refine ⟨_, rfl, rfl, trivial, ?_⟩
      | refine ⟨_, _, rfl, ?_⟩))
      refine ⟨n - 1, by omega, q', d, a', rfl, px', hpk, hrk, by omega, by omega, fun H2 s2 => ?_⟩
      refine ⟨_, s2 _ _ hDl, smallL (by rw [List.length_map, List.length_map]; have := List.length_filter_le isT (es.take i); rw [List.length_take] at this; omega), fun b u hb => ?_, ?_⟩
      · rw [upd_ne (fun z => by rw [z, hD] at hb; cases hb)]
        exact s2 _ _ (sm _ _ hb)
      · rw [upd_same, ti, List.filter_append, List.filter_cons, if_pos cd, List.map_append, List.map_append]
        rfl
    · refine ⟨sm, ?_⟩
      rw [ti, List.filter_append, List.filter_cons, if_neg (by rw [cd]; decide), List.filter_nil, List.append_nil]
      exact hDl
  rintro H' ⟨sm, hDl⟩
  rw [List.take_of_length_le (by omega)] at hDl
  (repeat (first
      | refine ⟨_, rfl, ?_⟩
      | refine ⟨_, _, rfl, rfl, ?_⟩
      | refine Or.inl ⟨_, rfl, ?_⟩
      | refine Or.inr ⟨_, rfl, ?_⟩
      | refine ⟨Or.inl ⟨by decide, by decide⟩, ?_⟩
      | refine ⟨Or.inr ⟨by decide, by decide⟩, ?_⟩
      | refine ⟨⟨by decide, by decide⟩, ?_⟩
      | refine ⟨⟨by decide, by decide, by decide⟩, ?_⟩
      | refine ⟨by decide, ?_⟩
      | refine ⟨(by show (0 : Int) < _; decide), ?_⟩
      | refine ⟨rfl, ?_⟩
      | refine ⟨⟨_, rfl⟩, ?_⟩
      | refine ⟨_, rfl, rfl, trivial, ?_⟩
      | refine ⟨_, _, rfl, ?_⟩))
  refine ⟨D, _, rfl, SqL.of hDl, ?_⟩
  (repeat (first
      | refine ⟨_, rfl, ?_⟩
      | refine ⟨_, _, rfl, rfl, ?_⟩
      | refine Or.inl ⟨_, rfl, ?_⟩
      | refine Or.inr ⟨_, rfl, ?_⟩
      | refine ⟨Or.inl ⟨by decide, by decide⟩, ?_⟩
      | refine ⟨Or.inr ⟨by decide, by decide⟩, ?_⟩
      | refine ⟨⟨by decide, by decide⟩, ?_⟩
      | refine ⟨⟨by decide, by decide, by decide⟩, ?_⟩
      | refine ⟨by decide, ?_⟩
      | refine ⟨(by show (0 : Int) < _; decide), ?_⟩
      | refine ⟨rfl, ?_⟩
      | refine ⟨⟨_, rfl⟩, ?_⟩
      | refine ⟨_, rfl, rfl, trivial, ?_⟩
      | refine ⟨_, _, rfl, ?_⟩))
  rw [sum_cnt]
  have e1 : (1 : Int) + ((cntT es : Nat) : Int) = ((cnt (.tuple (.str sh :: es)) : Nat) : Int) := by rw [hcq]; omega
  show Q (.int ((1 : Int) + ((cntT es : Nat) : Int))) H'
  rw [e1]
  exact q H' (smt.trans sm)
theorem ok_law_parts (T : Top K mg w) : ∀ n : Nat, FnOk P w K mg base CX0 (n + 1) T.a_law_parts T.d_law_parts ["tree"] (sp_law_parts K n)
  | 0 => step_law_parts T 0 0 fun m h => by omega
  | n + 1 => step_law_parts T (n + 1) (n + 1) fun m h => by
    have e : m = n := by omega
    subst e
    exact ok_law_parts T m
/-! ### _law_named -/
def sp_law_named (K : PySem.W.Frag) (n : Nat) : Sp := fun vs H Q _ => ∃ (p : Addr) (t : PyData) (a : List Row), vs = [.ref p] ∧ Dp K H (.ref p) t ∧ Pr UT t a ∧ (∀ r ∈ a, r ∈ UT) ∧ a.length ≤ n ∧ n ≤ 100 ∧ ∀ H', L2.Same H H' → Q (.bl (nm t)) H'
theorem step_law_named (T : Top K mg w) (n k : Nat) (G_law_named : ∀ m, m + 1 = n → FnOk P w K mg base CX0 k T.a_law_named T.d_law_named ["tree"] (sp_law_named K m)) : FnOk P w K mg base CX0 (k + 1) T.a_law_named T.d_law_named ["tree"] (sp_law_named K n) := by
  have no0 : FnOk P w K mg base CX0 k T.a_law_named T.d_law_named ["tree"] (fun _ _ _ _ => False) := ⟨fun vs H Q E h => h.elim, fun A outer s H args us vs Q E _ _ _ _ h => h.elim⟩
  have G_law_named : FnOk P w K mg base CX0 k T.a_law_named T.d_law_named ["tree"] (fun vs H Q E => ∃ m, m + 1 = n ∧ sp_law_named K m vs H Q E) := by
    cases n with
    | zero => exact no0.imp fun vs H Q E ⟨m, h, _⟩ => by omega
    | succ n =>
      refine (G_law_named n rfl).imp fun vs H Q E h => ?_
      obtain ⟨m, h, q⟩ := h
      have e : m = n := by omega
      subst e
      exact q
  refine T.F_law_named.ok sc_law_named (fun vs H Q E h => ?_) (fun cdv A outer s H vs Q E hr h => ?_)
  · obtain ⟨p, t, a, rfl, _⟩ := h
    rfl
  obtain ⟨p, t, a, rfl, hd, hp, hra, han, hn100, q⟩ := h
  obtain ⟨sh, es, rfl, hkid⟩ := pr_open hp hra
  have hal : 1 ≤ a.length := pr_pos hp
  cases hd with
  | @tup _ xs _ hT hA =>
  cases hA with
  | @cons x0 xr _ _ h0 hr0 =>
  cases h0 with
  | str _ =>
  have lr := DpAll.len hr0
  have hesl : es.length ≤ 10000 := by
    have h1 := pr_bd hp hra
    rw [ms, msT, msT_mf] at h1
    omega
  refine ⟨_, (pss_one (ps_ret (pe_or (pe_cmpR op_eq (pe_ix ix_tup (pv 0) pe_int (fun _ _ => rfl)) pe_str (nomark _)) (pe_one (pe_cmpR op_gt (pe_callB call_len_seq (by rfl) T.z_len (by decide +kernel) (pa_cons (pe_lc (own := [("one", 1)]) (g := gName 1) (by rfl) sc_law_named.nd (pi_tup (pe_slice sl_tupA (pv 0) (po_some pe_int) po_none)) (blkOk_by (own := [("one", 1)]) (N := ["tree", "one"]) (sc := defScope s_law_named) (by decide +kernel)) (fun _ _ _ _ _ => (pg_name (i := 1) sc_law_named.nd rfl (Or.inl rfl))) (fun _ _ _ _ _ => pts_one (PW.pt (pw_and (pt_val (pe_callB (show CallR _ (.builtin "isinstance") (rIsi K) from call_isi) (by rfl) T.z_isinstance (by decide +kernel) (pa_cons (pv 1) (pa_cons (pe_bltn (v := .ty "tuple") (u := .type "tuple") (by rfl) T.z_tuple (by decide +kernel) rfl) pa_nil)))) (pw_and1 (pt_val (pe_call G_law_named hr (by rfl) T.m_law_named T.F_law_named.kp T.b_law_named .nil pass0 (pa_cons (pv 1) pa_nil))))))) (fun _ _ _ _ _ => (pv 1))) pa_nil)) pe_int (nomark _)))))), ?_⟩
  refine ⟨_, rfl, p, _, 0, _, rfl, rfl, hT, atI_nat (j := 0) rfl, ?_⟩
  (repeat (first
      | refine ⟨_, rfl, ?_⟩
      | refine ⟨_, _, rfl, rfl, ?_⟩
      | refine Or.inl ⟨_, rfl, ?_⟩
      | refine Or.inr ⟨_, rfl, ?_⟩
      | refine ⟨Or.inl ⟨by decide, by decide⟩, ?_⟩
      | refine ⟨Or.inr ⟨by decide, by decide⟩, ?_⟩
      | refine ⟨⟨by decide, by decide⟩, ?_⟩
      | refine ⟨⟨by decide, by decide, by decide⟩, ?_⟩
      | refine ⟨by decide, ?_⟩
      | refine ⟨(by show (0 : Int) < _; decide), ?_⟩
      | refine ⟨rfl, ?_⟩
      | refine ⟨⟨_, rfl⟩, ?_⟩
      | refine ⟨_, rfl, rfl, trivial, ?_⟩
      | refine ⟨_, _, rfl, ?_⟩))
  have hnq : nm (.tuple (.str sh :: es)) = (decide (sh = Str.ofString "is") || nmR es) := by
    rw [nm, nmT]
    rfl
  refine ite_dec (fun c => ?_) (fun c => ?_)
  · have e := V.str.inj c
    rw [hnq, decide_eq_true e, Bool.true_or] at q
    exact q H (.refl H)
  have c' : ¬ sh = Str.ofString "is" := fun e => c (by rw [e])
  rw [hnq, decide_eq_false c', Bool.false_or] at q
  (repeat (first
      | refine ⟨_, rfl, ?_⟩
      | refine ⟨_, _, rfl, rfl, ?_⟩
      | refine Or.inl ⟨_, rfl, ?_⟩
      | refine Or.inr ⟨_, rfl, ?_⟩
      | refine ⟨Or.inl ⟨by decide, by decide⟩, ?_⟩
      | refine ⟨Or.inr ⟨by decide, by decide⟩, ?_⟩
      | refine ⟨⟨by decide, by decide⟩, ?_⟩
      | refine ⟨⟨by decide, by decide, by decide⟩, ?_⟩
      | refine ⟨by decide, ?_⟩
      | refine ⟨(by show (0 : Int) < _; decide), ?_⟩
      | refine ⟨rfl, ?_⟩
      | refine ⟨⟨_, rfl⟩, ?_⟩
      | refine ⟨_, rfl, rfl, trivial, ?_⟩
      | refine ⟨_, _, rfl, ?_⟩))
  refine ⟨p, _, rfl, hT, fun e => (first_one e).elim, fun _ tt htt => ?_⟩
  have ec : cutV (V.str sh :: xr) (some 1) none = xr := cut_end (a := 1) (by simp)
  rw [ec]
  have smt : L2.Same H (upd H tt (.tup xr)) := same_upd htt
  have et : (upd H tt (.tup xr)) tt = some (.tup xr) := upd_same
  generalize upd H tt (.tup xr) = H1 at smt et ⊢
  refine ⟨tt, rfl, ⟨_, SqT.of et⟩, fun D hD => ?_⟩
  have smD : ∀ o, L2.Same H1 (upd H1 D o) := fun o => same_upd hD
  refine lc_tup (xs := xr) (fun i H' => L2.Same H1 H' ∧ H' D = some (.lst (selV nm (xr.take i) (es.take i)))) ⟨smD _, upd_same⟩ ?_ ?_ ?_
  · rintro i H' _ ⟨sm, _⟩
    exact SqT.of (sm _ _ et)
  · rintro i x H' hi ⟨sm, hDl⟩
    obtain ⟨d, hdi, px⟩ := DpAll.at2 hr0 hi
    have hk := hkid d (List.mem_of_getElem? hdi)
    have px' := Dp.same (smt.trans sm) px
    refine ⟨rfl, ?_⟩
    (repeat (first
      | refine ⟨_, rfl, ?_⟩
      | refine ⟨_, _, rfl, rfl, ?_⟩
      | refine Or.inl ⟨_, rfl, ?_⟩
      | refine Or.inr ⟨_, rfl, ?_⟩
      | refine ⟨Or.inl ⟨by decide, by decide⟩, ?_⟩
      | refine ⟨Or.inr ⟨by decide, by decide⟩, ?_⟩
      | refine ⟨⟨by decide, by decide⟩, ?_⟩
      | refine ⟨⟨by decide, by decide, by decide⟩, ?_⟩
      | refine ⟨by decide, ?_⟩
      | refine ⟨(by show (0 : Int) < _; decide), ?_⟩
      | refine ⟨rfl, ?_⟩
      | refine ⟨⟨_, rfl⟩, ?_⟩
      | refine ⟨_, rfl, rfl, trivial, ?_⟩
      | refine ⟨_, _, rfl, ?_⟩))
    refine ⟨_, _, _, _, isT d, rfl, .ty _, Dp.ty px', isi_t (kid_tr hk), ?_⟩
    (repeat (first
      | refine ⟨_, rfl, ?_⟩
      | refine ⟨_, _, rfl, rfl, ?_⟩
      | refine Or.inl ⟨_, rfl, ?_⟩
      | refine Or.inr ⟨_, rfl, ?_⟩
      | refine ⟨Or.inl ⟨by decide, by decide⟩, ?_⟩
      | refine ⟨Or.inr ⟨by decide, by decide⟩, ?_⟩
      | refine ⟨⟨by decide, by decide⟩, ?_⟩
      | refine ⟨⟨by decide, by decide, by decide⟩, ?_⟩
      | refine ⟨by decide, ?_⟩
      | refine ⟨(by show (0 : Int) < _; decide), ?_⟩
      | refine ⟨rfl, ?_⟩
      | refine ⟨⟨_, rfl⟩, ?_⟩
      | refine ⟨_, rfl, rfl, trivial, ?_⟩
      | refine ⟨_, _, rfl, ?_⟩))
    refine ite_b (fun cd => ?_) (fun cd => ?_)
    · obtain ⟨a', hpk, hlk, hrk⟩ := kid_tup hk cd
      obtain ⟨q', rfl⟩ := dp_ref px' cd
      (repeat (first
      | refine ⟨_, rfl, ?_⟩
      | refine ⟨_, _, rfl, rfl, ?_⟩
      | refine Or.inl ⟨_, rfl, ?_⟩
      | refine Or.inr ⟨_, rfl, ?_⟩
      | refine ⟨Or.inl ⟨by decide, by decide⟩, ?_⟩
      | refine ⟨Or.inr ⟨by decide, by decide⟩, ?_⟩
      | refine ⟨⟨by decide, by decide⟩, ?_⟩
      | refine ⟨⟨by decide, by decide, by decide⟩, ?_⟩
      | refine ⟨by decide, ?_⟩
      | refine ⟨(by show (0 : Int) < _; decide), ?_⟩
      | refine ⟨rfl, ?_⟩
      | refine ⟨⟨_, rfl⟩, ?_⟩
      | refine ⟨_, rfl, rfl, trivial, ?_⟩
      | refine ⟨_, _, rfl, ?_⟩))
      refine ⟨n - 1, by omega, q', d, a', rfl, px', hpk, hrk, by omega, by omega, fun H2 s2 => ?_⟩
      (repeat (first
      | refine ⟨_, rfl, ?_⟩
      | refine ⟨_, _, rfl, rfl, ?_⟩
      | refine Or.inl ⟨_, rfl, ?_⟩
      | refine Or.inr ⟨_, rfl, ?_⟩
      | refine ⟨Or.inl ⟨by decide, by decide⟩, ?_⟩
      | refine ⟨Or.inr ⟨by decide, by decide⟩, ?_⟩
      | refine ⟨⟨by decide, by decide⟩, ?_⟩
      | refine ⟨⟨by decide, by decide, by decide⟩, ?_⟩
      | refine ⟨by decide, ?_⟩
      | refine ⟨(by show (0 : Int) < _; decide), ?_⟩
      | refine ⟨rfl, ?_⟩
      | refine ⟨⟨_, rfl⟩, ?_⟩
      | refine ⟨_, rfl, rfl, trivial, ?_⟩
      | refine ⟨_, _, rfl, ?_⟩))
      refine ite_b (fun cn => ?_) (fun cn => ?_)
      · (repeat (first
      | refine ⟨_, rfl, ?_⟩
      | refine ⟨_, _, rfl, rfl, ?_⟩
      | refine Or.inl ⟨_, rfl, ?_⟩
      | refine Or.inr ⟨_, rfl, ?_⟩
      | refine ⟨Or.inl ⟨by decide, by decide⟩, ?_⟩
      | refine ⟨Or.inr ⟨by decide, by decide⟩, ?_⟩
      | refine ⟨⟨by decide, by decide⟩, ?_⟩
      | refine ⟨⟨by decide, by decide, by decide⟩, ?_⟩
      | refine ⟨by decide, ?_⟩
      | refine ⟨(by show (0 : Int) < _; decide), ?_⟩
      | refine ⟨rfl, ?_⟩
      | refine ⟨⟨_, rfl⟩, ?_⟩
      | refine ⟨_, rfl, rfl, trivial, ?_⟩
      | refine ⟨_, _, rfl, ?_⟩))
        refine ⟨_, s2 _ _ hDl, smallL (by have := selV_le nm (xr.take i) (es.take i); rw [List.length_take] at this; omega), fun b u hb => ?_, ?_⟩
        · rw [upd_ne (fun z => by rw [z, hD] at hb; cases hb)]
          exact s2 _ _ (sm _ _ hb)
        · rw [upd_same, selV_step nm hi hdi, if_pos cn]
      · refine ⟨sm.trans s2, ?_⟩
        rw [selV_step nm hi hdi, if_neg (by rw [cn]; decide), List.append_nil]
        exact s2 _ _ hDl
    · refine ⟨sm, ?_⟩
      rw [selV_step nm hi hdi, if_neg (by rw [nm_no cd]; decide), List.append_nil]
      exact hDl
  rintro H' ⟨sm, hDl⟩
  rw [List.take_of_length_le (Nat.le_refl _), List.take_of_length_le (by omega)] at hDl
  have hsl := DpAll.len (selV_dp nm hr0)
  (repeat (first
      | refine ⟨_, rfl, ?_⟩
      | refine ⟨_, _, rfl, rfl, ?_⟩
      | refine Or.inl ⟨_, rfl, ?_⟩
      | refine Or.inr ⟨_, rfl, ?_⟩
      | refine ⟨Or.inl ⟨by decide, by decide⟩, ?_⟩
      | refine ⟨Or.inr ⟨by decide, by decide⟩, ?_⟩
      | refine ⟨⟨by decide, by decide⟩, ?_⟩
      | refine ⟨⟨by decide, by decide, by decide⟩, ?_⟩
      | refine ⟨by decide, ?_⟩
      | refine ⟨(by show (0 : Int) < _; decide), ?_⟩
      | refine ⟨rfl, ?_⟩
      | refine ⟨⟨_, rfl⟩, ?_⟩
      | refine ⟨_, rfl, rfl, trivial, ?_⟩
      | refine ⟨_, _, rfl, ?_⟩))
  refine ⟨D, _, rfl, .inl (SqL.of hDl), ?_⟩
  have e1 : decide ((0 : Int) < ((selV nm xr es).length : Nat)) = nmR es := by
    rw [nmR_filter, hsl]
    by_cases z : 0 < (es.filter nm).length
    · rw [decide_eq_true z, decide_eq_true (by omega)]
    · rw [decide_eq_false z, decide_eq_false (by omega)]
  (repeat (first
      | refine ⟨_, rfl, ?_⟩
      | refine ⟨_, _, rfl, rfl, ?_⟩
      | refine Or.inl ⟨_, rfl, ?_⟩
      | refine Or.inr ⟨_, rfl, ?_⟩
      | refine ⟨Or.inl ⟨by decide, by decide⟩, ?_⟩
      | refine ⟨Or.inr ⟨by decide, by decide⟩, ?_⟩
      | refine ⟨⟨by decide, by decide⟩, ?_⟩
      | refine ⟨⟨by decide, by decide, by decide⟩, ?_⟩
      | refine ⟨by decide, ?_⟩
      | refine ⟨(by show (0 : Int) < _; decide), ?_⟩
      | refine ⟨rfl, ?_⟩
      | refine ⟨⟨_, rfl⟩, ?_⟩
      | refine ⟨_, rfl, rfl, trivial, ?_⟩
      | refine ⟨_, _, rfl, ?_⟩))
  show Q (.bl (decide ((0 : Int) < ((selV nm xr es).length : Nat)))) H'
  rw [e1]
  exact q H' (smt.trans sm)
theorem ok_law_named (T : Top K mg w) : ∀ n : Nat, FnOk P w K mg base CX0 (n + 1) T.a_law_named T.d_law_named ["tree"] (sp_law_named K n)
  | 0 => step_law_named T 0 0 fun m h => by omega
  | n + 1 => step_law_named T (n + 1) (n + 1) fun m h => by
    have e : m = n := by omega
    subst e
    exact ok_law_named T m
end
end My

namespace My
open PySem PySem.Spec PyProof.Rows L2 NumText TL
def oth : List Str := ["other", "x"]
theorem oth_menu : ∀ n ∈ menu, n ∉ oth := by
  have key : ∀ i : Fin menu.length, ∀ j : Fin oth.length, tl (menu[i.1]'i.2) ≠ tl (oth[j.1]'j.2) := by decide +kernel
  intro n hn ho
  obtain ⟨i, hi, rfl⟩ := List.getElem_of_mem hn
  obtain ⟨j, hj, e⟩ := List.getElem_of_mem ho
  exact key ⟨i, hi⟩ ⟨j, hj⟩ (by rw [e])
theorem oth_9 {n : Str} (h : n ∈ oth) : n ∈ menu9 := List.mem_append_right _ h
theorem row_plain {r : Row} (h : r ∈ UT) (hn : nmT r.2.1 = false) : r ∈ tab0 := by
  rcases List.mem_append.mp h with h | h
  · exact h
  · obtain ⟨n, _, rfl⟩ := List.mem_map.mp h
    rw [isR_head] at hn
    cases hn
theorem row_named {r : Row} {ns : List Str} (hns : ∀ n ∈ ns, n ∈ menu) (h : r ∈ tabN ns) (hn : nmT r.2.1 = true) : r ∉ tabN oth := by
  intro h2
  rcases tabN_mem ns h with h0 | ⟨n, hm, rfl⟩
  · rw [tab0_head r h0] at hn
    cases hn
  · rcases tabN_mem oth h2 with h0 | ⟨m, hm2, e⟩
    · rw [tab0_head _ h0] at hn
      cases hn
    · have := isR_inj (congrArg (fun x : Row => x.1) e)
      rw [this] at hm
      exact oth_menu m (hns m hm) hm2
theorem sc_self {tb : List Row} {t : PyData} {a : List Row} (htb : ∀ r ∈ tb, r ∈ UT) (hp : Pr UT t a) (ha : ∀ r ∈ a, r ∈ tb) : Sc tb (wr t) (some a) := by
  have h := sc_pr uni_UT htb (rest := []) (o := some []) hp ha .nil
  rw [List.append_nil] at h
  simpa using h
theorem sc_none {tb : List Row} {t : PyData} {a : List Row} (htb : ∀ r ∈ tb, r ∈ UT) (hp : Pr UT t a) (ha : ∃ r ∈ a, r ∉ tb) : Sc tb (wr t) none := by
  have h := sc_bad uni_UT htb (rest := []) hp ha
  rwa [List.append_nil] at h
theorem rd_self {tb : List Row} {t : PyData} {a : List Row} (hp : Pr tb t a) : rdO (wr t) (some a) = some t := by
  have e := bld_pr [] hp rfl
  rw [List.append_nil] at e
  unfold rdO
  dsimp only
  rw [e]
  exact if_pos rfl
section
variable {P : Program} {w : World} {K : PySem.W.Frag} {mg : Str → Option Value} {base : Heap}
def spLaw (K : PySem.W.Frag) : Sp := fun vs H Q _ => ∃ (a : Addr) (ns : List Int), vs = [.ref a] ∧ SqL K H a (ns.map V.int) ∧ ns.length ≤ 63 ∧ ∀ H', Q (.bl true) H'
theorem ok_law (T : Top K mg w) : FnOk P w K mg base CX0 20 T.a_law T.d_law ["script"] (spLaw K) := by
  refine T.F_law.ok sc_law (fun vs H Q E h => ?_) (fun cdv A outer s H vs Q E hr h => ?_)
  · obtain ⟨a, ns, rfl, _⟩ := h
    rfl
  obtain ⟨a0, ns0, rfl, hS, h63, q⟩ := h
  have G_law_equal : FnOk P w K mg base CX0 19 T.a_law_equal T.d_law_equal ["actual", "due"] (sp_law_equal K 10) := (ok_law_equal T 10).mono (by decide)
  have G_law_tree : FnOk P w K mg base CX0 19 T.a_law_tree T.d_law_tree ["state", "names", "room"] (sp_law_tree K 10) := (ok_law_tree T 10).mono (by decide)
  have G_law_text : FnOk P w K mg base CX0 19 T.a_law_text T.d_law_text ["tree"] (sp_law_text K 10) := (ok_law_text T 10).mono (by decide)
  have G_law_parts : FnOk P w K mg base CX0 19 T.a_law_parts T.d_law_parts ["tree"] (sp_law_parts K 10) := (ok_law_parts T 10).mono (by decide)
  have G_law_named : FnOk P w K mg base CX0 19 T.a_law_named T.d_law_named ["tree"] (sp_law_named K 10) := (ok_law_named T 10).mono (by decide)
  refine ⟨_, (pss_cons (ps_set (i := 1) sc_law.nd rfl (Or.inl rfl) (pe_lst (pa_cons (pe_call ((ok_law_tape T).mono (by decide)) hr (by rfl) T.m_law_tape T.F_law_tape.kp T.b_law_tape .nil pass0 (pa_cons (pv 0) pa_nil)) (pa_cons pe_int pa_nil))))
      (pss_cons (ps_set (i := 2) sc_law.nd rfl (Or.inl rfl) (pe_call ((ok_law_names T).mono (by decide)) hr (by rfl) T.m_law_names T.F_law_names.kp T.b_law_names .nil pass0 (pa_cons (pv 1) pa_nil)))
      (pss_cons (ps_set (i := 3) sc_law.nd rfl (Or.inl rfl) (pe_call G_law_tree hr (by rfl) T.m_law_tree T.F_law_tree.kp T.b_law_tree .nil pass0 (pa_cons (pv 1) (pa_cons (pv 2) (pa_cons (pe_op op_add pe_int (pe_call ((ok_law_take T).mono (by decide)) hr (by rfl) T.m_law_take T.F_law_take.kp T.b_law_take .nil pass0 (pa_cons (pv 1) (pa_cons pe_int pa_nil)))) pa_nil)))))
      (pss_cons (ps_set (i := 4) sc_law.nd rfl (Or.inl rfl) (pe_call G_law_text hr (by rfl) T.m_law_text T.F_law_text.kp T.b_law_text .nil pass0 (pa_cons (pv 3) pa_nil)))
      (pss_cons (ps_if (PW.pt (pw_or (pt_not (pt_val (pe_call G_law_equal hr (by rfl) T.m_law_equal T.F_law_equal.kp T.b_law_equal .nil pass0 (pa_cons (pe_call ((ok_write_question T).mono (by decide)) hr (by rfl) T.m_write_question T.F_write_question.kp T.b_write_question .nil pass0 (pa_cons (pv 3) pa_nil)) (pa_cons (pv 4) pa_nil))))) (pw_or1 (pt_not (pt_val (pe_call G_law_equal hr (by rfl) T.m_law_equal T.F_law_equal.kp T.b_law_equal .nil pass0 (pa_cons (pe_call ((ok_read_question T).mono (by decide)) hr (by rfl) T.m_read_question T.F_read_question.kp T.b_read_question .nil pass0 (pa_cons (pv 4) (pa_cons (pv 2) pa_nil))) (pa_cons (pv 3) pa_nil))))))))
        (pss_one (ps_ret pe_bl))
        pss_nil)
      (pss_cons (ps_if (pt_not (pt_val (pe_call G_law_equal hr (by rfl) T.m_law_equal T.F_law_equal.kp T.b_law_equal .nil pass0 (pa_cons (pe_call ((ok_parts T).mono (by decide)) hr (by rfl) T.m_parts T.F_parts.kp T.b_parts .nil pass0 (pa_cons (pv 3) pa_nil)) (pa_cons (pe_call G_law_parts hr (by rfl) T.m_law_parts T.F_law_parts.kp T.b_law_parts .nil pass0 (pa_cons (pv 3) pa_nil)) pa_nil)))))
        (pss_one (ps_ret pe_bl))
        pss_nil)
      (pss_cons (ps_set (i := 5) sc_law.nd rfl (Or.inl rfl) (pv 3))
      (pss_cons (ps_if (pt_val (pe_call G_law_named hr (by rfl) T.m_law_named T.F_law_named.kp T.b_law_named .nil pass0 (pa_cons (pv 3) pa_nil)))
        (pss_one (ps_set (i := 5) sc_law.nd rfl (Or.inl rfl) pe_non))
        pss_nil)
      (pss_one (ps_ret (pe_and (pe_call G_law_equal hr (by rfl) T.m_law_equal T.F_law_equal.kp T.b_law_equal .nil pass0 (pa_cons (pe_call ((ok_read_question T).mono (by decide)) hr (by rfl) T.m_read_question T.F_read_question.kp T.b_read_question .nil pass0 (pa_cons (pv 4) (pa_cons (pe_tup (pa_cons pe_str (pa_cons pe_str pa_nil))) pa_nil))) (pa_cons (pv 5) pa_nil))) (pe_one (pe_call G_law_equal hr (by rfl) T.m_law_equal T.F_law_equal.kp T.b_law_equal .nil pass0 (pa_cons (pe_call ((ok_read_question T).mono (by decide)) hr (by rfl) T.m_read_question T.F_read_question.kp T.b_read_question .nil pass0 (pa_cons (pv 4) (pa_cons (pv 2) pa_nil))) (pa_cons (pv 3) pa_nil))))))))))))))), ?_⟩
  (repeat (first
      | refine ⟨_, rfl, ?_⟩
      | refine ⟨_, _, rfl, rfl, ?_⟩
      | refine Or.inl ⟨_, rfl, ?_⟩
      | refine Or.inr ⟨_, rfl, ?_⟩
      | refine ⟨Or.inl ⟨by decide, by decide⟩, ?_⟩
      | refine ⟨Or.inr ⟨by decide, by decide⟩, ?_⟩
      | refine ⟨⟨by decide, by decide⟩, ?_⟩
      | refine ⟨⟨by decide, by decide, by decide⟩, ?_⟩
      | refine ⟨by decide, ?_⟩
      | refine ⟨(by show (0 : Int) < _; decide), ?_⟩
      | refine ⟨rfl, ?_⟩
      | refine ⟨⟨_, rfl⟩, ?_⟩
      | refine ⟨_, rfl, rfl, trivial, ?_⟩
      | refine ⟨_, _, rfl, ?_⟩))
  refine ⟨a0, ns0, rfl, hS, h63, fun H1 tp ts s1 f1 e1 b1 l1 => ?_⟩
  (repeat (first
      | refine ⟨_, rfl, ?_⟩
      | refine ⟨_, _, rfl, rfl, ?_⟩
      | refine Or.inl ⟨_, rfl, ?_⟩
      | refine Or.inr ⟨_, rfl, ?_⟩
      | refine ⟨Or.inl ⟨by decide, by decide⟩, ?_⟩
      | refine ⟨Or.inr ⟨by decide, by decide⟩, ?_⟩
      | refine ⟨⟨by decide, by decide⟩, ?_⟩
      | refine ⟨⟨by decide, by decide, by decide⟩, ?_⟩
      | refine ⟨by decide, ?_⟩
      | refine ⟨(by show (0 : Int) < _; decide), ?_⟩
      | refine ⟨rfl, ?_⟩
      | refine ⟨⟨_, rfl⟩, ?_⟩
      | refine ⟨_, rfl, rfl, trivial, ?_⟩
      | refine ⟨_, _, rfl, ?_⟩))
  refine ⟨by show 2 ≤ sizeLine; decide, fun st hst => ?_⟩
  have S2 : St (upd H1 st (.lst [.ref tp, .int 0])) st 0 := ⟨tp, ts, upd_same, ne_of_none e1 hst, by rw [upd_ne (ne_of_none e1 hst)]; exact e1, l1, b1⟩
  generalize upd H1 st (.lst [.ref tp, .int 0]) = H2 at S2 ⊢
  (repeat (first
      | refine ⟨_, rfl, ?_⟩
      | refine ⟨_, _, rfl, rfl, ?_⟩
      | refine Or.inl ⟨_, rfl, ?_⟩
      | refine Or.inr ⟨_, rfl, ?_⟩
      | refine ⟨Or.inl ⟨by decide, by decide⟩, ?_⟩
      | refine ⟨Or.inr ⟨by decide, by decide⟩, ?_⟩
      | refine ⟨⟨by decide, by decide⟩, ?_⟩
      | refine ⟨⟨by decide, by decide, by decide⟩, ?_⟩
      | refine ⟨by decide, ?_⟩
      | refine ⟨(by show (0 : Int) < _; decide), ?_⟩
      | refine ⟨rfl, ?_⟩
      | refine ⟨⟨_, rfl⟩, ?_⟩
      | refine ⟨_, rfl, rfl, trivial, ?_⟩
      | refine ⟨_, _, rfl, ?_⟩))
  refine ⟨st, 0, rfl, S2, by decide, fun nmA ns n1 H3 x3 s3 hn1 hN hno => ?_⟩
  (repeat (first
      | refine ⟨_, rfl, ?_⟩
      | refine ⟨_, _, rfl, rfl, ?_⟩
      | refine Or.inl ⟨_, rfl, ?_⟩
      | refine Or.inr ⟨_, rfl, ?_⟩
      | refine ⟨Or.inl ⟨by decide, by decide⟩, ?_⟩
      | refine ⟨Or.inr ⟨by decide, by decide⟩, ?_⟩
      | refine ⟨⟨by decide, by decide⟩, ?_⟩
      | refine ⟨⟨by decide, by decide, by decide⟩, ?_⟩
      | refine ⟨by decide, ?_⟩
      | refine ⟨(by show (0 : Int) < _; decide), ?_⟩
      | refine ⟨rfl, ?_⟩
      | refine ⟨⟨_, rfl⟩, ?_⟩
      | refine ⟨_, rfl, rfl, trivial, ?_⟩
      | refine ⟨_, _, rfl, ?_⟩))
  refine ⟨st, n1, 10, rfl, s3, by omega, by decide, fun v H4 v0 v1 x4 s4 => ?_⟩
  have hN4 := x4.seqT hN
  have ecast : (1 : Int) + v = (((1 + v).toNat : Nat) : Int) := by omega
  refine ⟨_, _, rfl, rfl, ?_⟩
  refine ⟨st, nmA, n1 + 1, ns, (1 + v).toNat, by rw [← ecast]; rfl, s4, by omega, hN4, hno, by omega, by omega, by omega, fun p t a n5 H5 x5 s5 hn5 hd hp hra hal => ?_⟩
  have hN5 := x5.seqT hN4
  have hns9 : ∀ n ∈ ns, n ∈ menu9 := fun n h => menu_9 (hno.1 n h)
  have htbU := tabN_UT hns9
  have hrU : ∀ r ∈ a, r ∈ UT := fun r h => htbU r (hra r h)
  have ha10 : a.length ≤ 10 := by omega
  obtain ⟨hd0, es, rfl, _⟩ := pr_open hp hrU
  obtain ⟨hms, _⟩ := pr_bd hp hrU
  have hwl := pr_short hp hrU
  have htr := pr_tr hp
  have hsh : Sh 10 (.tuple (.str hd0 :: es)) := sh_le (pr_sh hp (by omega)) ha10
  have hcn := pr_cnt hp
  (repeat (first
      | refine ⟨_, rfl, ?_⟩
      | refine ⟨_, _, rfl, rfl, ?_⟩
      | refine Or.inl ⟨_, rfl, ?_⟩
      | refine Or.inr ⟨_, rfl, ?_⟩
      | refine ⟨Or.inl ⟨by decide, by decide⟩, ?_⟩
      | refine ⟨Or.inr ⟨by decide, by decide⟩, ?_⟩
      | refine ⟨⟨by decide, by decide⟩, ?_⟩
      | refine ⟨⟨by decide, by decide, by decide⟩, ?_⟩
      | refine ⟨by decide, ?_⟩
      | refine ⟨(by show (0 : Int) < _; decide), ?_⟩
      | refine ⟨rfl, ?_⟩
      | refine ⟨⟨_, rfl⟩, ?_⟩
      | refine ⟨_, rfl, rfl, trivial, ?_⟩
      | refine ⟨_, _, rfl, ?_⟩))
  refine ⟨p, _, a, rfl, hd, hp, hrU, ha10, by decide, fun H6 s6 => ?_⟩
  have hd6 := Dp.same s6 hd
  have hN6 := My.Same.sqT s6 hN5
  (repeat (first
      | refine ⟨_, rfl, ?_⟩
      | refine ⟨_, _, rfl, rfl, ?_⟩
      | refine Or.inl ⟨_, rfl, ?_⟩
      | refine Or.inr ⟨_, rfl, ?_⟩
      | refine ⟨Or.inl ⟨by decide, by decide⟩, ?_⟩
      | refine ⟨Or.inr ⟨by decide, by decide⟩, ?_⟩
      | refine ⟨⟨by decide, by decide⟩, ?_⟩
      | refine ⟨⟨by decide, by decide, by decide⟩, ?_⟩
      | refine ⟨by decide, ?_⟩
      | refine ⟨(by show (0 : Int) < _; decide), ?_⟩
      | refine ⟨rfl, ?_⟩
      | refine ⟨⟨_, rfl⟩, ?_⟩
      | refine ⟨_, rfl, rfl, trivial, ?_⟩
      | refine ⟨_, _, rfl, ?_⟩))
  refine ⟨.ref p, _, rfl, hd6, htr, by omega, by omega, fun H7 s7 => ?_⟩
  have hd7 := Dp.same s7 hd6
  have hN7 := My.Same.sqT s7 hN6
  (repeat (first
      | refine ⟨_, rfl, ?_⟩
      | refine ⟨_, _, rfl, rfl, ?_⟩
      | refine Or.inl ⟨_, rfl, ?_⟩
      | refine Or.inr ⟨_, rfl, ?_⟩
      | refine ⟨Or.inl ⟨by decide, by decide⟩, ?_⟩
      | refine ⟨Or.inr ⟨by decide, by decide⟩, ?_⟩
      | refine ⟨⟨by decide, by decide⟩, ?_⟩
      | refine ⟨⟨by decide, by decide, by decide⟩, ?_⟩
      | refine ⟨by decide, ?_⟩
      | refine ⟨(by show (0 : Int) < _; decide), ?_⟩
      | refine ⟨rfl, ?_⟩
      | refine ⟨⟨_, rfl⟩, ?_⟩
      | refine ⟨_, rfl, rfl, trivial, ?_⟩
      | refine ⟨_, _, rfl, ?_⟩))
  refine ⟨_, _, .str _, rfl, .str _, .str _, True.intro, ?_⟩
  (repeat (first
      | refine ⟨_, rfl, ?_⟩
      | refine ⟨_, _, rfl, rfl, ?_⟩
      | refine Or.inl ⟨_, rfl, ?_⟩
      | refine Or.inr ⟨_, rfl, ?_⟩
      | refine ⟨Or.inl ⟨by decide, by decide⟩, ?_⟩
      | refine ⟨Or.inr ⟨by decide, by decide⟩, ?_⟩
      | refine ⟨⟨by decide, by decide⟩, ?_⟩
      | refine ⟨⟨by decide, by decide, by decide⟩, ?_⟩
      | refine ⟨by decide, ?_⟩
      | refine ⟨(by show (0 : Int) < _; decide), ?_⟩
      | refine ⟨rfl, ?_⟩
      | refine ⟨⟨_, rfl⟩, ?_⟩
      | refine ⟨_, rfl, rfl, trivial, ?_⟩
      | refine ⟨_, _, rfl, ?_⟩))
  have hlns : ns.length ≤ 100 := Nat.le_trans hno.2.2 (by decide)
  have hnl : ∀ n ∈ ns, n.length ≤ 100 := fun n h => menu_len n (hns9 n h)
  refine ⟨S (wr (.tuple (.str hd0 :: es))), nmA, ns, some a, rfl, by rw [S_len]; omega, hN7, hlns, hnl, by rw [tl_S]; exact sc_self htbU hp hra, fun t' e H8 v8 s8 hd8 htr8 => ?_, fun e => by rw [tl_S, rd_self hp] at e; cases e⟩
  rw [tl_S, rd_self hp] at e
  cases e
  have hd8' := Dp.same s8 hd7
  have hN8 := My.Same.sqT s8 hN7
  (repeat (first
      | refine ⟨_, rfl, ?_⟩
      | refine ⟨_, _, rfl, rfl, ?_⟩
      | refine Or.inl ⟨_, rfl, ?_⟩
      | refine Or.inr ⟨_, rfl, ?_⟩
      | refine ⟨Or.inl ⟨by decide, by decide⟩, ?_⟩
      | refine ⟨Or.inr ⟨by decide, by decide⟩, ?_⟩
      | refine ⟨⟨by decide, by decide⟩, ?_⟩
      | refine ⟨⟨by decide, by decide, by decide⟩, ?_⟩
      | refine ⟨by decide, ?_⟩
      | refine ⟨(by show (0 : Int) < _; decide), ?_⟩
      | refine ⟨rfl, ?_⟩
      | refine ⟨⟨_, rfl⟩, ?_⟩
      | refine ⟨_, rfl, rfl, trivial, ?_⟩
      | refine ⟨_, _, rfl, ?_⟩))
  refine ⟨v8, .ref p, _, rfl, hd8, hd8', hsh, ?_⟩
  (repeat (first
      | refine ⟨_, rfl, ?_⟩
      | refine ⟨_, _, rfl, rfl, ?_⟩
      | refine Or.inl ⟨_, rfl, ?_⟩
      | refine Or.inr ⟨_, rfl, ?_⟩
      | refine ⟨Or.inl ⟨by decide, by decide⟩, ?_⟩
      | refine ⟨Or.inr ⟨by decide, by decide⟩, ?_⟩
      | refine ⟨⟨by decide, by decide⟩, ?_⟩
      | refine ⟨⟨by decide, by decide, by decide⟩, ?_⟩
      | refine ⟨by decide, ?_⟩
      | refine ⟨(by show (0 : Int) < _; decide), ?_⟩
      | refine ⟨rfl, ?_⟩
      | refine ⟨⟨_, rfl⟩, ?_⟩
      | refine ⟨_, rfl, rfl, trivial, ?_⟩
      | refine ⟨_, _, rfl, ?_⟩))
  refine ⟨p, _, rfl, hd8', htr, by omega, by omega, fun H9 s9 => ?_⟩
  have hd9 := Dp.same s9 hd8'
  have hN9 := My.Same.sqT s9 hN8
  (repeat (first
      | refine ⟨_, rfl, ?_⟩
      | refine ⟨_, _, rfl, rfl, ?_⟩
      | refine Or.inl ⟨_, rfl, ?_⟩
      | refine Or.inr ⟨_, rfl, ?_⟩
      | refine ⟨Or.inl ⟨by decide, by decide⟩, ?_⟩
      | refine ⟨Or.inr ⟨by decide, by decide⟩, ?_⟩
      | refine ⟨⟨by decide, by decide⟩, ?_⟩
      | refine ⟨⟨by decide, by decide, by decide⟩, ?_⟩
      | refine ⟨by decide, ?_⟩
      | refine ⟨(by show (0 : Int) < _; decide), ?_⟩
      | refine ⟨rfl, ?_⟩
      | refine ⟨⟨_, rfl⟩, ?_⟩
      | refine ⟨_, rfl, rfl, trivial, ?_⟩
      | refine ⟨_, _, rfl, ?_⟩))
  refine ⟨p, _, a, rfl, hd9, hp, hrU, ha10, by decide, fun H10 s10 => ?_⟩
  have hd10 := Dp.same s10 hd9
  have hN10 := My.Same.sqT s10 hN9
  refine ⟨_, _, .int _, rfl, .int _, .int _, True.intro, ?_⟩
  (repeat (first
      | refine ⟨_, rfl, ?_⟩
      | refine ⟨_, _, rfl, rfl, ?_⟩
      | refine Or.inl ⟨_, rfl, ?_⟩
      | refine Or.inr ⟨_, rfl, ?_⟩
      | refine ⟨Or.inl ⟨by decide, by decide⟩, ?_⟩
      | refine ⟨Or.inr ⟨by decide, by decide⟩, ?_⟩
      | refine ⟨⟨by decide, by decide⟩, ?_⟩
      | refine ⟨⟨by decide, by decide, by decide⟩, ?_⟩
      | refine ⟨by decide, ?_⟩
      | refine ⟨(by show (0 : Int) < _; decide), ?_⟩
      | refine ⟨rfl, ?_⟩
      | refine ⟨⟨_, rfl⟩, ?_⟩
      | refine ⟨_, rfl, rfl, trivial, ?_⟩
      | refine ⟨_, _, rfl, ?_⟩))
  refine ⟨p, _, a, rfl, hd10, hp, hrU, ha10, by decide, fun H11 s11 => ?_⟩
  have hd11 := Dp.same s11 hd10
  have hN11 := My.Same.sqT s11 hN10
  have hnm := pr_nm hp
  (repeat (first
      | refine ⟨_, rfl, ?_⟩
      | refine ⟨_, _, rfl, rfl, ?_⟩
      | refine Or.inl ⟨_, rfl, ?_⟩
      | refine Or.inr ⟨_, rfl, ?_⟩
      | refine ⟨Or.inl ⟨by decide, by decide⟩, ?_⟩
      | refine ⟨Or.inr ⟨by decide, by decide⟩, ?_⟩
      | refine ⟨⟨by decide, by decide⟩, ?_⟩
      | refine ⟨⟨by decide, by decide, by decide⟩, ?_⟩
      | refine ⟨by decide, ?_⟩
      | refine ⟨(by show (0 : Int) < _; decide), ?_⟩
      | refine ⟨rfl, ?_⟩
      | refine ⟨⟨_, rfl⟩, ?_⟩
      | refine ⟨_, rfl, rfl, trivial, ?_⟩
      | refine ⟨_, _, rfl, ?_⟩))
  refine ite_b (fun cn => ?_) (fun cn => ?_)
  · rw [cn] at hnm
    have hbad : ∃ r ∈ a, r ∉ tabN oth := by
      obtain ⟨r, hr1, hr2⟩ := List.any_eq_true.mp hnm.symm
      exact ⟨r, hr1, row_named hno.1 (hra r hr1) hr2⟩
    (repeat (first
      | refine ⟨_, rfl, ?_⟩
      | refine ⟨_, _, rfl, rfl, ?_⟩
      | refine Or.inl ⟨_, rfl, ?_⟩
      | refine Or.inr ⟨_, rfl, ?_⟩
      | refine ⟨Or.inl ⟨by decide, by decide⟩, ?_⟩
      | refine ⟨Or.inr ⟨by decide, by decide⟩, ?_⟩
      | refine ⟨⟨by decide, by decide⟩, ?_⟩
      | refine ⟨⟨by decide, by decide, by decide⟩, ?_⟩
      | refine ⟨by decide, ?_⟩
      | refine ⟨(by show (0 : Int) < _; decide), ?_⟩
      | refine ⟨rfl, ?_⟩
      | refine ⟨⟨_, rfl⟩, ?_⟩
      | refine ⟨_, rfl, rfl, trivial, ?_⟩
      | refine ⟨_, _, rfl, ?_⟩))
    refine fun q1 hq1 => ?_
    refine ⟨S (wr (.tuple (.str hd0 :: es))), q1, oth, none, rfl, by rw [S_len]; omega, SqT.of upd_same, by decide, fun n h => menu_len n (oth_9 h), by rw [tl_S]; exact sc_none (tabN_UT fun n h => oth_9 h) hp hbad, (fun t' e => by cases e), fun _ H12 s12 => ?_⟩
    have hd12 := Dp.same ((same_upd hq1).trans s12) hd11
    have hN12 := My.Same.sqT ((same_upd hq1).trans s12) hN11
    (repeat (first
      | refine ⟨_, rfl, ?_⟩
      | refine ⟨_, _, rfl, rfl, ?_⟩
      | refine Or.inl ⟨_, rfl, ?_⟩
      | refine Or.inr ⟨_, rfl, ?_⟩
      | refine ⟨Or.inl ⟨by decide, by decide⟩, ?_⟩
      | refine ⟨Or.inr ⟨by decide, by decide⟩, ?_⟩
      | refine ⟨⟨by decide, by decide⟩, ?_⟩
      | refine ⟨⟨by decide, by decide, by decide⟩, ?_⟩
      | refine ⟨by decide, ?_⟩
      | refine ⟨(by show (0 : Int) < _; decide), ?_⟩
      | refine ⟨rfl, ?_⟩
      | refine ⟨⟨_, rfl⟩, ?_⟩
      | refine ⟨_, rfl, rfl, trivial, ?_⟩
      | refine ⟨_, _, rfl, ?_⟩))
    refine ⟨.non, .non, .none, rfl, .non, .non, True.intro, ?_⟩
    (repeat (first
      | refine ⟨_, rfl, ?_⟩
      | refine ⟨_, _, rfl, rfl, ?_⟩
      | refine Or.inl ⟨_, rfl, ?_⟩
      | refine Or.inr ⟨_, rfl, ?_⟩
      | refine ⟨Or.inl ⟨by decide, by decide⟩, ?_⟩
      | refine ⟨Or.inr ⟨by decide, by decide⟩, ?_⟩
      | refine ⟨⟨by decide, by decide⟩, ?_⟩
      | refine ⟨⟨by decide, by decide, by decide⟩, ?_⟩
      | refine ⟨by decide, ?_⟩
      | refine ⟨(by show (0 : Int) < _; decide), ?_⟩
      | refine ⟨rfl, ?_⟩
      | refine ⟨⟨_, rfl⟩, ?_⟩
      | refine ⟨_, rfl, rfl, trivial, ?_⟩
      | refine ⟨_, _, rfl, ?_⟩))
    refine ⟨S (wr (.tuple (.str hd0 :: es))), nmA, ns, some a, rfl, by rw [S_len]; omega, hN12, hlns, hnl, by rw [tl_S]; exact sc_self htbU hp hra, fun t' e H13 v13 s13 hd13 htr13 => ?_, fun e => by rw [tl_S, rd_self hp] at e; cases e⟩
    rw [tl_S, rd_self hp] at e
    cases e
    (repeat (first
      | refine ⟨_, rfl, ?_⟩
      | refine ⟨_, _, rfl, rfl, ?_⟩
      | refine Or.inl ⟨_, rfl, ?_⟩
      | refine Or.inr ⟨_, rfl, ?_⟩
      | refine ⟨Or.inl ⟨by decide, by decide⟩, ?_⟩
      | refine ⟨Or.inr ⟨by decide, by decide⟩, ?_⟩
      | refine ⟨⟨by decide, by decide⟩, ?_⟩
      | refine ⟨⟨by decide, by decide, by decide⟩, ?_⟩
      | refine ⟨by decide, ?_⟩
      | refine ⟨(by show (0 : Int) < _; decide), ?_⟩
      | refine ⟨rfl, ?_⟩
      | refine ⟨⟨_, rfl⟩, ?_⟩
      | refine ⟨_, rfl, rfl, trivial, ?_⟩
      | refine ⟨_, _, rfl, ?_⟩))
    refine ⟨v13, .ref p, _, rfl, hd13, Dp.same s13 hd12, hsh, ?_⟩
    exact q _
  · rw [cn] at hnm
    have hgood : ∀ r ∈ a, r ∈ tabN oth := fun r hr1 => tabN_tab0 (row_plain (hrU r hr1) (by
      have h := List.any_eq_false.mp hnm.symm r hr1
      simpa using h))
    refine ⟨_, rfl, ?_⟩
    (repeat (first
      | refine ⟨_, rfl, ?_⟩
      | refine ⟨_, _, rfl, rfl, ?_⟩
      | refine Or.inl ⟨_, rfl, ?_⟩
      | refine Or.inr ⟨_, rfl, ?_⟩
      | refine ⟨Or.inl ⟨by decide, by decide⟩, ?_⟩
      | refine ⟨Or.inr ⟨by decide, by decide⟩, ?_⟩
      | refine ⟨⟨by decide, by decide⟩, ?_⟩
      | refine ⟨⟨by decide, by decide, by decide⟩, ?_⟩
      | refine ⟨by decide, ?_⟩
      | refine ⟨(by show (0 : Int) < _; decide), ?_⟩
      | refine ⟨rfl, ?_⟩
      | refine ⟨⟨_, rfl⟩, ?_⟩
      | refine ⟨_, rfl, rfl, trivial, ?_⟩
      | refine ⟨_, _, rfl, ?_⟩))
    refine fun q1 hq1 => ?_
    refine ⟨S (wr (.tuple (.str hd0 :: es))), q1, oth, some a, rfl, by rw [S_len]; omega, SqT.of upd_same, by decide, fun n h => menu_len n (oth_9 h), by rw [tl_S]; exact sc_self (tabN_UT fun n h => oth_9 h) hp hgood, fun t' e H12 v12 s12 hdv12 htr12 => ?_, fun e => by rw [tl_S, rd_self hp] at e; cases e⟩
    rw [tl_S, rd_self hp] at e
    cases e
    have hd12 := Dp.same ((same_upd hq1).trans s12) hd11
    have hN12 := My.Same.sqT ((same_upd hq1).trans s12) hN11
    (repeat (first
      | refine ⟨_, rfl, ?_⟩
      | refine ⟨_, _, rfl, rfl, ?_⟩
      | refine Or.inl ⟨_, rfl, ?_⟩
      | refine Or.inr ⟨_, rfl, ?_⟩
      | refine ⟨Or.inl ⟨by decide, by decide⟩, ?_⟩
      | refine ⟨Or.inr ⟨by decide, by decide⟩, ?_⟩
      | refine ⟨⟨by decide, by decide⟩, ?_⟩
      | refine ⟨⟨by decide, by decide, by decide⟩, ?_⟩
      | refine ⟨by decide, ?_⟩
      | refine ⟨(by show (0 : Int) < _; decide), ?_⟩
      | refine ⟨rfl, ?_⟩
      | refine ⟨⟨_, rfl⟩, ?_⟩
      | refine ⟨_, rfl, rfl, trivial, ?_⟩
      | refine ⟨_, _, rfl, ?_⟩))
    refine ⟨v12, .ref p, _, rfl, hdv12, hd12, hsh, ?_⟩
    (repeat (first
      | refine ⟨_, rfl, ?_⟩
      | refine ⟨_, _, rfl, rfl, ?_⟩
      | refine Or.inl ⟨_, rfl, ?_⟩
      | refine Or.inr ⟨_, rfl, ?_⟩
      | refine ⟨Or.inl ⟨by decide, by decide⟩, ?_⟩
      | refine ⟨Or.inr ⟨by decide, by decide⟩, ?_⟩
      | refine ⟨⟨by decide, by decide⟩, ?_⟩
      | refine ⟨⟨by decide, by decide, by decide⟩, ?_⟩
      | refine ⟨by decide, ?_⟩
      | refine ⟨(by show (0 : Int) < _; decide), ?_⟩
      | refine ⟨rfl, ?_⟩
      | refine ⟨⟨_, rfl⟩, ?_⟩
      | refine ⟨_, rfl, rfl, trivial, ?_⟩
      | refine ⟨_, _, rfl, ?_⟩))
    refine ⟨S (wr (.tuple (.str hd0 :: es))), nmA, ns, some a, rfl, by rw [S_len]; omega, hN12, hlns, hnl, by rw [tl_S]; exact sc_self htbU hp hra, fun t' e H13 v13 s13 hd13 htr13 => ?_, fun e => by rw [tl_S, rd_self hp] at e; cases e⟩
    rw [tl_S, rd_self hp] at e
    cases e
    (repeat (first
      | refine ⟨_, rfl, ?_⟩
      | refine ⟨_, _, rfl, rfl, ?_⟩
      | refine Or.inl ⟨_, rfl, ?_⟩
      | refine Or.inr ⟨_, rfl, ?_⟩
      | refine ⟨Or.inl ⟨by decide, by decide⟩, ?_⟩
      | refine ⟨Or.inr ⟨by decide, by decide⟩, ?_⟩
      | refine ⟨⟨by decide, by decide⟩, ?_⟩
      | refine ⟨⟨by decide, by decide, by decide⟩, ?_⟩
      | refine ⟨by decide, ?_⟩
      | refine ⟨(by show (0 : Int) < _; decide), ?_⟩
      | refine ⟨rfl, ?_⟩
      | refine ⟨⟨_, rfl⟩, ?_⟩
      | refine ⟨_, rfl, rfl, trivial, ?_⟩
      | refine ⟨_, _, rfl, ?_⟩))
    refine ⟨v13, .ref p, _, rfl, hd13, Dp.same s13 hd12, hsh, ?_⟩
    exact q _
end
end My

namespace My
open PySem PySem.Spec PyProof.Rows L2
theorem all_mk {l : PySem.W.OpenLaw} {w : World} {K : PySem.W.Frag} {h : Heap} {mg : Str → Option Value} {fa f0 f1 f2 f3 f4 f5 f6 f7 f8 f9 f10 f11 f12 f13 f14 f15 f16 f17 f18 f19 : Addr} (X : K.In h) (G : h.Ns mainGlobals mg) (hfa : mg "law" = some (.ref fa))
    {od0 an0 od1 an1 od2 an2 od3 an3 od4 an4 od5 an5 od6 an6 od7 an7 od8 an8 od9 an9 od10 an10 od11 an11 od12 an12 od13 an13 od14 an14 od15 an15 od16 an16 od17 an17 od18 an18 od19 an19 : Option Addr} {sl0 sl1 sl2 sl3 sl4 sl5 sl6 sl7 sl8 sl9 sl10 sl11 sl12 sl13 sl14 sl15 sl16 sl17 sl18 sl19 : Array (Option Value)} {oc0 kV0 dc0 pm0 cd0 ct0 oc1 kV1 dc1 pm1 cd1 ct1 oc2 kV2 dc2 pm2 cd2 ct2 oc3 kV3 dc3 pm3 cd3 ct3 oc4 kV4 dc4 pm4 cd4 ct4 oc5 kV5 dc5 pm5 cd5 ct5 oc6 kV6 dc6 pm6 cd6 ct6 oc7 kV7 dc7 pm7 cd7 ct7 oc8 kV8 dc8 pm8 cd8 ct8 oc9 kV9 dc9 pm9 cd9 ct9 oc10 kV10 dc10 pm10 cd10 ct10 oc11 kV11 dc11 pm11 cd11 ct11 oc12 kV12 dc12 pm12 cd12 ct12 oc13 kV13 dc13 pm13 cd13 ct13 oc14 kV14 dc14 pm14 cd14 ct14 oc15 kV15 dc15 pm15 cd15 ct15 oc16 kV16 dc16 pm16 cd16 ct16 oc17 kV17 dc17 pm17 cd17 ct17 oc18 kV18 dc18 pm18 cd18 ct18 oc19 kV19 dc19 pm19 cd19 ct19 : Value}
    (a0 : PySem.W.nsIn K mainGlobals "_law_draw" = some (some (.ref f0))) (l0 : K.lookup f0 = some ⟨oc0, od0, .func (PySem.W.fnOf "_law_draw" "_law_draw" (defArgs s_law_draw) (defBody s_law_draw) (defScope s_law_draw) .none kV0 dc0 pm0 an0 cd0 ct0), sl0⟩) (c0 : PySem.W.codeIn K cd0 "_law_draw" = true) (k0 : PySem.W.keepIn K (.ref f0) = true)
    (a1 : PySem.W.nsIn K mainGlobals "_law_take" = some (some (.ref f1))) (l1 : K.lookup f1 = some ⟨oc1, od1, .func (PySem.W.fnOf "_law_take" "_law_take" (defArgs s_law_take) (defBody s_law_take) (defScope s_law_take) .none kV1 dc1 pm1 an1 cd1 ct1), sl1⟩) (c1 : PySem.W.codeIn K cd1 "_law_take" = true) (k1 : PySem.W.keepIn K (.ref f1) = true)
    (a2 : PySem.W.nsIn K mainGlobals "_law_names" = some (some (.ref f2))) (l2 : K.lookup f2 = some ⟨oc2, od2, .func (PySem.W.fnOf "_law_names" "_law_names" (defArgs s_law_names) (defBody s_law_names) (defScope s_law_names) .none kV2 dc2 pm2 an2 cd2 ct2), sl2⟩) (c2 : PySem.W.codeIn K cd2 "_law_names" = true) (k2 : PySem.W.keepIn K (.ref f2) = true)
    (a3 : PySem.W.nsIn K mainGlobals "_law_leaf" = some (some (.ref f3))) (l3 : K.lookup f3 = some ⟨oc3, od3, .func (PySem.W.fnOf "_law_leaf" "_law_leaf" (defArgs s_law_leaf) (defBody s_law_leaf) (defScope s_law_leaf) .none kV3 dc3 pm3 an3 cd3 ct3), sl3⟩) (c3 : PySem.W.codeIn K cd3 "_law_leaf" = true) (k3 : PySem.W.keepIn K (.ref f3) = true)
    (a4 : PySem.W.nsIn K mainGlobals "_law_tree" = some (some (.ref f4))) (l4 : K.lookup f4 = some ⟨oc4, od4, .func (PySem.W.fnOf "_law_tree" "_law_tree" (defArgs s_law_tree) (defBody s_law_tree) (defScope s_law_tree) .none kV4 dc4 pm4 an4 cd4 ct4), sl4⟩) (c4 : PySem.W.codeIn K cd4 "_law_tree" = true) (k4 : PySem.W.keepIn K (.ref f4) = true)
    (a5 : PySem.W.nsIn K mainGlobals "_law_text" = some (some (.ref f5))) (l5 : K.lookup f5 = some ⟨oc5, od5, .func (PySem.W.fnOf "_law_text" "_law_text" (defArgs s_law_text) (defBody s_law_text) (defScope s_law_text) .none kV5 dc5 pm5 an5 cd5 ct5), sl5⟩) (c5 : PySem.W.codeIn K cd5 "_law_text" = true) (k5 : PySem.W.keepIn K (.ref f5) = true)
    (a6 : PySem.W.nsIn K mainGlobals "_law_named" = some (some (.ref f6))) (l6 : K.lookup f6 = some ⟨oc6, od6, .func (PySem.W.fnOf "_law_named" "_law_named" (defArgs s_law_named) (defBody s_law_named) (defScope s_law_named) .none kV6 dc6 pm6 an6 cd6 ct6), sl6⟩) (c6 : PySem.W.codeIn K cd6 "_law_named" = true) (k6 : PySem.W.keepIn K (.ref f6) = true)
    (a7 : PySem.W.nsIn K mainGlobals "_law_tape" = some (some (.ref f7))) (l7 : K.lookup f7 = some ⟨oc7, od7, .func (PySem.W.fnOf "_law_tape" "_law_tape" (defArgs s_law_tape) (defBody s_law_tape) (defScope s_law_tape) .none kV7 dc7 pm7 an7 cd7 ct7), sl7⟩) (c7 : PySem.W.codeIn K cd7 "_law_tape" = true) (k7 : PySem.W.keepIn K (.ref f7) = true)
    (a8 : PySem.W.nsIn K mainGlobals "_law_equal" = some (some (.ref f8))) (l8 : K.lookup f8 = some ⟨oc8, od8, .func (PySem.W.fnOf "_law_equal" "_law_equal" (defArgs s_law_equal) (defBody s_law_equal) (defScope s_law_equal) .none kV8 dc8 pm8 an8 cd8 ct8), sl8⟩) (c8 : PySem.W.codeIn K cd8 "_law_equal" = true) (k8 : PySem.W.keepIn K (.ref f8) = true)
    (a9 : PySem.W.nsIn K mainGlobals "questions_in" = some (some (.ref f9))) (l9 : K.lookup f9 = some ⟨oc9, od9, .func (PySem.W.fnOf "questions_in" "questions_in" (defArgs s_questions_in) (defBody s_questions_in) (defScope s_questions_in) .none kV9 dc9 pm9 an9 cd9 ct9), sl9⟩) (c9 : PySem.W.codeIn K cd9 "questions_in" = true) (k9 : PySem.W.keepIn K (.ref f9) = true)
    (a10 : PySem.W.nsIn K mainGlobals "parts" = some (some (.ref f10))) (l10 : K.lookup f10 = some ⟨oc10, od10, .func (PySem.W.fnOf "parts" "parts" (defArgs s_parts) (defBody s_parts) (defScope s_parts) .none kV10 dc10 pm10 an10 cd10 ct10), sl10⟩) (c10 : PySem.W.codeIn K cd10 "parts" = true) (k10 : PySem.W.keepIn K (.ref f10) = true)
    (a11 : PySem.W.nsIn K mainGlobals "_law_parts" = some (some (.ref f11))) (l11 : K.lookup f11 = some ⟨oc11, od11, .func (PySem.W.fnOf "_law_parts" "_law_parts" (defArgs s_law_parts) (defBody s_law_parts) (defScope s_law_parts) .none kV11 dc11 pm11 an11 cd11 ct11), sl11⟩) (c11 : PySem.W.codeIn K cd11 "_law_parts" = true) (k11 : PySem.W.keepIn K (.ref f11) = true)
    (a12 : PySem.W.nsIn K mainGlobals "_opening_at" = some (some (.ref f12))) (l12 : K.lookup f12 = some ⟨oc12, od12, .func (PySem.W.fnOf "_opening_at" "_opening_at" (defArgs s_opening_at) (defBody s_opening_at) (defScope s_opening_at) .none kV12 dc12 pm12 an12 cd12 ct12), sl12⟩) (c12 : PySem.W.codeIn K cd12 "_opening_at" = true) (k12 : PySem.W.keepIn K (.ref f12) = true)
    (a13 : PySem.W.nsIn K mainGlobals "_behind_marks" = some (some (.ref f13))) (l13 : K.lookup f13 = some ⟨oc13, od13, .func (PySem.W.fnOf "_behind_marks" "_behind_marks" (defArgs s_behind_marks) (defBody s_behind_marks) (defScope s_behind_marks) .none kV13 dc13 pm13 an13 cd13 ct13), sl13⟩) (c13 : PySem.W.codeIn K cd13 "_behind_marks" = true) (k13 : PySem.W.keepIn K (.ref f13) = true)
    (a14 : PySem.W.nsIn K mainGlobals "_forms_in_order" = some (some (.ref f14))) (l14 : K.lookup f14 = some ⟨oc14, od14, .func (PySem.W.fnOf "_forms_in_order" "_forms_in_order" (defArgs s_forms_in_order) (defBody s_forms_in_order) (defScope s_forms_in_order) .none kV14 dc14 pm14 an14 cd14 ct14), sl14⟩) (c14 : PySem.W.codeIn K cd14 "_forms_in_order" = true) (k14 : PySem.W.keepIn K (.ref f14) = true)
    (a15 : PySem.W.nsIn K mainGlobals "_tree_of" = some (some (.ref f15))) (l15 : K.lookup f15 = some ⟨oc15, od15, .func (PySem.W.fnOf "_tree_of" "_tree_of" (defArgs s_tree_of) (defBody s_tree_of) (defScope s_tree_of) .none kV15 dc15 pm15 an15 cd15 ct15), sl15⟩) (c15 : PySem.W.codeIn K cd15 "_tree_of" = true) (k15 : PySem.W.keepIn K (.ref f15) = true)
    (a16 : PySem.W.nsIn K mainGlobals "_items" = some (some (.ref f16))) (l16 : K.lookup f16 = some ⟨oc16, od16, .func (PySem.W.fnOf "_items" "_items" (defArgs s_items) (defBody s_items) (defScope s_items) .none kV16 dc16 pm16 an16 cd16 ct16), sl16⟩) (c16 : PySem.W.codeIn K cd16 "_items" = true) (k16 : PySem.W.keepIn K (.ref f16) = true)
    (a17 : PySem.W.nsIn K mainGlobals "write_question" = some (some (.ref f17))) (l17 : K.lookup f17 = some ⟨oc17, od17, .func (PySem.W.fnOf "write_question" "write_question" (defArgs s_write_question) (defBody s_write_question) (defScope s_write_question) .none kV17 dc17 pm17 an17 cd17 ct17), sl17⟩) (c17 : PySem.W.codeIn K cd17 "write_question" = true) (k17 : PySem.W.keepIn K (.ref f17) = true)
    (a18 : PySem.W.nsIn K mainGlobals "read_question" = some (some (.ref f18))) (l18 : K.lookup f18 = some ⟨oc18, od18, .func (PySem.W.fnOf "read_question" "read_question" (defArgs s_read_question) (defBody s_read_question) (defScope s_read_question) .none kV18 dc18 pm18 an18 cd18 ct18), sl18⟩) (c18 : PySem.W.codeIn K cd18 "read_question" = true) (k18 : PySem.W.keepIn K (.ref f18) = true)
    (a19 : PySem.W.nsIn K mainGlobals "law" = some (some (.ref f19))) (l19 : K.lookup f19 = some ⟨oc19, od19, .func (PySem.W.fnOf "law" "law" (defArgs s_law) (defBody s_law) (defScope s_law) .none kV19 dc19 pm19 an19 cd19 ct19), sl19⟩) (c19 : PySem.W.codeIn K cd19 "law" = true) (k19 : PySem.W.keepIn K (.ref f19) = true)
    (z0 : PySem.W.nsIn K mainGlobals "bool" = some none)
    (z1 : PySem.W.nsIn K mainGlobals "dict" = some none)
    (z2 : PySem.W.nsIn K mainGlobals "int" = some none)
    (z3 : PySem.W.nsIn K mainGlobals "isinstance" = some none)
    (z4 : PySem.W.nsIn K mainGlobals "len" = some none)
    (z5 : PySem.W.nsIn K mainGlobals "list" = some none)
    (z6 : PySem.W.nsIn K mainGlobals "range" = some none)
    (z7 : PySem.W.nsIn K mainGlobals "reversed" = some none)
    (z8 : PySem.W.nsIn K mainGlobals "str" = some none)
    (z9 : PySem.W.nsIn K mainGlobals "sum" = some none)
    (z10 : PySem.W.nsIn K mainGlobals "tuple" = some none)
    (x_op : OpenT K w.params)
    : ∃ fd : FuncData, (∀ (s : Shared) (v : Value), BindsTo s fd ⟨[v], []⟩ [("script", v)]) ∧ ∀ base : Heap, K.In base → base.Ns mainGlobals mg → FnOk l.prog w K mg base CX0 20 fa fd ["script"] (spLaw K) := by
  have e := hfa.symm.trans (PySem.W.mg_of X G a19)
  cases e
  have F0 := fun_mk (st := s_law_draw) l0 c0 k0
  have b0 := F0.binds (ps := ["tape", "at", "many"]) fun _ _ _ _ _ _ us hl => match us, hl with | [_, _, _], _ => rfl
  have F1 := fun_mk (st := s_law_take) l1 c1 k1
  have b1 := F1.binds (ps := ["state", "many"]) fun _ _ _ _ _ _ us hl => match us, hl with | [_, _], _ => rfl
  have F2 := fun_mk (st := s_law_names) l2 c2 k2
  have b2 := F2.binds (ps := ["state"]) fun _ _ _ _ _ _ us hl => match us, hl with | [_], _ => rfl
  have F3 := fun_mk (st := s_law_leaf) l3 c3 k3
  have b3 := F3.binds (ps := ["state", "names"]) fun _ _ _ _ _ _ us hl => match us, hl with | [_, _], _ => rfl
  have F4 := fun_mk (st := s_law_tree) l4 c4 k4
  have b4 := F4.binds (ps := ["state", "names", "room"]) fun _ _ _ _ _ _ us hl => match us, hl with | [_, _, _], _ => rfl
  have F5 := fun_mk (st := s_law_text) l5 c5 k5
  have b5 := F5.binds (ps := ["tree"]) fun _ _ _ _ _ _ us hl => match us, hl with | [_], _ => rfl
  have F6 := fun_mk (st := s_law_named) l6 c6 k6
  have b6 := F6.binds (ps := ["tree"]) fun _ _ _ _ _ _ us hl => match us, hl with | [_], _ => rfl
  have F7 := fun_mk (st := s_law_tape) l7 c7 k7
  have b7 := F7.binds (ps := ["script"]) fun _ _ _ _ _ _ us hl => match us, hl with | [_], _ => rfl
  have F8 := fun_mk (st := s_law_equal) l8 c8 k8
  have b8 := F8.binds (ps := ["actual", "due"]) fun _ _ _ _ _ _ us hl => match us, hl with | [_, _], _ => rfl
  have F9 := fun_mk (st := s_questions_in) l9 c9 k9
  have b9 := F9.binds (ps := ["tree"]) fun _ _ _ _ _ _ us hl => match us, hl with | [_], _ => rfl
  have F10 := fun_mk (st := s_parts) l10 c10 k10
  have b10 := F10.binds (ps := ["tree"]) fun _ _ _ _ _ _ us hl => match us, hl with | [_], _ => rfl
  have F11 := fun_mk (st := s_law_parts) l11 c11 k11
  have b11 := F11.binds (ps := ["tree"]) fun _ _ _ _ _ _ us hl => match us, hl with | [_], _ => rfl
  have F12 := fun_mk (st := s_opening_at) l12 c12 k12
  have b12 := F12.binds (ps := ["text", "at", "openings"]) fun _ _ _ _ _ _ us hl => match us, hl with | [_, _, _], _ => rfl
  have F13 := fun_mk (st := s_behind_marks) l13 c13 k13
  have b13 := F13.binds (ps := ["text", "at"]) fun _ _ _ _ _ _ us hl => match us, hl with | [_, _], _ => rfl
  have F14 := fun_mk (st := s_forms_in_order) l14 c14 k14
  have b14 := F14.binds (ps := ["text", "names"]) fun _ _ _ _ _ _ us hl => match us, hl with | [_, _], _ => rfl
  have F15 := fun_mk (st := s_tree_of) l15 c15 k15
  have b15 := F15.binds (ps := ["forms"]) fun _ _ _ _ _ _ us hl => match us, hl with | [_], _ => rfl
  have F16 := fun_mk (st := s_items) l16 c16 k16
  have b16 := F16.binds (ps := ["tree"]) fun _ _ _ _ _ _ us hl => match us, hl with | [_], _ => rfl
  have F17 := fun_mk (st := s_write_question) l17 c17 k17
  have b17 := F17.binds (ps := ["tree"]) fun _ _ _ _ _ _ us hl => match us, hl with | [_], _ => rfl
  have F18 := fun_mk (st := s_read_question) l18 c18 k18
  have b18 := F18.binds (ps := ["text", "names"]) fun _ _ _ _ _ _ us hl => match us, hl with | [_, _], _ => rfl
  have F19 := fun_mk (st := s_law) l19 c19 k19
  have b19 := F19.binds (ps := ["script"]) fun _ _ _ _ _ _ us hl => match us, hl with | [_], _ => rfl
  let T : Top K mg w := ⟨f0, _, F0, b0, PySem.W.mg_of X G a0, f1, _, F1, b1, PySem.W.mg_of X G a1, f2, _, F2, b2, PySem.W.mg_of X G a2, f3, _, F3, b3, PySem.W.mg_of X G a3, f4, _, F4, b4, PySem.W.mg_of X G a4, f5, _, F5, b5, PySem.W.mg_of X G a5, f6, _, F6, b6, PySem.W.mg_of X G a6, f7, _, F7, b7, PySem.W.mg_of X G a7, f8, _, F8, b8, PySem.W.mg_of X G a8, f9, _, F9, b9, PySem.W.mg_of X G a9, f10, _, F10, b10, PySem.W.mg_of X G a10, f11, _, F11, b11, PySem.W.mg_of X G a11, f12, _, F12, b12, PySem.W.mg_of X G a12, f13, _, F13, b13, PySem.W.mg_of X G a13, f14, _, F14, b14, PySem.W.mg_of X G a14, f15, _, F15, b15, PySem.W.mg_of X G a15, f16, _, F16, b16, PySem.W.mg_of X G a16, f17, _, F17, b17, PySem.W.mg_of X G a17, f18, _, F18, b18, PySem.W.mg_of X G a18, fa, _, F19, b19, PySem.W.mg_of X G a19, PySem.W.mg_none_of X G z0, PySem.W.mg_none_of X G z1, PySem.W.mg_none_of X G z2, PySem.W.mg_none_of X G z3, PySem.W.mg_none_of X G z4, PySem.W.mg_none_of X G z5, PySem.W.mg_none_of X G z6, PySem.W.mg_none_of X G z7, PySem.W.mg_none_of X G z8, PySem.W.mg_none_of X G z9, PySem.W.mg_none_of X G z10, (OpenT.m X G x_op)⟩
  refine ⟨PySem.W.fnOf "law" "law" (defArgs s_law) (defBody s_law) (defScope s_law) .none kV19 dc19 pm19 an19 cd19 ct19, fun s v => .of_eq rfl, fun base _ _ => ?_⟩
  exact ok_law (P := l.prog) (w := w) (base := base) T
theorem walk {l : PySem.W.OpenLaw} {q : Program} {loose : List Str} {XP : (Str → Option Value) → Heap → Prop} {YP : World → Heap → Prop} {d : DefRec} {K : Params → PySem.W.Frag} (hn : l.most = some 63) (hdf : d.params.defaults = [])
    (hY : ∀ (w : World) (h : Heap), YP w h → (K w.params).In h)
    (F : ∀ (w : World) (mg : Str → Option Value) (fa : Addr) (h : Heap), (K w.params).In h → h.Ns mainGlobals mg → mg d.name = some (.ref fa) →
      ∃ fd : FuncData, (∀ (s : Shared) (u : Value), BindsTo s fd ⟨[u], []⟩ [("script", u)]) ∧ ∀ base : Heap, (K w.params).In base → base.Ns mainGlobals mg → FnOk l.prog w (K w.params) mg base CX0 20 fa fd ["script"] (spLaw (K w.params))) :
    PySem.W.WalkO q loose XP YP l.row.toRowW d [] (fun f vs => PySem.call f vs) :=
  L2.walk_of (n := 63) (k := 20) (x := "script") (CX := fun _ => CX0) (sp := fun w => spLaw (K w.params)) hn (by decide) hdf ⟨rfl, by decide, by decide⟩ hY F (fun _ _ a ns hl _ hS => ⟨a, ns, rfl, hS, hl, fun _ => rfl⟩) fun _ _ _ _ _ z => z
end My
open PySem PySem.W PyProof.Rows
set_option maxRecDepth 100000 in
set_option maxHeartbeats 0 in
theorem PySem.Challenge.cw_keeproom_k03_questions_come_back_holds : PySem.Challenge.rw_keeproom_k03_questions_come_back.Holds := by
  w_on; o_law; k_head; (case hw => w_witness2)
  k_fill
  refine My.walk (l := PySem.Challenge.rw_keeproom_k03_questions_come_back) rfl rfl (fun w h Y => PySem.W.kIn_of Y) ?F
  case F =>
    intro w mg fa h KX G hmg
    refine' My.all_mk KX G hmg ?a0 ?l0 ?c0 ?k0 ?a1 ?l1 ?c1 ?k1 ?a2 ?l2 ?c2 ?k2 ?a3 ?l3 ?c3 ?k3 ?a4 ?l4 ?c4 ?k4 ?a5 ?l5 ?c5 ?k5 ?a6 ?l6 ?c6 ?k6 ?a7 ?l7 ?c7 ?k7 ?a8 ?l8 ?c8 ?k8 ?a9 ?l9 ?c9 ?k9 ?a10 ?l10 ?c10 ?k10 ?a11 ?l11 ?c11 ?k11 ?a12 ?l12 ?c12 ?k12 ?a13 ?l13 ?c13 ?k13 ?a14 ?l14 ?c14 ?k14 ?a15 ?l15 ?c15 ?k15 ?a16 ?l16 ?c16 ?k16 ?a17 ?l17 ?c17 ?k17 ?a18 ?l18 ?c18 ?k18 ?a19 ?l19 ?c19 ?k19 ?z0 ?z1 ?z2 ?z3 ?z4 ?z5 ?z6 ?z7 ?z8 ?z9 ?z10 ?x_op
    (case a0 => k_is)
    (case l0 => k_is)
    (case c0 => k_is)
    (case k0 => k_is)
    (case a1 => k_is)
    (case l1 => k_is)
    (case c1 => k_is)
    (case k1 => k_is)
    (case a2 => k_is)
    (case l2 => k_is)
    (case c2 => k_is)
    (case k2 => k_is)
    (case a3 => k_is)
    (case l3 => k_is)
    (case c3 => k_is)
    (case k3 => k_is)
    (case a4 => k_is)
    (case l4 => k_is)
    (case c4 => k_is)
    (case k4 => k_is)
    (case a5 => k_is)
    (case l5 => k_is)
    (case c5 => k_is)
    (case k5 => k_is)
    (case a6 => k_is)
    (case l6 => k_is)
    (case c6 => k_is)
    (case k6 => k_is)
    (case a7 => k_is)
    (case l7 => k_is)
    (case c7 => k_is)
    (case k7 => k_is)
    (case a8 => k_is)
    (case l8 => k_is)
    (case c8 => k_is)
    (case k8 => k_is)
    (case a9 => k_is)
    (case l9 => k_is)
    (case c9 => k_is)
    (case k9 => k_is)
    (case a10 => k_is)
    (case l10 => k_is)
    (case c10 => k_is)
    (case k10 => k_is)
    (case a11 => k_is)
    (case l11 => k_is)
    (case c11 => k_is)
    (case k11 => k_is)
    (case a12 => k_is)
    (case l12 => k_is)
    (case c12 => k_is)
    (case k12 => k_is)
    (case a13 => k_is)
    (case l13 => k_is)
    (case c13 => k_is)
    (case k13 => k_is)
    (case a14 => k_is)
    (case l14 => k_is)
    (case c14 => k_is)
    (case k14 => k_is)
    (case a15 => k_is)
    (case l15 => k_is)
    (case c15 => k_is)
    (case k15 => k_is)
    (case a16 => k_is)
    (case l16 => k_is)
    (case c16 => k_is)
    (case k16 => k_is)
    (case a17 => k_is)
    (case l17 => k_is)
    (case c17 => k_is)
    (case k17 => k_is)
    (case a18 => k_is)
    (case l18 => k_is)
    (case c18 => k_is)
    (case k18 => k_is)
    (case a19 => k_is)
    (case l19 => k_is)
    (case c19 => k_is)
    (case k19 => k_is)
    (case z0 => k_is)
    (case z1 => k_is)
    (case z2 => k_is)
    (case z3 => k_is)
    (case z4 => k_is)
    (case z5 => k_is)
    (case z6 => k_is)
    (case z7 => k_is)
    (case z8 => k_is)
    (case z9 => k_is)
    (case z10 => k_is)
    (case x_op => 
      refine' My.OpenT.mk ?h1 ?h2 ?h3 ?h4
      (case h1 => k_is)
      (case h2 => k_is)
      (case h3 => decide)
      (case h4 =>
        repeat' (first
          | exact Paired.nil
          | (refine' Paired.cons (My.Ent.mk ?e ?l ?vv ?l2 ?vv2 ?sz ?sz2 ?al) ?_
             (case l => k_is)
             (case vv => exact .cons rfl (.cons ⟨_, rfl⟩ .nil))
             (case l2 => k_is)
             (case sz => decide)
             (case sz2 => decide)
             (case e => rfl)
             (case al => intro H; first | exact .cons (.str _) .nil | exact .cons (.str _) (.cons (.int _) .nil) | exact .cons (.str _) (.cons (.int _) (.cons (.int _) .nil)))
             (case vv2 => first | exact .cons ⟨_, rfl⟩ .nil | exact .cons ⟨_, rfl⟩ (.cons ⟨_, rfl⟩ .nil) | exact .cons ⟨_, rfl⟩ (.cons ⟨_, rfl⟩ (.cons ⟨_, rfl⟩ .nil)))))))

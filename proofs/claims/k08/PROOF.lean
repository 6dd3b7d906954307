
import PyProof.Rows.All
import Wide.All
import OpenK.AllK
import Wide.FinOn
import HandS.ForMost
import HandS.IsInst
import HandS.Gcd
import HandS.Wide
import HandS.WideBits
import HandS.StrMore
import HandS.TupAny
import HandS.FStr
import HandS.Conv
import HandS.Deep
import HandS.Codes
import HandS.Style
import HandS.RaiseMore
import HandS.Steps
import HandS.Walk
import HandS.Zip
import HandS.Strs
import KE.KDictOf
import PyProof.Rows.StrOr
import PySem.Challenge.RW_keeproom_k08_whole_order_alone
set_option Elab.async false
set_option linter.all false
set_option maxRecDepth 100000
set_option maxHeartbeats 4000000

namespace My
open PySem PySem.Spec PyProof.Rows L2
/-! ### the written table of openings -/
abbrev Row := Str × List PyData × Nat
def sd (x : String) : PyData := .str (Str.ofString x)
def tab0 : List Row := [
  ("now", [sd "now"], 0), ("nothing", [sd "nothing"], 0), ("less(", [sd "less"], 2), ("same(", [sd "same"], 2), ("if(", [sd "if"], 3),
  ("last(", [sd "last"], 1), ("first(", [sd "first"], 1), ("before(", [sd "before"], 1), ("great(1,", [sd "great", .int 1], 1), ("great(2,", [sd "great", .int 2], 1),
  ("least(1,", [sd "least", .int 1], 1), ("least(2,", [sd "least", .int 2], 1), ("times(1,", [sd "times", .int 1], 1), ("times(2,", [sd "times", .int 2], 1), ("times(3,", [sd "times", .int 3], 1),
  ("circle(2,0,", [sd "circle", .int 2, .int 0], 1), ("circle(2,1,", [sd "circle", .int 2, .int 1], 1), ("circle(3,0,", [sd "circle", .int 3, .int 0], 1), ("circle(3,1,", [sd "circle", .int 3, .int 1], 1), ("circle(3,2,", [sd "circle", .int 3, .int 2], 1),
  ("since(", [sd "since"], 2), ("among(", [sd "among"], 2)]
def Ent (K : PySem.W.Frag) (P : Params) (e : DictEntry) (x : Row) : Prop :=
  (∃ t, e.key = .str x.1 t) ∧ e.hash = PyData.keyHash P x.1 ∧ ∃ p q, e.val = .ref p ∧ ∀ H, SqT K H p [.ref q, .int (x.2.2 : Int)] ∧ Dp K H (.ref q) (.tuple x.2.1)
def OpenT (K : PySem.W.Frag) (P : Params) : Prop := ∃ (d : Addr) (es : Array DictEntry) (n : Nat), PySem.W.nsIn K mainGlobals "OPENINGS" = some (some (.ref d)) ∧ K.lookup d = some ⟨.type "dict", none, .dict es n, #[]⟩ ∧ (d == sysModules) = false ∧ Paired (Ent K P) es.toList tab0
def OpenM (K : PySem.W.Frag) (mg : Str → Option Value) (P : Params) : Prop := ∃ (d : Addr) (es : Array DictEntry) (n : Nat), mg "OPENINGS" = some (.ref d) ∧ K.lookup d = some ⟨.type "dict", none, .dict es n, #[]⟩ ∧ (d == sysModules) = false ∧ Paired (Ent K P) es.toList tab0
theorem OpenT.m {K : PySem.W.Frag} {h : Heap} {mg : Str → Option Value} {P : Params} (X : K.In h) (G : h.Ns mainGlobals mg) (t : OpenT K P) : OpenM K mg P := by
  obtain ⟨d, es, n, h1, h2, h3, h4⟩ := t
  exact ⟨d, es, n, PySem.W.mg_of X G h1, h2, h3, h4⟩
theorem OpenT.mk {K : PySem.W.Frag} {P : Params} {d : Addr} {es : Array DictEntry} {n : Nat} (h1 : PySem.W.nsIn K mainGlobals "OPENINGS" = some (some (.ref d))) (h2 : K.lookup d = some ⟨.type "dict", none, .dict es n, #[]⟩) (h3 : (d == sysModules) = false) (h4 : Paired (Ent K P) es.toList tab0) : OpenT K P := ⟨d, es, n, h1, h2, h3, h4⟩
theorem Ent.mk {K : PySem.W.Frag} {P : Params} {k : Str} {fs : List PyData} {c : Nat} {t : Tok} {hs : Int} {p q : Addr} {o1 o2 : Option Addr} {sl1 sl2 : Array (Option Value)} {i1 i2 : List Value} {n1 n2 : Nat} {xs : List V}
    (hh : hs = PyData.keyHash P k) (l1 : K.lookup p = some ⟨.type "tuple", o1, .seq ⟨i1⟩ n1, sl1⟩) (v1 : Vals [.ref q, .int (c : Int)] i1) (l2 : K.lookup q = some ⟨.type "tuple", o2, .seq ⟨i2⟩ n2, sl2⟩) (v2 : Vals xs i2)
    (z1 : i1.length ≤ sizeLine) (z2 : i2.length ≤ sizeLine) (al : ∀ H, DpAll K H xs fs) : Ent K P ⟨hs, .str k t, .ref p⟩ (k, fs, c) :=
  ⟨⟨t, rfl⟩, hh, p, q, rfl, fun H => ⟨.inr ⟨_, _, _, l1, rfl, rfl, z1, v1⟩, .tup (.inr ⟨_, _, _, l2, rfl, rfl, z2, v2⟩) (al H)⟩⟩
end My
namespace My
open PySem PySem.Spec PyProof.Rows L2
def Rw (K : PySem.W.Frag) (kv : Key × V) (x : Row) : Prop := kv.1 = Sum.inr x.1 ∧ ∃ p q, kv.2 = .ref p ∧ ∀ H, SqT K H p [.ref q, .int (x.2.2 : Int)] ∧ Dp K H (.ref q) (.tuple x.2.1)
theorem ent_rows {K : PySem.W.Frag} {P : Program} {w : World} : ∀ {l : List DictEntry} {tab : List Row}, Paired (Ent K w.params) l tab →
    ∃ (vs : List (Key × Value)) (kvs : List (Key × V)), Pairs (mixKind P w) l vs ∧ KV kvs vs ∧ Paired (Rw K) kvs tab ∧ vs.map (·.1) = tab.map (fun x => Sum.inr x.1) ∧ ∀ e ∈ l, ∃ k, (mixKind P w).is k e.key = true ∧ e.hash = (mixKind P w).hash k
  | [], _, .nil => ⟨[], [], .nil, .nil, .nil, rfl, fun _ h => by cases h⟩
  | e :: l, x :: tab, .cons ⟨⟨t, ek⟩, eh, p, q, ev, hd⟩ r => by
    obtain ⟨vs, kvs, h1, h2, h3, h4, h5⟩ := ent_rows (P := P) (w := w) r
    have hk : (mixKind P w).is (Sum.inr x.1) e.key = true := by
      rw [ek]
      exact strKind_is P w x.1 t
    have hh : e.hash = (mixKind P w).hash (Sum.inr x.1) := by
      rw [eh]
      rfl
    refine ⟨(Sum.inr x.1, .ref p) :: vs, (Sum.inr x.1, .ref p) :: kvs, .cons hk ev h1, .cons ⟨rfl, rfl⟩ h2, .cons ⟨rfl, p, q, rfl, hd⟩ h3, ?_, ?_⟩
    · rw [List.map_cons, List.map_cons, h4]
    · intro e' he'
      rcases List.mem_cons.mp he' with rfl | h
      · exact ⟨_, hk, hh⟩
      · exact h5 e' h
theorem call_dictK {X : Cx} {d : Addr} {es : Array DictEntry} {n : Nat} (hl : X.K.lookup d = some ⟨.type "dict", none, .dict es n, #[]⟩) (lo : (d == sysModules) = false) (hE : Paired (Ent X.K X.w.params) es.toList tab0) :
    CallR X (.type "dict") (fun xs H Q => xs = [.ref d] ∧ ∀ p kvs, H p = none → Paired (Rw X.K) kvs tab0 → Q (.ref p) (upd H p (.dK kvs))) := by
  intro pins s σ H xs us Q I r q
  obtain ⟨ex, q⟩ := q
  subst ex
  obtain ⟨u, eu, rx⟩ := vals1 r
  subst eu
  cases rx
  obtain ⟨vs, kvs, h1, rel, h3, h4, h5⟩ := ent_rows (P := X.prog) (w := X.w) hE
  have dd : s.heap.DictOf (mixKind X.prog X.w) d vs := ⟨_, es, n, I.kIn _ _ hl, ⟨rfl, rfl, rfl⟩, rfl, fun e he => h5 e (Array.mem_toList_iff.mpr he), h1, by rw [h4]; decide +kernel⟩
  have ln : kvs.length = 22 := (Paired.length h3).trans rfl
  have z : kvs.length ≤ sizeLine := by rw [ln]; decide
  refine kt_call_dict lo dd (by rw [← rel.length]; exact z) fun h' d' hs => ?_
  have hm : (s.heap.objs.size == sysModules) = false := beq_eq_false_iff_ne.mpr (Nat.ne_of_gt I.big)
  exact ⟨.ref s.heap.objs.size, upd H s.heap.objs.size (.dK kvs), I.laid (t' := s.toks) (fun b u e => (hs.2 b (Nat.ne_of_lt (Heap.lt_size e))).trans (Heap.get?_push_of_some _ e)) (Nat.le_refl _)
    (show ObjOk X.prog X.w _ _ _ (.dK kvs) from ⟨z, hm, vs, rel, d'⟩), rfl, q _ _ (I.hok.fresh (Nat.le_refl _)) h3⟩
end My

namespace My
/-! ### mathematics of fractions -/
abbrev Q2 := Int × Int
def lt2 (x y : Q2) : Prop := x.1 * y.2 < y.1 * x.2
instance (x y : Q2) : Decidable (lt2 x y) := inferInstanceAs (Decidable (_ < _))
def ok2 (x : Q2) : Prop := 0 < x.2 ∧ Nat.gcd x.1.natAbs x.2.natAbs = 1
def bd2 (n : Nat) (x : Q2) : Prop := x.1.natAbs < 2 ^ n ∧ x.2.natAbs < 2 ^ n
theorem lt2_irr (x : Q2) : ¬ lt2 x x := Int.lt_irrefl _
theorem lt2_asymm {x y : Q2} (h : lt2 x y) : ¬ lt2 y x := fun q => by
  unfold lt2 at h q
  omega
theorem lt2_trans {x y z : Q2} (hx : 0 < x.2) (hy : 0 < y.2) (hz : 0 < z.2) (h : lt2 x y) (h' : lt2 y z) : lt2 x z := by
  unfold lt2 at *
  have a : x.1 * y.2 * z.2 < y.1 * x.2 * z.2 := Int.mul_lt_mul_of_pos_right h hz
  have b : y.1 * z.2 * x.2 < z.1 * y.2 * x.2 := Int.mul_lt_mul_of_pos_right h' hx
  have c : x.1 * z.2 * y.2 < z.1 * x.2 * y.2 := by
    have e1 : x.1 * z.2 * y.2 = x.1 * y.2 * z.2 := by grind
    have e2 : y.1 * z.2 * x.2 = y.1 * x.2 * z.2 := by grind
    have e3 : z.1 * y.2 * x.2 = z.1 * x.2 * y.2 := by grind
    omega
  exact Int.lt_of_mul_lt_mul_right c (Int.le_of_lt hy)
theorem eq2 {x y : Q2} (hx : ok2 x) (hy : ok2 y) (h : ¬ lt2 x y) (h' : ¬ lt2 y x) : x = y := by
  unfold lt2 at *
  have e : x.1 * y.2 = y.1 * x.2 := by omega
  obtain ⟨x1, x2⟩ := x
  obtain ⟨y1, y2⟩ := y
  obtain ⟨p, g⟩ := hx
  obtain ⟨p', g'⟩ := hy
  simp only at *
  have en : x1.natAbs * y2.natAbs = y1.natAbs * x2.natAbs := by rw [← Int.natAbs_mul, ← Int.natAbs_mul, e]
  have d1 : x2.natAbs ∣ y2.natAbs := Nat.Coprime.dvd_of_dvd_mul_left (k := x2.natAbs) (m := x1.natAbs) (n := y2.natAbs) (by rw [Nat.Coprime, Nat.gcd_comm]; exact g) ⟨y1.natAbs, by rw [en, Nat.mul_comm]⟩
  have d2 : y2.natAbs ∣ x2.natAbs := Nat.Coprime.dvd_of_dvd_mul_left (k := y2.natAbs) (m := y1.natAbs) (n := x2.natAbs) (by rw [Nat.Coprime, Nat.gcd_comm]; exact g') ⟨x1.natAbs, by rw [← en, Nat.mul_comm]⟩
  have e2 : x2.natAbs = y2.natAbs := Nat.dvd_antisymm d1 d2
  have e3 : x2 = y2 := by omega
  subst e3
  have e4 : x1 = y1 := Int.eq_of_mul_eq_mul_right (by omega) e
  rw [e4]
def red (t b : Int) : Q2 := (t / (Nat.gcd t.natAbs b.natAbs : Nat), b / (Nat.gcd t.natAbs b.natAbs : Nat))
theorem gcd_pos {t b : Int} (hb : 0 < b) : 0 < Nat.gcd t.natAbs b.natAbs := Nat.gcd_pos_of_pos_right _ (by omega)
theorem dvd_i {g : Nat} {t : Int} (h : g ∣ t.natAbs) : (g : Int) ∣ t := Int.ofNat_dvd_left.mpr h
theorem red_mul {t b : Int} : (red t b).1 * (Nat.gcd t.natAbs b.natAbs : Nat) = t ∧ (red t b).2 * (Nat.gcd t.natAbs b.natAbs : Nat) = b :=
  ⟨Int.ediv_mul_cancel (dvd_i (Nat.gcd_dvd_left _ _)), Int.ediv_mul_cancel (dvd_i (Nat.gcd_dvd_right _ _))⟩
theorem red_pos {t b : Int} (hb : 0 < b) : 0 < (red t b).2 := by
  have h := (red_mul (t := t) (b := b)).2
  have g : (0 : Int) < (Nat.gcd t.natAbs b.natAbs : Nat) := by exact_mod_cast gcd_pos hb
  refine Int.lt_of_not_ge fun q => ?_
  have h2 : (red t b).2 * (Nat.gcd t.natAbs b.natAbs : Nat) ≤ 0 := Int.mul_nonpos_of_nonpos_of_nonneg q (Int.le_of_lt g)
  omega
theorem red_ok {t b : Int} (hb : 0 < b) : ok2 (red t b) := by
  refine ⟨red_pos hb, ?_⟩
  have g := gcd_pos (t := t) hb
  have e1 : (red t b).1.natAbs = t.natAbs / Nat.gcd t.natAbs b.natAbs := by
    refine (Nat.div_eq_of_eq_mul_left g ?_).symm
    have h := (red_mul (t := t) (b := b)).1
    have h2 := congrArg Int.natAbs h
    rw [Int.natAbs_mul, Int.natAbs_natCast] at h2
    exact h2.symm
  have e2 : (red t b).2.natAbs = b.natAbs / Nat.gcd t.natAbs b.natAbs := by
    refine (Nat.div_eq_of_eq_mul_left g ?_).symm
    have h := (red_mul (t := t) (b := b)).2
    have h2 := congrArg Int.natAbs h
    rw [Int.natAbs_mul, Int.natAbs_natCast] at h2
    exact h2.symm
  rw [e1, e2]
  exact Nat.coprime_div_gcd_div_gcd g
theorem red_id {t b : Int} (h : Nat.gcd t.natAbs b.natAbs = 1) : red t b = (t, b) := by
  unfold red
  rw [h]
  simp
theorem red_bd {n : Nat} {t b : Int} (hb : 0 < b) (h1 : t.natAbs < 2 ^ n) (h2 : b.natAbs < 2 ^ n) : bd2 n (red t b) := by
  have g := gcd_pos (t := t) hb
  have a1 := congrArg Int.natAbs (red_mul (t := t) (b := b)).1
  have a2 := congrArg Int.natAbs (red_mul (t := t) (b := b)).2
  rw [Int.natAbs_mul, Int.natAbs_natCast] at a1 a2
  exact ⟨Nat.lt_of_le_of_lt (Nat.le_trans (Nat.le_mul_of_pos_right _ g) (Nat.le_of_eq a1)) h1, Nat.lt_of_le_of_lt (Nat.le_trans (Nat.le_mul_of_pos_right _ g) (Nat.le_of_eq a2)) h2⟩
theorem lt2_red_l {t b : Int} {y : Q2} (hb : 0 < b) : lt2 (red t b) y ↔ t * y.2 < y.1 * b := by
  obtain ⟨a1, a2⟩ := red_mul (t := t) (b := b)
  have g : (0 : Int) < (Nat.gcd t.natAbs b.natAbs : Nat) := by exact_mod_cast gcd_pos hb
  generalize hk : ((Nat.gcd t.natAbs b.natAbs : Nat) : Int) = k at *
  generalize red t b = r at *
  unfold lt2
  have e1 : t * y.2 = r.1 * y.2 * k := by rw [← a1]; grind
  have e2 : y.1 * b = y.1 * r.2 * k := by rw [← a2]; grind
  rw [e1, e2]
  exact (Int.mul_lt_mul_right g).symm
theorem lt2_red_r {t b : Int} {y : Q2} (hb : 0 < b) : lt2 y (red t b) ↔ y.1 * b < t * y.2 := by
  obtain ⟨a1, a2⟩ := red_mul (t := t) (b := b)
  have g : (0 : Int) < (Nat.gcd t.natAbs b.natAbs : Nat) := by exact_mod_cast gcd_pos hb
  generalize hk : ((Nat.gcd t.natAbs b.natAbs : Nat) : Int) = k at *
  generalize red t b = r at *
  unfold lt2
  have e1 : t * y.2 = r.1 * y.2 * k := by rw [← a1]; grind
  have e2 : y.1 * b = y.1 * r.2 * k := by rw [← a2]; grind
  rw [e1, e2]
  exact (Int.mul_lt_mul_right g).symm
/-! ### the position among sorted numbers -/
def Srt (xs : List Q2) : Prop := xs.Pairwise lt2 ∧ ∀ x ∈ xs, ok2 x
def rk (x : Q2) (xs : List Q2) : Nat := (xs.filter fun y => decide (lt2 y x)).length
def pos2 (x : Q2) (xs : List Q2) : Nat := if rk x xs < xs.length ∧ ¬ lt2 x (xs.getD (rk x xs) (0, 1)) then 2 * rk x xs + 1 else 2 * rk x xs
theorem rk_le (x : Q2) (xs : List Q2) : rk x xs ≤ xs.length := List.length_filter_le _ _
theorem rk_cut {x : Q2} : ∀ {xs : List Q2} {i : Nat}, i ≤ xs.length → (∀ j (h : j < xs.length), j < i → lt2 xs[j] x) → (∀ j (h : j < xs.length), i ≤ j → ¬ lt2 xs[j] x) → rk x xs = i
  | [], i, h, _, _ => by
    have e : i = 0 := Nat.le_zero.mp h
    subst e
    rfl
  | y :: r, 0, _, _, h2 => by
    have e : ¬ lt2 y x := h2 0 (Nat.zero_lt_succ _) (Nat.le_refl _)
    have ih := rk_cut (x := x) (xs := r) (i := 0) (Nat.zero_le _) (fun j _ q => absurd q (Nat.not_lt_zero _)) fun j hj _ => h2 (j + 1) (Nat.succ_lt_succ hj) (Nat.zero_le _)
    unfold rk at *
    rw [List.filter_cons_of_neg (by simpa using e)]
    exact ih
  | y :: r, i + 1, h, h1, h2 => by
    have e : lt2 y x := h1 0 (Nat.zero_lt_succ _) (Nat.zero_lt_succ _)
    have ih := rk_cut (x := x) (xs := r) (i := i) (Nat.le_of_succ_le_succ h) (fun j hj q => h1 (j + 1) (Nat.succ_lt_succ hj) (Nat.succ_lt_succ q)) fun j hj q => h2 (j + 1) (Nat.succ_lt_succ hj) (Nat.succ_le_succ q)
    unfold rk at *
    rw [List.filter_cons_of_pos (by simpa using e), List.length_cons, ih]
theorem Srt.lt {xs : List Q2} (s : Srt xs) {i j : Nat} (hi : i < xs.length) (hj : j < xs.length) (h : i < j) : lt2 xs[i] xs[j] := List.pairwise_iff_getElem.mp s.1 i j hi hj h
theorem Srt.ok {xs : List Q2} (s : Srt xs) {i : Nat} (hi : i < xs.length) : ok2 xs[i] := s.2 _ (List.getElem_mem hi)
/-- a sorted list falls in two parts -/
theorem Srt.cut {xs : List Q2} (s : Srt xs) {x : Q2} (hx : 0 < x.2) : ∃ i, i ≤ xs.length ∧ (∀ j (h : j < xs.length), j < i → lt2 xs[j] x) ∧ (∀ j (h : j < xs.length), i ≤ j → ¬ lt2 xs[j] x) := by
  induction xs with
  | nil => exact ⟨0, Nat.le_refl _, fun j h => absurd h (Nat.not_lt_zero _), fun j h => absurd h (Nat.not_lt_zero _)⟩
  | cons y r ih =>
    obtain ⟨i, h0, h1, h2⟩ := ih ⟨(List.pairwise_cons.mp s.1).2, fun z hz => s.2 z (List.mem_cons_of_mem _ hz)⟩
    by_cases e : lt2 y x
    · refine ⟨i + 1, Nat.succ_le_succ h0, fun j h q => ?_, fun j h q => ?_⟩
      · cases j with
        | zero => exact e
        | succ j => exact h1 j (Nat.lt_of_succ_lt_succ h) (Nat.lt_of_succ_lt_succ q)
      · cases j with
        | zero => exact absurd q (Nat.not_succ_le_zero _)
        | succ j => exact h2 j (Nat.lt_of_succ_lt_succ h) (Nat.le_of_succ_le_succ q)
    · refine ⟨0, Nat.zero_le _, fun j h q => absurd q (Nat.not_lt_zero _), fun j h _ => ?_⟩
      cases j with
      | zero => exact e
      | succ j =>
        intro q
        have hj : j < r.length := Nat.lt_of_succ_lt_succ h
        have a : lt2 y r[j] := (List.pairwise_cons.mp s.1).1 _ (List.getElem_mem hj)
        exact e (lt2_trans (s.2 y List.mem_cons_self).1 (s.2 _ (List.mem_cons_of_mem _ (List.getElem_mem hj))).1 hx a q)
theorem getD_at {xs : List Q2} {i : Nat} (h : i < xs.length) (d : Q2) : xs.getD i d = xs[i] := by
  rw [List.getD_eq_getElem?_getD, List.getElem?_eq_getElem h]
  rfl
/-- a number of the list stands at an odd position, another one at an even one -/
theorem pos2_in {xs : List Q2} (s : Srt xs) {x : Q2} (hx : ok2 x) : pos2 x xs = 2 * rk x xs + (if x ∈ xs then 1 else 0) := by
  obtain ⟨i, h0, h1, h2⟩ := s.cut hx.1
  have e := rk_cut h0 h1 h2
  unfold pos2
  rw [e]
  by_cases hm : x ∈ xs
  · obtain ⟨j, hj, ej⟩ := List.getElem_of_mem hm
    have a : ¬ j < i := fun q => lt2_irr x (by have := h1 j hj q; rw [ej] at this; exact this)
    have b : ¬ i < j := fun q => h2 i (by omega) (Nat.le_refl _) (by have := s.lt (i := i) (j := j) (by omega) hj q; rw [ej] at this; exact this)
    have e2 : i = j := by omega
    subst e2
    rw [if_pos ⟨hj, by rw [getD_at hj, ej]; exact lt2_irr x⟩, if_pos hm]
  · rw [if_neg hm]
    by_cases hi : i < xs.length
    · have c : lt2 x xs[i] := by
        refine Decidable.byContradiction fun q => hm ?_
        have e3 := eq2 hx (s.ok hi) q (h2 i hi (Nat.le_refl _))
        rw [e3]
        exact List.getElem_mem hi
      rw [if_neg (by rw [getD_at hi]; exact fun q => q.2 c)]
      rfl
    · rw [if_neg (fun q => hi q.1)]
      rfl
theorem pos2_odd {xs : List Q2} (s : Srt xs) {i : Nat} (hi : i < xs.length) : pos2 xs[i] xs = 2 * i + 1 := by
  have e : rk xs[i] xs = i := rk_cut (Nat.le_of_lt hi) (fun j h q => s.lt h hi q) fun j h q => by
    by_cases e : i = j
    · subst e
      exact lt2_irr _
    · exact lt2_asymm (s.lt hi h (by omega))
  unfold pos2
  rw [e, if_pos ⟨hi, by rw [getD_at hi]; exact lt2_irr _⟩]
theorem pos2_even {xs : List Q2} (s : Srt xs) {x : Q2} (hx : 0 < x.2) {i : Nat} (hi : i ≤ xs.length) (h1 : ∀ (h : i - 1 < xs.length), 0 < i → lt2 xs[i - 1] x) (h2 : ∀ (h : i < xs.length), lt2 x xs[i]) : pos2 x xs = 2 * i := by
  have e : rk x xs = i := rk_cut hi (fun j h q => by
    have hl : i - 1 < xs.length := by omega
    have a := h1 hl (by omega)
    by_cases e : j = i - 1
    · subst e
      exact a
    · exact lt2_trans (s.ok h).1 (s.ok hl).1 hx (s.lt h hl (by omega)) a) fun j h q => by
    have hl : i < xs.length := by omega
    have a := h2 hl
    by_cases e : i = j
    · subst e
      exact lt2_asymm a
    · exact lt2_asymm (lt2_trans hx (s.ok hl).1 (s.ok h).1 a (s.lt hl h (by omega)))
  unfold pos2
  rw [e]
  by_cases hl : i < xs.length
  · rw [if_neg (by rw [getD_at hl]; exact fun q => q.2 (h2 hl))]
  · rw [if_neg (fun q => hl q.1)]
/-! ### the number for a position -/
def mid2 (a b : Q2) : Q2 := red (a.1 * b.2 + b.1 * a.2) (2 * a.2 * b.2)
def num2 (k : Nat) (xs : List Q2) : Q2 :=
  if k % 2 = 1 then xs.getD (k / 2) (0, 1) else if xs.length = 0 then (0, 1) else if k / 2 = 0 then ((xs.getD 0 (0, 1)).1 - (xs.getD 0 (0, 1)).2, (xs.getD 0 (0, 1)).2)
  else if k / 2 = xs.length then ((xs.getD (xs.length - 1) (0, 1)).1 + (xs.getD (xs.length - 1) (0, 1)).2, (xs.getD (xs.length - 1) (0, 1)).2) else mid2 (xs.getD (k / 2 - 1) (0, 1)) (xs.getD (k / 2) (0, 1))
theorem mid2_pos {a b : Q2} (ha : 0 < a.2) (hb : 0 < b.2) : 0 < 2 * a.2 * b.2 := Int.mul_pos (by omega) hb
theorem mid2_lt {a b : Q2} (ha : 0 < a.2) (hb : 0 < b.2) (h : lt2 a b) : lt2 a (mid2 a b) ∧ lt2 (mid2 a b) b := by
  have p := mid2_pos ha hb
  unfold lt2 at h
  refine ⟨(lt2_red_r p).mpr ?_, (lt2_red_l p).mpr ?_⟩
  · have m : a.1 * b.2 * a.2 < b.1 * a.2 * a.2 := Int.mul_lt_mul_of_pos_right h ha
    have e1 : a.1 * (2 * a.2 * b.2) = a.1 * b.2 * a.2 + a.1 * b.2 * a.2 := by grind
    have e2 : (a.1 * b.2 + b.1 * a.2) * a.2 = a.1 * b.2 * a.2 + b.1 * a.2 * a.2 := by grind
    omega
  · have m : a.1 * b.2 * b.2 < b.1 * a.2 * b.2 := Int.mul_lt_mul_of_pos_right h hb
    have e1 : b.1 * (2 * a.2 * b.2) = b.1 * a.2 * b.2 + b.1 * a.2 * b.2 := by grind
    have e2 : (a.1 * b.2 + b.1 * a.2) * b.2 = a.1 * b.2 * b.2 + b.1 * a.2 * b.2 := by grind
    omega
theorem sub_lt {a : Q2} (ha : 0 < a.2) : lt2 (a.1 - a.2, a.2) a := by
  unfold lt2
  have m : 0 < a.2 * a.2 := Int.mul_pos ha ha
  show (a.1 - a.2) * a.2 < a.1 * a.2
  rw [Int.sub_mul]
  omega
theorem add_lt {a : Q2} (ha : 0 < a.2) : lt2 a (a.1 + a.2, a.2) := by
  unfold lt2
  have m : 0 < a.2 * a.2 := Int.mul_pos ha ha
  show a.1 * a.2 < (a.1 + a.2) * a.2
  rw [Int.add_mul]
  omega
theorem sub_ok {a : Q2} (h : ok2 a) : ok2 (a.1 - a.2, a.2) := ⟨h.1, by
  have e : Int.gcd (a.1 - a.2) a.2 = Int.gcd a.1 a.2 := Int.gcd_sub_self_left _ _
  exact e.trans h.2⟩
theorem add_ok {a : Q2} (h : ok2 a) : ok2 (a.1 + a.2, a.2) := ⟨h.1, by
  have e : Int.gcd (a.1 + a.2) a.2 = Int.gcd a.1 a.2 := Int.gcd_add_self_left _ _
  exact e.trans h.2⟩
theorem num2_pos {xs : List Q2} (s : Srt xs) {k : Nat} (hk : k ≤ 2 * xs.length) : pos2 (num2 k xs) xs = k := by
  unfold num2
  by_cases h1 : k % 2 = 1
  · have hi : k / 2 < xs.length := by omega
    rw [if_pos h1, getD_at hi, pos2_odd s hi]
    omega
  rw [if_neg h1]
  have ek : 2 * (k / 2) = k := by omega
  by_cases h2 : xs.length = 0
  · rw [if_pos h2]
    have e := pos2_even s (x := (0, 1)) (by decide) (i := 0) (Nat.zero_le _) (fun _ q => absurd q (Nat.lt_irrefl _)) fun h => by omega
    omega
  rw [if_neg h2]
  by_cases h3 : k / 2 = 0
  · rw [if_pos h3]
    have h0 : 0 < xs.length := by omega
    rw [getD_at h0]
    have e := pos2_even s (x := (xs[0].1 - xs[0].2, xs[0].2)) (s.ok h0).1 (i := 0) (Nat.zero_le _) (fun _ q => absurd q (Nat.lt_irrefl _)) fun h => sub_lt (s.ok h0).1
    omega
  rw [if_neg h3]
  by_cases h4 : k / 2 = xs.length
  · rw [if_pos h4]
    have h0 : xs.length - 1 < xs.length := by omega
    rw [getD_at h0]
    have e := pos2_even s (x := (xs[xs.length - 1].1 + xs[xs.length - 1].2, xs[xs.length - 1].2)) (s.ok h0).1 (i := xs.length) (Nat.le_refl _) (fun _ _ => add_lt (s.ok h0).1) fun h => by omega
    omega
  rw [if_neg h4]
  have ha : k / 2 - 1 < xs.length := by omega
  have hb : k / 2 < xs.length := by omega
  rw [getD_at ha, getD_at hb]
  have m := mid2_lt (s.ok ha).1 (s.ok hb).1 (s.lt ha hb (by omega))
  have e := pos2_even s (x := mid2 xs[k / 2 - 1] xs[k / 2]) (red_pos (mid2_pos (s.ok ha).1 (s.ok hb).1)) (i := k / 2) (Nat.le_of_lt hb) (fun _ _ => m.1) fun h => m.2
  omega
/-! ### a number put in -/
def with2 (xs : List Q2) (x : Q2) : List Q2 := (xs.filter fun y => decide (lt2 y x)) ++ [x] ++ (xs.filter fun y => decide (lt2 x y))
theorem with2_srt {xs : List Q2} (s : Srt xs) {x : Q2} (hx : ok2 x) : Srt (with2 xs x) := by
  refine ⟨?_, fun y hy => ?_⟩
  · unfold with2
    rw [List.append_assoc]
    refine List.pairwise_append.mpr ⟨s.1.filter _, ?_, fun a ha b hb => ?_⟩
    · refine List.pairwise_append.mpr ⟨List.pairwise_singleton _ _, s.1.filter _, fun a ha b hb => ?_⟩
      rw [List.mem_singleton.mp ha]
      exact of_decide_eq_true (List.mem_filter.mp hb).2
    · have la : lt2 a x := of_decide_eq_true (List.mem_filter.mp ha).2
      rcases List.mem_append.mp hb with hb | hb
      · rw [List.mem_singleton.mp hb]
        exact la
      · exact lt2_trans (s.2 _ (List.mem_filter.mp ha).1).1 hx.1 (s.2 _ (List.mem_filter.mp hb).1).1 la (of_decide_eq_true (List.mem_filter.mp hb).2)
  · unfold with2 at hy
    rcases List.mem_append.mp hy with hy | hy
    · rcases List.mem_append.mp hy with hy | hy
      · exact s.2 _ (List.mem_filter.mp hy).1
      · rw [List.mem_singleton.mp hy]
        exact hx
    · exact s.2 _ (List.mem_filter.mp hy).1
theorem with2_mem {xs : List Q2} {x y : Q2} (hy : y ∈ with2 xs x) : y = x ∨ y ∈ xs := by
  unfold with2 at hy
  rcases List.mem_append.mp hy with hy | hy
  · rcases List.mem_append.mp hy with hy | hy
    · exact .inr (List.mem_filter.mp hy).1
    · exact .inl (List.mem_singleton.mp hy)
  · exact .inr (List.mem_filter.mp hy).1
theorem filter2_le {α : Type} (p q : α → Bool) (h : ∀ a, p a = true → q a = true → False) : ∀ xs : List α, (xs.filter p).length + (xs.filter q).length ≤ xs.length
  | [] => Nat.le_refl _
  | a :: r => by
    have ih := filter2_le p q h r
    rw [List.filter_cons, List.filter_cons]
    have z := h a
    cases hp : p a <;> cases hq : q a <;> simp_all <;> omega
theorem with2_len (xs : List Q2) (x : Q2) : (with2 xs x).length ≤ xs.length + 1 := by
  have h := filter2_le (fun y => decide (lt2 y x)) (fun y => decide (lt2 x y)) (fun a h1 h2 => lt2_asymm (of_decide_eq_true h1) (of_decide_eq_true h2)) xs
  unfold with2
  rw [List.length_append, List.length_append]
  simp only [List.length_singleton]
  omega
/-! ### Euclid -/
/-- left turns suffice -/
def Euc (a b r : Nat) : Prop := ∃ m, (b < 2 ^ m ∧ 2 * m + 1 ≤ r) ∨ (b < a ∧ a < 2 ^ m ∧ 2 * m ≤ r)
theorem Euc.pos {a b r : Nat} (h : Euc a b r) : 0 < r ∨ False := by
  obtain ⟨m, h | h⟩ := h
  · exact .inl (by omega)
  · cases m with
    | zero => omega
    | succ m => exact .inl (by omega)
theorem Euc.next {a b r : Nat} (h : Euc a b (r + 1)) (hb : b ≠ 0) : Euc b (a % b) r := by
  have hm := Nat.mod_lt a (Nat.pos_of_ne_zero hb)
  obtain ⟨m, h | h⟩ := h
  · exact ⟨m, .inr ⟨hm, h.1, by omega⟩⟩
  · cases m with
    | zero => omega
    | succ m =>
      refine ⟨m, .inl ⟨?_, by omega⟩⟩
      have e := Nat.div_add_mod a b
      have q : 1 ≤ a / b := Nat.div_pos (by omega) (Nat.pos_of_ne_zero hb)
      have q2 : b ≤ b * (a / b) := Nat.le_mul_of_pos_right _ q
      have p : 2 ^ (m + 1) = 2 * 2 ^ m := by rw [Nat.pow_succ, Nat.mul_comm]
      omega
theorem Euc.start {a b k r : Nat} (h : b < 2 ^ k) (hr : 2 * k + 1 ≤ r) : Euc a b r := ⟨k, .inl ⟨h, hr⟩⟩
end My

namespace My
open PySem PySem.Spec PyProof.Rows L2 NumText TL
/-! ### texts as lists of codes -/
theorem tl_len (x : Str) : (tl x).length = x.length := (len_tl x).symm
theorem starts_pre {x y : Str} (hy : tl y ≠ []) : Txt.startswith x y = pre (tl y) (tl x) := by
  have h := at_iff (x := x) hy 0
  rw [List.drop_zero] at h
  have e : Txt.startswith x y = true ↔ PySem.StrLaws.At x y x.length 0 := by
    unfold Txt.startswith PySem.StrLaws.At
    simp
  cases hp : pre (tl y) (tl x) with
  | true => exact e.mpr (h.mpr hp)
  | false =>
    cases hs : Txt.startswith x y with
    | false => rfl
    | true => rw [h.mp (e.mp hs)] at hp; cases hp
theorem pre_one (c : Nat) (l : List Nat) : pre [c] l = decide (l.head? = some c) := by
  cases l with
  | nil => rfl
  | cons d r =>
    unfold pre
    by_cases h : d = c
    · subst h; simp
    · simp [h]
def dig (c : Nat) : Bool := decide (48 ≤ c) && decide (c ≤ 57)
theorem dec_ascii : ∀ c : Nat, c < 128 → PySem.Unicode.isDecimal c = dig c := by decide +kernel
theorem asc_dec (x : Str) : (Txt.isascii x && Txt.isdecimal x) = (!(tl x).isEmpty && (tl x).all dig) := by
  have ea : Txt.isascii x = (tl x).all fun c => decide (c < 128) := by
    unfold Txt.isascii tl
    rw [Array.all_toList]
  have ed : Txt.isdecimal x = (!(tl x).isEmpty && (tl x).all PySem.Unicode.isDecimal) := by
    unfold Txt.isdecimal
    have e1 : decide (x.length > 0) = !(tl x).isEmpty := by
      rw [← tl_len]
      cases tl x <;> rfl
    rw [e1]
    unfold tl
    rw [Array.all_toList]
  rw [ea, ed]
  generalize tl x = l
  have key : ((l.all fun c => decide (c < 128)) && l.all PySem.Unicode.isDecimal) = l.all dig := by
    induction l with
    | nil => rfl
    | cons c r ih =>
      rw [List.all_cons, List.all_cons, List.all_cons, ← ih]
      by_cases h : c < 128
      · rw [decide_eq_true h, dec_ascii c h]
        cases dig c <;> simp
      · have hd : dig c = false := by unfold dig; rw [decide_eq_false (show ¬ c ≤ 57 by omega), Bool.and_false]
        rw [decide_eq_false h, hd]
        simp
  rw [← key]
  cases (l.all fun c => decide (c < 128)) <;> cases l.isEmpty <;> simp
theorem all_dig {l : List Nat} : l.all dig = true ↔ AllDigits l := by
  unfold AllDigits dig
  rw [List.all_eq_true]
  simp
def canon (l : List Nat) : Bool := !l.isEmpty && l.all dig && !(decide (l.head? = some 48) && !decide (l = [48]))
def natOf (l : List Nat) : Option Nat := if canon l = true then some (digitsVal l) else none
def intOf (l : List Nat) : Option Int := match l with
  | 45 :: r => (match natOf r with | some 0 => none | some n => some (-(n : Int)) | none => none)
  | _ => (natOf l).map Int.ofNat
/-- a text's pair -/
def ratOf (l : List Nat) : Option Q2 :=
  match intOf (l.takeWhile (· ≠ 47)) with
  | none => none
  | some t => match l.dropWhile (· ≠ 47) with
    | [] => some (t, 1)
    | _ :: b => match natOf b with
      | none => none
      | some d => if d < 2 ∨ Nat.gcd t.natAbs d ≠ 1 then none else some (t, (d : Int))
theorem natOf_some {l : List Nat} {n : Nat} (h : natOf l = some n) : AllDigits l ∧ l ≠ [] ∧ n = digitsVal l := by
  unfold natOf at h
  split at h
  · rename_i c
    unfold canon at c
    rw [Bool.and_eq_true, Bool.and_eq_true] at c
    refine ⟨all_dig.mp c.1.2, ?_, (Option.some.inj h).symm⟩
    intro e
    rw [e] at c
    simp at c
  · cases h
/-! ### values of digits -/
theorem dv_from : ∀ (l : List Nat) (a : Nat), l.foldl (fun acc c => acc * 10 + (c - 48)) a = a * 10 ^ l.length + digitsVal l
  | [], a => by simp [digitsVal]
  | c :: r, a => by
    have h1 := dv_from r (a * 10 + (c - 48))
    have h2 := dv_from r (0 * 10 + (c - 48))
    unfold digitsVal
    rw [List.foldl_cons, List.foldl_cons, h1, h2, List.length_cons, Nat.pow_succ]
    grind
theorem dv_app (a b : List Nat) : digitsVal (a ++ b) = digitsVal a * 10 ^ b.length + digitsVal b := by
  have h : digitsVal (a ++ b) = b.foldl (fun acc c => acc * 10 + (c - 48)) (digitsVal a) := by
    unfold digitsVal
    rw [List.foldl_append]
  rw [h, dv_from]
theorem dv_zero (l : List Nat) : digitsVal (48 :: l) = digitsVal l := by
  unfold digitsVal
  rw [List.foldl_cons]
theorem dv_lt : ∀ {l : List Nat}, AllDigits l → digitsVal l < 10 ^ l.length := by
  intro l
  induction l with
  | nil => intro _; decide
  | cons c r ih =>
    intro h
    have hc := h.head
    have := ih h.tail
    have e := dv_app [c] r
    have e1 : digitsVal [c] = c - 48 := by simp [digitsVal]
    rw [e1] at e
    have e2 : digitsVal (c :: r) = (c - 48) * 10 ^ r.length + digitsVal r := e
    rw [e2, List.length_cons, Nat.pow_succ]
    have m : (c - 48) * 10 ^ r.length ≤ 9 * 10 ^ r.length := Nat.mul_le_mul_right _ (by omega)
    omega
/-! ### digits of numbers -/
theorem numL_head {n : Nat} (h : 1 ≤ n) : (numL n).head? ≠ some 48 := by
  induction n using Nat.strongRecOn with
  | _ n ih =>
    by_cases h10 : n < 10
    · rw [numL_lt h10]
      simp
      omega
    · rw [numL_step (by omega), List.head?_append]
      have i := ih (n / 10) (by omega) (by omega)
      cases e : (numL (n / 10)).head? with
      | none => exact absurd (List.head?_eq_none_iff.mp e) (numL_ne _)
      | some c =>
        rw [e] at i
        exact i
theorem numL_zero : numL 0 = [48] := numL_lt (by decide)
theorem canon_num (n : Nat) : canon (numL n) = true := by
  unfold canon
  have h1 : (numL n).isEmpty = false := by
    cases e : numL n with
    | nil => exact absurd e (numL_ne n)
    | cons _ _ => rfl
  rw [h1, all_dig.mpr (numL_digits n)]
  by_cases h : n = 0
  · subst h
    rw [numL_zero]
    rfl
  · rw [decide_eq_false (numL_head (by omega))]
    rfl
theorem natOf_num (n : Nat) : natOf (numL n) = some n := by
  unfold natOf
  rw [if_pos (canon_num n), numL_val]
def intL (t : Int) : List Nat := if t < 0 then 45 :: numL t.natAbs else numL t.natAbs
theorem numL_no {n c : Nat} (h : c < 48 ∨ 57 < c) : c ∉ numL n := numL_free h
theorem intOf_num (t : Int) : intOf (intL t) = some t := by
  unfold intL
  split
  · rename_i h
    show (match natOf (numL t.natAbs) with | some 0 => none | some n => some (-(n : Int)) | none => none) = _
    rw [natOf_num]
    have h0 : t.natAbs ≠ 0 := by omega
    cases e : t.natAbs with
    | zero => exact absurd e h0
    | succ k =>
      show some (-((k + 1 : Nat) : Int)) = some t
      congr 1
      omega
  · rename_i h
    have e : intOf (numL t.natAbs) = (natOf (numL t.natAbs)).map Int.ofNat := by
      cases e : numL t.natAbs with
      | nil => rfl
      | cons c r =>
        unfold intOf
        split
        · rename_i r' e'
          injection e' with e1 e2
          have hm : c ∈ numL t.natAbs := by rw [e]; exact List.mem_cons_self
          exact absurd hm (numL_no (by omega))
        · rfl
    rw [e, natOf_num]
    show some ((t.natAbs : Nat) : Int) = some t
    congr 1
    omega
def ratL (x : Q2) : List Nat := intL x.1 ++ (if x.2 = 1 then [] else 47 :: numL x.2.natAbs)
theorem intL_no47 (t : Int) : ∀ c ∈ intL t, c ≠ 47 := by
  intro c hc e
  subst e
  unfold intL at hc
  split at hc
  · rcases List.mem_cons.mp hc with e | hc
    · cases e
    · exact absurd hc (numL_no (by omega))
  · exact absurd hc (numL_no (by omega))
theorem tw_app {l r : List Nat} (h : ∀ c ∈ l, c ≠ 47) : (l ++ 47 :: r).takeWhile (· ≠ 47) = l ∧ (l ++ 47 :: r).dropWhile (· ≠ 47) = 47 :: r := by
  induction l with
  | nil => simp
  | cons c l ih =>
    have hc := h c List.mem_cons_self
    obtain ⟨h1, h2⟩ := ih fun d hd => h d (List.mem_cons_of_mem _ hd)
    rw [List.cons_append, List.takeWhile_cons_of_pos (by simpa using hc), List.dropWhile_cons_of_pos (by simpa using hc), h1, h2]
    exact ⟨rfl, rfl⟩
theorem tw_all {l : List Nat} (h : ∀ c ∈ l, c ≠ 47) : l.takeWhile (· ≠ 47) = l ∧ l.dropWhile (· ≠ 47) = [] := by
  induction l with
  | nil => simp
  | cons c l ih =>
    have hc := h c List.mem_cons_self
    obtain ⟨h1, h2⟩ := ih fun d hd => h d (List.mem_cons_of_mem _ hd)
    rw [List.takeWhile_cons_of_pos (by simpa using hc), List.dropWhile_cons_of_pos (by simpa using hc), h1, h2]
    exact ⟨rfl, rfl⟩
theorem ratOf_text {x : Q2} (h : ok2 x) : ratOf (ratL x) = some x := by
  obtain ⟨t, b⟩ := x
  obtain ⟨h1, h2⟩ := h
  simp only at h1 h2
  unfold ratL ratOf
  simp only
  by_cases hb : b = 1
  · subst hb
    obtain ⟨e1, e2⟩ := tw_all (intL_no47 t)
    rw [if_pos rfl, List.append_nil, e1, e2, intOf_num]
  · obtain ⟨e1, e2⟩ := tw_app (r := numL b.natAbs) (intL_no47 t)
    rw [if_neg hb, e1, e2, intOf_num]
    simp only
    rw [natOf_num]
    simp only
    rw [if_neg (by rw [h2]; omega)]
    congr 2
    omega
/-! ### the law's own reading -/
/-- pieces between slashes -/
def cut47 : List Nat → List (List Nat) := spl [47] 0 []
theorem cut47_none {l : List Nat} (h : ∀ c ∈ l, c ≠ 47) : cut47 l = [l] := spl_last1 (S := []) fun hm => h 47 hm rfl
theorem cut47_one {a r : List Nat} (h : ∀ c ∈ a, c ≠ 47) : cut47 (a ++ 47 :: r) = a :: cut47 r := spl_part1 (S := []) (p := a) (rest := r) (acc := []) fun hm => h 47 hm rfl
theorem split47 (l : List Nat) : (∀ c ∈ l, c ≠ 47) ∨ ∃ a r, l = a ++ 47 :: r ∧ ∀ c ∈ a, c ≠ 47 := by
  induction l with
  | nil => exact .inl fun _ h => by cases h
  | cons c l ih =>
    by_cases hc : c = 47
    · subst hc
      exact .inr ⟨[], l, rfl, fun _ h => by cases h⟩
    · rcases ih with h | ⟨a, r, rfl, h⟩
      · exact .inl fun d hd => by
          rcases List.mem_cons.mp hd with e | hd
          · rw [e]; exact hc
          · exact h d hd
      · exact .inr ⟨c :: a, r, rfl, fun d hd => by
          rcases List.mem_cons.mp hd with e | hd
          · rw [e]; exact hc
          · exact h d hd⟩
/-- what the law makes of the body, sg telling a minus ahead -/
def lawOf (sg : Bool) (l : List Nat) : Option Q2 :=
  match natOf ((cut47 l).headD []) with
  | none => none
  | some t =>
    if 2 < (cut47 l).length ∨ (sg = true ∧ t = 0) then none
    else if (cut47 l).length = 1 then some (if sg = true then -(t : Int) else t, 1)
    else match natOf ((cut47 l).getD 1 []) with
      | none => none
      | some d => if d < 2 ∨ Nat.gcd t d ≠ 1 then none else some (if sg = true then -(t : Int) else t, (d : Int))
theorem natOf_no47 {l : List Nat} (h : 47 ∈ l) : natOf l = none := by
  cases e : natOf l with
  | none => rfl
  | some n =>
    have := (natOf_some e).1 47 h
    omega
theorem cut47_len (l : List Nat) : 1 ≤ (cut47 l).length := by
  rcases split47 l with h | ⟨a, r, rfl, h⟩
  · rw [cut47_none h]; exact Nat.le_refl _
  · rw [cut47_one h]; exact Nat.succ_le_succ (Nat.zero_le _)
theorem natOf_noMinus (l : List Nat) : natOf (45 :: l) = none := by
  cases e : natOf (45 :: l) with
  | none => rfl
  | some n =>
    have := (natOf_some e).1 45 List.mem_cons_self
    omega
theorem intOf_plain {l : List Nat} (h : l.head? ≠ some 45) : intOf l = (natOf l).map Int.ofNat := by
  cases l with
  | nil => rfl
  | cons c r =>
    unfold intOf
    split
    · rename_i e
      injection e with e1 e2
      subst e1
      exact absurd rfl h
    · rfl
theorem law_same (l : List Nat) : ratOf l = (if l.head? = some 45 then lawOf true l.tail else lawOf false l) := by
  by_cases hm : l.head? = some 45
  · rw [if_pos hm]
    cases l with
    | nil => cases hm
    | cons c l =>
      have ec : c = 45 := Option.some.inj hm
      subst ec
      show ratOf (45 :: l) = lawOf true l
      have e0 : (45 :: l).takeWhile (· ≠ 47) = 45 :: l.takeWhile (· ≠ 47) := by simp
      have e1 : (45 :: l).dropWhile (· ≠ 47) = l.dropWhile (· ≠ 47) := by simp
      unfold ratOf lawOf
      rw [e0, e1]
      have ei : intOf (45 :: l.takeWhile (· ≠ 47)) = (match natOf (l.takeWhile (· ≠ 47)) with | some 0 => none | some n => some (-(n : Int)) | none => none) := rfl
      rw [ei]
      rcases split47 l with h | ⟨a, r, rfl, h⟩
      · obtain ⟨t1, t2⟩ := tw_all h
        rw [t1, t2, cut47_none h]
        simp only [List.headD_cons, List.length_singleton]
        cases natOf l with
        | none => rfl
        | some n =>
          cases n with
          | zero => rfl
          | succ n => simp
      · obtain ⟨t1, t2⟩ := tw_app (r := r) h
        rw [t1, t2, cut47_one h]
        have hr := cut47_len r
        simp only [List.headD_cons, List.length_cons, List.getD_cons_succ, List.getD_cons_zero]
        cases natOf a with
        | none => rfl
        | some n =>
          cases n with
          | zero => simp
          | succ n =>
            simp only
            rcases split47 r with h' | ⟨a', r', rfl, h'⟩
            · rw [cut47_none h']
              simp only [List.length_singleton, List.getD_cons_zero]
              cases natOf r with
              | none => simp
              | some d =>
                have en : (-((n + 1 : Nat) : Int)).natAbs = n + 1 := by omega
                simp only [en]
                simp
            · rw [natOf_no47 (l := a' ++ 47 :: r') (by simp), cut47_one h']
              have := cut47_len r'
              simp only [List.length_cons]
              rw [if_pos (by left; omega)]
  · rw [if_neg hm]
    have hh : (l.takeWhile (· ≠ 47)).head? ≠ some 45 := by
      cases l with
      | nil => simp
      | cons c l =>
        simp only [List.takeWhile_cons]
        split
        · exact hm
        · simp
    unfold ratOf lawOf
    rw [intOf_plain hh]
    rcases split47 l with h | ⟨a, r, rfl, h⟩
    · obtain ⟨t1, t2⟩ := tw_all h
      rw [t1, t2, cut47_none h]
      simp only [List.headD_cons, List.length_singleton]
      cases natOf l with
      | none => rfl
      | some n => simp
    · obtain ⟨t1, t2⟩ := tw_app (r := r) h
      rw [t1, t2, cut47_one h]
      have hr := cut47_len r
      simp only [List.headD_cons, List.length_cons, List.getD_cons_succ, List.getD_cons_zero]
      cases natOf a with
      | none => rfl
      | some n =>
        simp only [Option.map_some, Int.ofNat_eq_natCast]
        rcases split47 r with h' | ⟨a', r', rfl, h'⟩
        · rw [cut47_none h']
          simp only [List.length_singleton, List.getD_cons_zero]
          cases natOf r with
          | none => simp
          | some d => simp
        · rw [natOf_no47 (l := a' ++ 47 :: r') (by simp), cut47_one h']
          have := cut47_len r'
          simp only [List.length_cons]
          rw [if_pos (by left; omega)]
/-! ### digits in groups -/
/-- k digits of r -/
def dg : Nat → Nat → List Nat
  | 0, _ => []
  | k + 1, r => dg k (r / 10) ++ [48 + r % 10]
theorem numL_grp : ∀ (k q r : Nat), 1 ≤ q → r < 10 ^ k → numL (q * 10 ^ k + r) = numL q ++ dg k r
  | 0, q, r, hq, hr => by
    have e : r = 0 := by simpa using hr
    subst e
    simp [dg]
  | k + 1, q, r, hq, hr => by
    have p : 10 ^ (k + 1) = 10 * 10 ^ k := by rw [Nat.pow_succ, Nat.mul_comm]
    have e1 : (q * 10 ^ (k + 1) + r) / 10 = q * 10 ^ k + r / 10 := by
      rw [p, show q * (10 * 10 ^ k) + r = 10 * (q * 10 ^ k) + r by grind]
      omega
    have e2 : (q * 10 ^ (k + 1) + r) % 10 = r % 10 := by
      rw [p, show q * (10 * 10 ^ k) + r = 10 * (q * 10 ^ k) + r by grind]
      omega
    have m : 1 ≤ 10 ^ k := Nat.pos_of_ne_zero (by simp)
    have m2 : 1 * 1 ≤ q * 10 ^ k := Nat.mul_le_mul hq m
    have h10 : 10 ≤ q * 10 ^ (k + 1) + r := by
      rw [p, show q * (10 * 10 ^ k) = 10 * (q * 10 ^ k) by grind]
      omega
    rw [numL_step h10, e1, e2, numL_grp k q (r / 10) hq (by omega), List.append_assoc]
    rfl
theorem dg_zero : ∀ k, dg k 0 = List.replicate k 48
  | 0 => rfl
  | k + 1 => by
    show dg k 0 ++ [48] = _
    rw [dg_zero k, ← List.replicate_succ']
theorem dg_pad : ∀ (k r : Nat), 1 ≤ k → r < 10 ^ k → dg k r = List.replicate (k - (numL r).length) 48 ++ numL r
  | 0, _, h, _ => by omega
  | k + 1, r, _, hr => by
    show dg k (r / 10) ++ [48 + r % 10] = _
    have p : 10 ^ (k + 1) = 10 * 10 ^ k := by rw [Nat.pow_succ, Nat.mul_comm]
    by_cases h : r < 10
    · have e1 : r / 10 = 0 := by omega
      have e2 : r % 10 = r := by omega
      rw [e1, e2, dg_zero, numL_lt h]
      rfl
    · have hk : 1 ≤ k := by
        cases k with
        | zero => simp at hr; omega
        | succ k => omega
      rw [dg_pad k (r / 10) hk (by omega), numL_step (n := r) (by omega), List.append_assoc, List.length_append]
      congr 2
      simp only [List.length_singleton]
      omega
theorem numL_le {n k : Nat} (hk : 0 < k) (h : n < 10 ^ k) : (numL n).length ≤ k := numL_len hk h
end My

namespace My
open PySem PySem.Spec PyProof.Rows L2 NumText TL
/-! ### rules: str of great ints -/
theorem ns_none {K : PySem.W.Frag} {h : Heap} {ns : Addr} {m : Str → Option Value} {n : Str} (X : K.In h) (G : h.Ns ns m) (e : PySem.W.nsIn K ns n = some none) : m n = none := by
  obtain ⟨o, es, ep, ho, hd, _, hf⟩ := G
  unfold PySem.W.nsIn at e
  split at e
  · rename_i c d es' n' sl q
    have := X _ _ q
    rw [ho] at this
    cases this
    cases hd
    split at e
    · cases e
    · rename_i he
      rw [← hf]
      unfold nsFind findBy
      rw [← Array.find?_toList, he]
      rfl
  · cases e
theorem call_str_big {X : Cx} (hc : X.calm = true) (hd : PySem.W.nsIn X.K cStatics "sys.int_max_str_digits" = some none) : CallR X (.type "str") (fun xs H Q => ∃ i, xs = [.int i] ∧ i.natAbs < 10 ^ 4300 ∧ Q (.str (toString i)) H) := by
  intro pins s σ H xs us Q I r h
  obtain ⟨i, rfl, hz, q⟩ := h
  cases r with
  | cons r1 rr =>
    cases rr
    obtain ⟨t, rfl⟩ := r1
    obtain ⟨mc, hns, _⟩ := I.nolimit
    refine str_of_int_or (I.ok.hd hc) ⟨mc, hns, ns_none I.kIn hns hd⟩ (fun _ => ⟨.str _, H, I.tok _, ⟨_, rfl⟩, q⟩) fun h => absurd hz (Nat.not_lt.mpr h)
/-! ### texts -/
def S (l : List Nat) : Str := ⟨l.toArray⟩
theorem tl_S (l : List Nat) : tl (S l) = l := rfl
theorem S_tl (x : Str) : S (tl x) = x := mk_tl x
theorem S_app (a b : List Nat) : S a ++ S b = S (a ++ b) := ext_tl (by rw [tl_append, tl_S, tl_S, tl_S])
theorem S_len (l : List Nat) : (S l).length = l.length := by rw [len_tl, tl_S]
theorem S_num (n : Nat) : Str.ofString (toString ((n : Nat) : Int)) = S (numL n) := ext_tl (by rw [tl_num, tl_S])
theorem S_int (t : Int) : Str.ofString (toString t) = S (intL t) := by
  unfold intL
  split
  · rename_i h
    have e : toString t = "-" ++ toString (0 - t) := toString_neg h
    have e2 : (0 - t) = ((t.natAbs : Nat) : Int) := by omega
    refine ext_tl ?_
    rw [tl_S, e, e2, tl_ofString, String.toList_append, List.map_append, ← tl_ofString (toString ((t.natAbs : Nat) : Int)), tl_num]
    rfl
  · rename_i h
    have e2 : t = ((t.natAbs : Nat) : Int) := by omega
    have e3 := S_num t.natAbs
    rw [← e2] at e3
    exact e3
theorem cut_pre (x : Str) {h : Nat} (hh : h ≤ x.length) : cutS x none (some (h : Int)) = S ((tl x).take h) := by
  unfold cutS
  rw [HT.sIx_none, HT.sIx_nat, List.drop_zero, Nat.sub_zero, Nat.min_eq_left hh]
  rfl
theorem cut_mid (x : Str) (a b : Nat) : cutS x (some (a : Int)) (some (b : Int)) = S (((tl x).drop a).take (b - a)) := by
  unfold cutS
  rw [HT.sIx_nat, HT.sIx_nat]
  refine ext_tl ?_
  have hl := tl_len x
  show ((tl x).drop (min a x.length)).take (min b x.length - min a x.length) = ((tl x).drop a).take (b - a)
  by_cases ha : a ≤ x.length
  · rw [Nat.min_eq_left ha]
    by_cases hb : b ≤ x.length
    · rw [Nat.min_eq_left hb]
    · rw [Nat.min_eq_right (a := b) (b := x.length) (by omega), List.take_of_length_le (by rw [List.length_drop]; omega), List.take_of_length_le (by rw [List.length_drop]; omega)]
  · rw [Nat.min_eq_right (a := a) (b := x.length) (by omega), List.drop_eq_nil_of_le (by omega), List.drop_eq_nil_of_le (by omega)]
    simp
theorem cut_from (x : Str) (a : Nat) : cutS x (some (a : Int)) none = S ((tl x).drop a) := by
  unfold cutS
  rw [HT.sIx_nat, HT.sIx_none]
  refine ext_tl ?_
  have hl := tl_len x
  show ((tl x).drop (min a x.length)).take (x.length - min a x.length) = (tl x).drop a
  by_cases ha : a ≤ x.length
  · rw [Nat.min_eq_left ha, List.take_of_length_le (by rw [List.length_drop]; omega)]
  · rw [Nat.min_eq_right (by omega), List.drop_eq_nil_of_le (by omega), List.drop_eq_nil_of_le (by omega)]
    simp
theorem cut_le (x : Str) (a b : Option Int) : (cutS x a b).length ≤ x.length := by
  unfold cutS
  rw [len_tl]
  show (((tl x).drop _).take _).length ≤ _
  rw [List.length_take, List.length_drop, ← tl_len]
  omega
theorem str_ne {x y : Str} (h : tl x ≠ tl y) : V.str x ≠ V.str y := fun e => h (by rw [V.str.inj e])
theorem str_eq {x y : Str} (h : tl x = tl y) : V.str x = V.str y := by rw [ext_tl h]
theorem int_dig {l : List Nat} (h : AllDigits l) (h1 : l ≠ []) (h2 : l.length ≤ 4300) : PySem.intText? (S l) = some ((digitsVal l : Nat) : Int) := intText_digits (x := S l) h h1 (by rw [S_len]; exact h2)
def natV (o : Option Nat) : V := match o with | none => .non | some n => .int (n : Int)
def intV (o : Option Int) : V := match o with | none => .non | some n => .int n
theorem adT {l : List Nat} (h : AllDigits l) (n : Nat) : AllDigits (l.take n) := fun c hc => h c (List.mem_of_mem_take hc)
theorem adD {l : List Nat} (h : AllDigits l) (n : Nat) : AllDigits (l.drop n) := fun c hc => h c (List.mem_of_mem_drop hc)
end My

namespace My
open PySem PySem.Spec PyProof.Rows L2 NumText TL
/-! ### texts of trees -/
mutual
def wr : PyData → List Nat
  | .str s => tl s
  | .int n => intL n
  | .tuple xs => wrT xs
  | _ => []
def wrT : List PyData → List Nat
  | [] => []
  | x :: r => wr x ++ wrR r
def wrR : List PyData → List Nat
  | [] => []
  | y :: r => 40 :: (wr y ++ wrC r)
def wrC : List PyData → List Nat
  | [] => [41]
  | y :: r => 44 :: (wr y ++ wrC r)
end
/-- a list's texts in a row -/
def fl : List PyData → List Nat
  | [] => []
  | x :: r => wr x ++ fl r
theorem fl_app : ∀ a b, fl (a ++ b) = fl a ++ fl b
  | [], b => rfl
  | x :: a, b => by
    show wr x ++ fl (a ++ b) = wr x ++ fl a ++ fl b
    rw [fl_app a b, List.append_assoc]
def itC : List PyData → List PyData
  | [] => [sd ")"]
  | y :: r => sd "," :: y :: itC r
/-- what is written for a tuple, in order -/
def items : List PyData → List PyData
  | [] => []
  | [x] => [x]
  | x :: y :: r => x :: sd "(" :: y :: itC r
theorem wr_sd (x : String) : wr (sd x) = tl (Str.ofString x) := by
  unfold sd
  rw [wr]
theorem fl_itC : ∀ r, fl (itC r) = wrC r
  | [] => by
    rw [wrC]
    show wr (sd ")") ++ [] = [41]
    rw [wr_sd]
    rfl
  | y :: r => by
    rw [wrC]
    show wr (sd ",") ++ (wr y ++ fl (itC r)) = _
    rw [fl_itC r, wr_sd]
    rfl
theorem fl_items : ∀ xs, fl (items xs) = wrT xs
  | [] => by rw [wrT]; rfl
  | [x] => by
    rw [wrT, wrR]
    rfl
  | x :: y :: r => by
    rw [wrT, wrR]
    show wr x ++ (wr (sd "(") ++ (wr y ++ fl (itC r))) = _
    rw [fl_itC r, wr_sd]
    rfl
/-! ### measures -/
mutual
/-- steps of the writing -/
def ms : PyData → Nat
  | .tuple xs => 1 + msT xs
  | _ => 1
def msT : List PyData → Nat
  | [] => 0
  | x :: r => 1 + ms x + msT r
end
def mf : List PyData → Nat
  | [] => 0
  | x :: r => ms x + mf r
theorem mf_app : ∀ a b, mf (a ++ b) = mf a + mf b
  | [], b => by simp [mf]
  | x :: a, b => by
    show ms x + mf (a ++ b) = ms x + mf a + mf b
    rw [mf_app a b]
    omega
theorem mf_rev : ∀ a, mf a.reverse = mf a
  | [] => rfl
  | x :: a => by
    rw [List.reverse_cons, mf_app, mf_rev a]
    show mf a + (ms x + 0) = ms x + mf a
    omega
theorem ms_sd (x : String) : ms (sd x) = 1 := by
  unfold sd
  rw [ms]
  intro xs h
  cases h
theorem mf_itC : ∀ r, mf (itC r) = msT r + 1
  | [] => by
    show ms (sd ")") + 0 = _
    rw [ms_sd, msT]
  | y :: r => by
    show ms (sd ",") + (ms y + mf (itC r)) = _
    rw [ms_sd, mf_itC r, msT]
    omega
theorem mf_items : ∀ xs, mf (items xs) ≤ msT xs
  | [] => Nat.le_of_eq (by rw [msT]; rfl)
  | [x] => by
    rw [msT, msT]
    show ms x + 0 ≤ _
    omega
  | x :: y :: r => by
    rw [msT, msT]
    show ms x + (ms (sd "(") + (ms y + mf (itC r))) ≤ _
    rw [ms_sd, mf_itC r]
    omega
theorem ms_pos : ∀ d, 0 < ms d
  | .tuple xs => by rw [ms]; omega
  | .none => by rw [ms]; · decide
                intro xs h; cases h
  | .bool _ => by rw [ms]; · decide
                  intro xs h; cases h
  | .int _ => by rw [ms]; · decide
                 intro xs h; cases h
  | .str _ => by rw [ms]; · decide
                 intro xs h; cases h
  | .list _ => by rw [ms]; · decide
                  intro xs h; cases h
  | .dict _ => by rw [ms]; · decide
                  intro xs h; cases h
theorem len_mf : ∀ xs : List PyData, xs.length ≤ mf xs
  | [] => Nat.le_refl _
  | x :: r => by
    have := ms_pos x
    have := len_mf r
    show r.length + 1 ≤ ms x + mf r
    omega
/-! ### what may be written -/
mutual
def tr : PyData → Bool
  | .str _ => true
  | .int n => decide (n.natAbs < 1000)
  | .tuple xs => !xs.isEmpty && trL xs
  | _ => false
def trL : List PyData → Bool
  | [] => true
  | x :: r => tr x && trL r
end
theorem trL_iff : ∀ {xs}, trL xs = true ↔ ∀ x ∈ xs, tr x = true
  | [] => by simp [trL]
  | x :: r => by
    rw [trL, Bool.and_eq_true, trL_iff]
    simp
theorem tr_sd (x : String) : tr (sd x) = true := by
  unfold sd
  rw [tr]
theorem trL_itC : ∀ {r}, trL r = true → trL (itC r) = true
  | [], _ => by
    show trL [sd ")"] = true
    rw [trL, trL, tr_sd]
    rfl
  | y :: r, h => by
    rw [trL, Bool.and_eq_true] at h
    show trL (sd "," :: y :: itC r) = true
    rw [trL, trL, tr_sd, h.1, trL_itC h.2]
    rfl
theorem trL_items : ∀ {xs}, trL xs = true → trL (items xs) = true
  | [], _ => by show trL [] = true; rw [trL]
  | [x], h => h
  | x :: y :: r, h => by
    rw [trL, trL, Bool.and_eq_true, Bool.and_eq_true] at h
    show trL (x :: sd "(" :: y :: itC r) = true
    rw [trL, trL, trL, tr_sd, h.1, h.2.1, trL_itC h.2.2]
    rfl
/-! ### parts -/
mutual
def cnt : PyData → Nat
  | .tuple xs => 1 + cntT xs
  | _ => 0
def cntT : List PyData → Nat
  | [] => 0
  | x :: r => cnt x + cntT r
end
def isT : PyData → Bool
  | .tuple _ => true
  | _ => false
theorem cntT_app : ∀ a b, cntT (a ++ b) = cntT a + cntT b
  | [], b => by rw [cntT]; simp
  | x :: a, b => by
    rw [List.cons_append, cntT, cntT, cntT_app a b]
    omega
theorem cnt_no {d : PyData} (h : isT d = false) : cnt d = 0 := by
  cases d with
  | tuple xs => cases h
  | _ => rw [cnt]; intro xs h; cases h
theorem cntT_filter : ∀ xs, cntT (xs.filter isT) = cntT xs
  | [] => rfl
  | x :: r => by
    rw [List.filter_cons]
    cases h : isT x with
    | true =>
      rw [if_pos rfl, cntT, cntT, cntT_filter r]
    | false =>
      rw [if_neg (by decide), cntT, cntT_filter r, cnt_no h]
      omega
/-! ### marks -/
def mk (c : Nat) : Bool := decide (c = 41) || decide (c = 44)
def beh : List Nat → List Nat
  | [] => []
  | c :: r => if mk c = true then beh r else c :: r
theorem beh_len : ∀ l, (beh l).length ≤ l.length
  | [] => Nat.le_refl _
  | c :: r => by
    unfold beh
    split
    · exact Nat.le_succ_of_le (beh_len r)
    · exact Nat.le_refl _
/-! ### the forms of a text, in order -/
def hit (tb : List Row) (l : List Nat) : Option Row := tb.find? fun r => pre (tl r.1) l
inductive Sc (tb : List Row) : List Nat → Option (List Row) → Prop
  | nil : Sc tb [] (some [])
  | no {l} : l ≠ [] → hit tb l = none → Sc tb l none
  | go {l r o} : l ≠ [] → hit tb l = some r → Sc tb (beh (l.drop (tl r.1).length)) o → Sc tb l (o.map (r :: ·))
/-! ### the tree of forms -/
def bld : List Row → Option (List PyData)
  | [] => some []
  | r :: rs => match bld rs with
    | none => none
    | some st => if st.length < r.2.2 then none else some (.tuple (r.2.1 ++ st.take r.2.2) :: st.drop r.2.2)
mutual
inductive Pr (tb : List Row) : PyData → List Row → Prop
  | mk {r : Row} {kids : List PyData} {rows : List Row} : r ∈ tb → kids.length = r.2.2 → PrL tb kids rows → Pr tb (.tuple (r.2.1 ++ kids)) (r :: rows)
inductive PrL (tb : List Row) : List PyData → List Row → Prop
  | nil : PrL tb [] []
  | cons {d : PyData} {ds : List PyData} {a b : List Row} : Pr tb d a → PrL tb ds b → PrL tb (d :: ds) (a ++ b)
end
mutual
theorem bld_pr {tb : List Row} : ∀ {d : PyData} {a : List Row} (rs : List Row) {st : List PyData}, Pr tb d a → bld rs = some st → bld (a ++ rs) = some (d :: st)
  | _, _, rs, st, .mk (r := r) (kids := kids) (rows := rows) hr hk h, hs => by
    have e := bld_prL rs h hs
    show bld (r :: (rows ++ rs)) = _
    unfold bld
    rw [e]
    show (if (kids ++ st).length < r.2.2 then none else _) = _
    rw [if_neg (by rw [List.length_append]; omega), ← hk, List.take_left, List.drop_left]
theorem bld_prL {tb : List Row} : ∀ {ds : List PyData} {a : List Row} (rs : List Row) {st : List PyData}, PrL tb ds a → bld rs = some st → bld (a ++ rs) = some (ds ++ st)
  | _, _, rs, st, .nil, hs => hs
  | _, _, rs, st, .cons (d := d) (ds := ds) (a := a) (b := b) h t, hs => by
    have e := bld_prL rs t hs
    have e2 := bld_pr (b ++ rs) h e
    rw [List.append_assoc]
    exact e2
end
end My

namespace My
open PySem PySem.Spec PyProof.Rows L2 NumText TL
/-! ### beginnings -/
theorem pre_ex {a l : List Nat} : pre a l = true ↔ ∃ t, l = a ++ t := by
  unfold pre
  rw [beq_iff_eq]
  constructor
  · intro h
    have e := List.take_append_drop a.length l
    rw [h] at e
    exact ⟨l.drop a.length, e.symm⟩
  · rintro ⟨t, rfl⟩
    exact List.take_left
theorem pre_or {a b c : List Nat} (h : pre a (b ++ c) = true) : pre a b = true ∨ pre b a = true := by
  obtain ⟨t, e⟩ := pre_ex.mp h
  rcases List.append_eq_append_iff.mp e with ⟨u, e1, _⟩ | ⟨u, e1, _⟩
  · exact .inr (pre_ex.mpr ⟨u, e1⟩)
  · exact .inl (pre_ex.mpr ⟨u, e1⟩)
/-! ### the rows -/
def isR (x : Str) : Row := (S (105 :: 115 :: 40 :: (tl x ++ [41])), [sd "is", .str x], 0)
def kt : List PyData → List Nat
  | [] => []
  | k :: ks => wr k ++ wrC ks
/-- a row's key is the text of its fields -/
def Ck (r : Row) : Prop := match r.2.1, r.2.2 with
  | [f], 0 => tl r.1 = wr f
  | [f], _ + 1 => tl r.1 = wr f ++ [40]
  | [f, g], 0 => tl r.1 = wr f ++ 40 :: (wr g ++ [41])
  | [f, g], _ + 1 => tl r.1 = wr f ++ 40 :: (wr g ++ [44])
  | [f, g, h], _ + 1 => tl r.1 = wr f ++ 40 :: (wr g ++ 44 :: (wr h ++ [44]))
  | _, _ => False
theorem ck_text {r : Row} (h : Ck r) {kids : List PyData} (hk : kids.length = r.2.2) : wrT (r.2.1 ++ kids) = tl r.1 ++ kt kids := by
  obtain ⟨key, fs, n⟩ := r
  unfold Ck at h
  dsimp only at h hk ⊢
  match fs, n, kids with
  | [f], 0, [] =>
    rw [h]
    show wrT [f] = _
    rw [wrT, wrR]
    rfl
  | [f], _ + 1, k :: ks =>
    rw [h]
    show wrT (f :: k :: ks) = _
    rw [wrT, wrR]
    simp [kt]
  | [f, g], 0, [] =>
    rw [h]
    show wrT [f, g] = _
    rw [wrT, wrR, wrC]
    simp [kt]
  | [f, g], _ + 1, k :: ks =>
    rw [h]
    show wrT (f :: g :: k :: ks) = _
    rw [wrT, wrR, wrC]
    simp [kt]
  | [f, g, z], _ + 1, k :: ks =>
    rw [h]
    show wrT (f :: g :: z :: k :: ks) = _
    rw [wrT, wrR, wrC, wrC]
    simp [kt]
structure Uni (U : List Row) : Prop where
  ck : ∀ r ∈ U, Ck r
  pf : ∀ r ∈ U, ∀ r' ∈ U, pre (tl r.1) (tl r'.1) = true → r = r'
  hd : ∀ r ∈ U, ∃ c t, tl r.1 = c :: t ∧ mk c = false
theorem hit_some {U tb : List Row} (hU : Uni U) (htb : ∀ r ∈ tb, r ∈ U) {r : Row} (hr : r ∈ tb) (t : List Nat) : hit tb (tl r.1 ++ t) = some r := by
  unfold hit
  cases e : tb.find? fun x => pre (tl x.1) (tl r.1 ++ t) with
  | none =>
    have := List.find?_eq_none.mp e r hr
    exact absurd (pre_self _ _) this
  | some x =>
    have hx := List.mem_of_find?_eq_some e
    have hp := List.find?_some e
    rcases pre_or hp with h | h
    · rw [hU.pf x (htb x hx) r (htb r hr) h]
    · rw [hU.pf r (htb r hr) x (htb x hx) h]
theorem hit_none {U tb : List Row} (hU : Uni U) (htb : ∀ r ∈ tb, r ∈ U) {r : Row} (hr : r ∈ U) (hn : r ∉ tb) (t : List Nat) : hit tb (tl r.1 ++ t) = none := by
  unfold hit
  refine List.find?_eq_none.mpr fun x hx hp => ?_
  rcases pre_or hp with h | h
  · rw [← hU.pf x (htb x hx) r hr h] at hn
    exact hn hx
  · rw [hU.pf r hr x (htb x hx) h] at hn
    exact hn hx
theorem pr_wr {U : List Row} (hU : Uni U) {d : PyData} {a : List Row} (h : Pr U d a) : ∃ c t, wr d = c :: t ∧ mk c = false := by
  cases h with
  | @mk r kids rows hr hk h =>
    obtain ⟨c, t, e, m⟩ := hU.hd r hr
    rw [wr, ck_text (hU.ck r hr) hk, e]
    exact ⟨c, _, rfl, m⟩
theorem beh_pr {U : List Row} (hU : Uni U) {d : PyData} {a : List Row} (h : Pr U d a) (t : List Nat) : beh (wr d ++ t) = wr d ++ t := by
  obtain ⟨c, u, e, m⟩ := pr_wr hU h
  rw [e]
  show beh (c :: (u ++ t)) = c :: (u ++ t)
  unfold beh
  rw [m]
  rfl
theorem go_row {U tb : List Row} (hU : Uni U) (htb : ∀ r ∈ tb, r ∈ U) {r : Row} (hr : r ∈ tb) {t : List Nat} {o : Option (List Row)} (h : Sc tb (beh t) o) : Sc tb (tl r.1 ++ t) (o.map (r :: ·)) := by
  obtain ⟨c, u, e, m⟩ := hU.hd r (htb r hr)
  refine .go (by rw [e]; simp) (hit_some hU htb hr t) ?_
  rw [List.drop_left]
  exact h
theorem map_cons_app (r : Row) (a : List Row) (o : Option (List Row)) : (o.map (a ++ ·)).map (r :: ·) = o.map ((r :: a) ++ ·) := by
  cases o <;> rfl
theorem map_app_app (a b : List Row) (o : Option (List Row)) : (o.map (b ++ ·)).map (a ++ ·) = o.map ((a ++ b) ++ ·) := by
  cases o
  · rfl
  · simp
theorem beh_44 {U : List Row} (hU : Uni U) {k : PyData} {a : List Row} (hx : Pr U k a) (t rest : List Nat) : beh ((44 :: (wr k ++ t)) ++ rest) = wr k ++ (t ++ rest) := by
  show beh (44 :: ((wr k ++ t) ++ rest)) = _
  rw [List.append_assoc]
  show beh (wr k ++ (t ++ rest)) = _
  exact beh_pr hU hx _
mutual
theorem sc_pr {U tb : List Row} (hU : Uni U) (htb : ∀ r ∈ tb, r ∈ U) : ∀ {d : PyData} {a : List Row} {rest : List Nat} {o : Option (List Row)}, Pr U d a → (∀ r ∈ a, r ∈ tb) → Sc tb (beh rest) o → Sc tb (wr d ++ rest) (o.map (a ++ ·))
  | _, _, rest, o, .mk (r := r) (kids := kids) (rows := rows) hr hk h, ha, hs => by
    have s1 := sc_prK hU htb h (fun x hx => ha x (List.mem_cons_of_mem _ hx)) hs
    have s3 := go_row hU htb (ha r (List.mem_cons_self ..)) s1
    rw [map_cons_app] at s3
    rw [wr, ck_text (hU.ck r hr) hk, List.append_assoc]
    exact s3
theorem sc_prK {U tb : List Row} (hU : Uni U) (htb : ∀ r ∈ tb, r ∈ U) : ∀ {ds : List PyData} {a : List Row} {rest : List Nat} {o : Option (List Row)}, PrL U ds a → (∀ r ∈ a, r ∈ tb) → Sc tb (beh rest) o → Sc tb (beh (kt ds ++ rest)) (o.map (a ++ ·))
  | _, _, rest, o, .nil, ha, h => by
    have e : (o.map fun x => ([] : List Row) ++ x) = o := by cases o <;> rfl
    rw [e]
    exact h
  | _, _, rest, o, .cons (d := k) (ds := ks) (a := a) (b := b) hx t, ha, h => by
    have s1 := sc_prC hU htb t (fun x hx => ha x (List.mem_append_right _ hx)) h
    have s2 := sc_pr hU htb hx (fun x hx => ha x (List.mem_append_left _ hx)) s1
    rw [map_app_app] at s2
    rw [show kt (k :: ks) = wr k ++ wrC ks from rfl, List.append_assoc, beh_pr hU hx]
    exact s2
theorem sc_prC {U tb : List Row} (hU : Uni U) (htb : ∀ r ∈ tb, r ∈ U) : ∀ {ds : List PyData} {a : List Row} {rest : List Nat} {o : Option (List Row)}, PrL U ds a → (∀ r ∈ a, r ∈ tb) → Sc tb (beh rest) o → Sc tb (beh (wrC ds ++ rest)) (o.map (a ++ ·))
  | _, _, rest, o, .nil, ha, h => by
    rw [wrC]
    have e : (o.map fun x => ([] : List Row) ++ x) = o := by cases o <;> rfl
    rw [e]
    exact h
  | _, _, rest, o, .cons (d := k) (ds := ks) (a := a) (b := b) hx t, ha, h => by
    have s1 := sc_prC hU htb t (fun x hx => ha x (List.mem_append_right _ hx)) h
    have s2 := sc_pr hU htb hx (fun x hx => ha x (List.mem_append_left _ hx)) s1
    rw [map_app_app] at s2
    rw [wrC, beh_44 hU hx]
    exact s2
end
theorem bad_app {tb a b : List Row} (h : ∃ r ∈ a ++ b, r ∉ tb) : (∃ r ∈ a, r ∉ tb) ∨ ((∀ r ∈ a, r ∈ tb) ∧ ∃ r ∈ b, r ∉ tb) := by
  by_cases hg : ∃ r ∈ a, r ∉ tb
  · exact .inl hg
  · refine .inr ⟨fun x hx => Classical.byContradiction fun hn => hg ⟨x, hx, hn⟩, ?_⟩
    obtain ⟨x, hx, hn⟩ := h
    rcases List.mem_append.mp hx with hx | hx
    · exact absurd ⟨x, hx, hn⟩ hg
    · exact ⟨x, hx, hn⟩
mutual
theorem sc_bad {U tb : List Row} (hU : Uni U) (htb : ∀ r ∈ tb, r ∈ U) : ∀ {d : PyData} {a : List Row} {rest : List Nat}, Pr U d a → (∃ r ∈ a, r ∉ tb) → Sc tb (wr d ++ rest) none
  | _, _, rest, .mk (r := r) (kids := kids) (rows := rows) hr hk h, ha => by
    obtain ⟨c, u, e, m⟩ := hU.hd r hr
    rw [wr, ck_text (hU.ck r hr) hk, List.append_assoc]
    by_cases hrt : r ∈ tb
    · have hb : ∃ x ∈ rows, x ∉ tb := by
        obtain ⟨x, hx, hn⟩ := ha
        rcases List.mem_cons.mp hx with rfl | hx
        · exact absurd hrt hn
        · exact ⟨x, hx, hn⟩
      exact go_row (o := none) hU htb hrt (sc_badK hU htb h hb)
    · exact .no (by rw [e]; simp) (hit_none hU htb hr hrt _)
theorem sc_badK {U tb : List Row} (hU : Uni U) (htb : ∀ r ∈ tb, r ∈ U) : ∀ {ds : List PyData} {a : List Row} {rest : List Nat}, PrL U ds a → (∃ r ∈ a, r ∉ tb) → Sc tb (beh (kt ds ++ rest)) none
  | _, _, rest, .nil, hb => by
    obtain ⟨x, hx, _⟩ := hb
    cases hx
  | _, _, rest, .cons (d := k) (ds := ks) (a := a) (b := b) hx t, hb => by
    rw [show kt (k :: ks) = wr k ++ wrC ks from rfl, List.append_assoc, beh_pr hU hx]
    rcases bad_app hb with h | ⟨h1, h2⟩
    · exact sc_bad hU htb hx h
    · exact sc_pr (o := none) hU htb hx h1 (sc_badC hU htb t h2)
theorem sc_badC {U tb : List Row} (hU : Uni U) (htb : ∀ r ∈ tb, r ∈ U) : ∀ {ds : List PyData} {a : List Row} {rest : List Nat}, PrL U ds a → (∃ r ∈ a, r ∉ tb) → Sc tb (beh (wrC ds ++ rest)) none
  | _, _, rest, .nil, hb => by
    obtain ⟨x, hx, _⟩ := hb
    cases hx
  | _, _, rest, .cons (d := k) (ds := ks) (a := a) (b := b) hx t, hb => by
    rw [wrC, beh_44 hU hx]
    rcases bad_app hb with h | ⟨h1, h2⟩
    · exact sc_bad hU htb hx h
    · exact sc_pr (o := none) hU htb hx h1 (sc_badC hU htb t h2)
end
/-! ### the menu's rows -/
def menu : List Str := ["a", "now", "tick", "zz", "b", "is", "abcdefgh"]
def menu9 : List Str := menu ++ (["other", "x"] : List Str)
def UT : List Row := tab0 ++ menu9.map isR
theorem numL1 : numL 1 = [49] := by decide +kernel
theorem ck_UT : ∀ r ∈ UT, Ck r := by
  intro r hr
  have key : ∀ l : List Row, (∀ i, (h : i < l.length) → Ck l[i]) → ∀ r ∈ l, Ck r := fun l h r hr => by
    obtain ⟨i, hi, e⟩ := List.getElem_of_mem hr
    rw [← e]
    exact h i hi
  unfold UT tab0 menu9 menu at hr
  simp only [List.map, List.cons_append, List.nil_append, List.append_eq, List.mem_cons, List.not_mem_nil, or_false] at hr
  have u0 : intL 0 = [48] := by decide +kernel
  have u1 : intL 1 = [49] := by decide +kernel
  have u2 : intL 2 = [50] := by decide +kernel
  have u3 : intL 3 = [51] := by decide +kernel
  rcases hr with rfl | rfl | rfl | rfl | rfl | rfl | rfl | rfl | rfl | rfl | rfl | rfl | rfl | rfl | rfl | rfl | rfl | rfl | rfl | rfl | rfl | rfl | rfl | rfl | rfl | rfl | rfl | rfl | rfl | rfl | rfl <;>
    (first | unfold Ck | skip) <;> (try unfold isR) <;> dsimp only <;> simp only [sd, wr, u0, u1, u2, u3] <;> first | decide +kernel | rfl
theorem uni_UT : Uni UT where
  ck := ck_UT
  pf := fun r hr r' hr' hp => by
    have key : ∀ i : Fin UT.length, ∀ j : Fin UT.length, pre (tl (UT[i.1]'i.2).1) (tl (UT[j.1]'j.2).1) = true → i = j := by decide +kernel
    obtain ⟨i, hi, rfl⟩ := List.getElem_of_mem hr
    obtain ⟨j, hj, rfl⟩ := List.getElem_of_mem hr'
    have e := key ⟨i, hi⟩ ⟨j, hj⟩ hp
    have e2 : i = j := congrArg Fin.val e
    subst e2
    rfl
  hd := fun r hr => by
    have key : ∀ i : Fin UT.length, (match tl (UT[i.1]'i.2).1 with | c :: _ => !mk c | [] => false) = true := by decide +kernel
    obtain ⟨i, hi, rfl⟩ := List.getElem_of_mem hr
    have := key ⟨i, hi⟩
    dsimp only at this
    split at this
    · rename_i c t e
      exact ⟨c, t, e, by simpa using this⟩
    · cases this
end My

namespace My
open PySem PySem.Spec PyProof.Rows L2
/-! ### the text -/
def topS (i : Nat) : Stmt := PySem.Challenge.pw_keeproom_k08_whole_order_alone.main.body.getD i (.Pass ⟨0, 0, 0, 0⟩)
abbrev s_law_draw : Stmt := topS 27
theorem sc_law_draw : FnScope ["tape", "at", "many", "number"] ["tape", "at", "many"] (defScope s_law_draw) := ⟨rfl, rfl, rfl, by decide +kernel, rfl, by decide +kernel, by decide +kernel⟩
abbrev s_law_take : Stmt := topS 29
theorem sc_law_take : FnScope ["state", "many"] ["state", "many"] (defScope s_law_take) := ⟨rfl, rfl, rfl, by decide +kernel, rfl, by decide +kernel, by decide +kernel⟩
abbrev s_law_names : Stmt := topS 35
theorem sc_law_names : FnScope ["state", "menu", "first", "k"] ["state"] (defScope s_law_names) := ⟨rfl, rfl, rfl, by decide +kernel, rfl, by decide +kernel, by decide +kernel⟩
abbrev s_law_leaf : Stmt := topS 36
theorem sc_law_leaf : FnScope ["state", "names", "pick"] ["state", "names"] (defScope s_law_leaf) := ⟨rfl, rfl, rfl, by decide +kernel, rfl, by decide +kernel, by decide +kernel⟩
abbrev s_law_tree : Stmt := topS 37
theorem sc_law_tree : FnScope ["state", "names", "room", "pick", "many", "kids", "first", "word", "k"] ["state", "names", "room"] (defScope s_law_tree) := ⟨rfl, rfl, rfl, by decide +kernel, rfl, by decide +kernel, by decide +kernel⟩
abbrev s_law_common : Stmt := topS 30
theorem sc_law_common : FnScope ["one", "other", "k", "rest"] ["one", "other"] (defScope s_law_common) := ⟨rfl, rfl, rfl, by decide +kernel, rfl, by decide +kernel, by decide +kernel⟩
abbrev s_law_pair : Stmt := topS 31
theorem sc_law_pair : FnScope ["top", "bottom", "common"] ["top", "bottom"] (defScope s_law_pair) := ⟨rfl, rfl, rfl, by decide +kernel, rfl, by decide +kernel, by decide +kernel⟩
abbrev s_law_number : Stmt := topS 32
theorem sc_law_number : FnScope ["state"] ["state"] (defScope s_law_number) := ⟨rfl, rfl, rfl, by decide +kernel, rfl, by decide +kernel, by decide +kernel⟩
abbrev s_law_row : Stmt := topS 38
theorem sc_law_row : FnScope ["state", "names", "most", "row", "k", "number"] ["state", "names", "most"] (defScope s_law_row) := ⟨rfl, rfl, rfl, by decide +kernel, rfl, by decide +kernel, by decide +kernel⟩
abbrev s_law_less : Stmt := topS 33
theorem sc_law_less : FnScope ["one", "other"] ["one", "other"] (defScope s_law_less) := ⟨rfl, rfl, rfl, by decide +kernel, rfl, by decide +kernel, by decide +kernel⟩
abbrev s_law_with : Stmt := topS 34
theorem sc_law_with : FnScope ["among", "number", "lower", "higher", "one"] ["among", "number"] (defScope s_law_with) := ⟨rfl, rfl, rfl, by decide +kernel, rfl, by decide +kernel, by decide +kernel⟩
abbrev s_law_others : Stmt := topS 39
theorem sc_law_others : FnScope ["state", "among", "others", "k", "top", "one"] ["state", "among"] (defScope s_law_others) := ⟨rfl, rfl, rfl, by decide +kernel, rfl, by decide +kernel, by decide +kernel⟩
abbrev s_questions_in : Stmt := topS 6
theorem sc_questions_in : FnScope ["tree", "item"] ["tree"] (defScope s_questions_in) := ⟨rfl, rfl, rfl, by decide +kernel, rfl, by decide +kernel, by decide +kernel⟩
abbrev s_parts : Stmt := topS 5
theorem sc_parts : FnScope ["tree", "count", "waiting", "part"] ["tree"] (defScope s_parts) := ⟨rfl, rfl, rfl, by decide +kernel, rfl, by decide +kernel, by decide +kernel⟩
abbrev s_first_cells : Stmt := topS 18
theorem sc_first_cells : FnScope ["tree"] ["tree"] (defScope s_first_cells) := ⟨rfl, rfl, rfl, by decide +kernel, rfl, by decide +kernel, by decide +kernel⟩
abbrev s_law_tape : Stmt := topS 26
theorem sc_law_tape : FnScope ["script", "tape", "cell", "number", "k", "first"] ["script"] (defScope s_law_tape) := ⟨rfl, rfl, rfl, by decide +kernel, rfl, by decide +kernel, by decide +kernel⟩
abbrev s_hear_below : Stmt := topS 21
theorem sc_hear_below : FnScope ["tree", "below", "name", "number", "cells_of_a", "a_answers", "part", "cells"] ["tree", "below", "name", "number"] (defScope s_hear_below) := ⟨rfl, rfl, rfl, by decide +kernel, rfl, by decide +kernel, by decide +kernel⟩
abbrev s_cells_below : Stmt := topS 20
theorem sc_cells_below : FnScope ["tree", "cells", "below", "start", "part", "end"] ["tree", "cells"] (defScope s_cells_below) := ⟨rfl, rfl, rfl, by decide +kernel, rfl, by decide +kernel, by decide +kernel⟩
abbrev s_less : Stmt := topS 1
theorem sc_less : FnScope ["a", "b"] ["a", "b"] (defScope s_less) := ⟨rfl, rfl, rfl, by decide +kernel, rfl, by decide +kernel, by decide +kernel⟩
abbrev s_position : Stmt := topS 2
theorem sc_position : FnScope ["number", "among", "rank", "end", "middle"] ["number", "among"] (defScope s_position) := ⟨rfl, rfl, rfl, by decide +kernel, rfl, by decide +kernel, by decide +kernel⟩
abbrev s_put_in : Stmt := topS 3
theorem sc_put_in : FnScope ["number", "among", "place", "rank"] ["number", "among"] (defScope s_put_in) := ⟨rfl, rfl, rfl, by decide +kernel, rfl, by decide +kernel, by decide +kernel⟩
abbrev s_cell_by_order : Stmt := topS 23
theorem sc_cell_by_order : FnScope ["word", "k", "cell", "told", "held", "answer"] ["word", "k", "cell", "told"] (defScope s_cell_by_order) := ⟨rfl, rfl, rfl, by decide +kernel, rfl, by decide +kernel, by decide +kernel⟩
abbrev s_cell_by_count : Stmt := topS 24
theorem sc_cell_by_count : FnScope ["tree", "cell", "told", "number", "count", "k"] ["tree", "cell", "told", "number"] (defScope s_cell_by_count) := ⟨rfl, rfl, rfl, by decide +kernel, rfl, by decide +kernel, by decide +kernel⟩
abbrev s_answer_now : Stmt := topS 9
theorem sc_answer_now : FnScope ["tree", "told", "name", "number", "word"] ["tree", "told", "name", "number"] (defScope s_answer_now) := ⟨rfl, rfl, rfl, by decide +kernel, rfl, by decide +kernel, by decide +kernel⟩
abbrev s_own_cell : Stmt := topS 22
theorem sc_own_cell : FnScope ["tree", "cells", "told", "name", "number", "answer", "count", "held", "word"] ["tree", "cells", "told", "name", "number"] (defScope s_own_cell) := ⟨rfl, rfl, rfl, by decide +kernel, rfl, by decide +kernel, by decide +kernel⟩
abbrev s_hear_cells : Stmt := topS 19
theorem sc_hear_cells : FnScope ["tree", "cells", "name", "number", "heard", "part_cells", "told", "new"] ["tree", "cells", "name", "number"] (defScope s_hear_cells) := ⟨rfl, rfl, rfl, by decide +kernel, rfl, by decide +kernel, by decide +kernel⟩
abbrev s_law_replaced : Stmt := topS 40
theorem sc_law_replaced : FnScope ["value", "among", "others"] ["value", "among", "others"] (defScope s_law_replaced) := ⟨rfl, rfl, rfl, by decide +kernel, rfl, by decide +kernel, by decide +kernel⟩
abbrev s_counts : Stmt := topS 14
theorem sc_counts : FnScope ["told", "counts", "count", "answer"] ["told"] (defScope s_counts) := ⟨rfl, rfl, rfl, by decide +kernel, rfl, by decide +kernel, by decide +kernel⟩
abbrev s_by_count : Stmt := topS 13
theorem sc_by_count : FnScope ["tree", "told", "row", "answers", "_", "number", "count", "is_met"] ["tree", "told", "row"] (defScope s_by_count) := ⟨rfl, rfl, rfl, by decide +kernel, rfl, by decide +kernel, by decide +kernel⟩
abbrev s_answers_since : Stmt := topS 15
theorem sc_answers_since : FnScope ["tree", "row", "answers", "left", "record", "answer"] ["tree", "row"] (defScope s_answers_since) := ⟨rfl, rfl, rfl, by decide +kernel, rfl, by decide +kernel, by decide +kernel⟩
abbrev s_answers_among : Stmt := topS 16
theorem sc_answers_among : FnScope ["tree", "row", "told", "left", "answers", "record", "answer", "count"] ["tree", "row"] (defScope s_answers_among) := ⟨rfl, rfl, rfl, by decide +kernel, rfl, by decide +kernel, by decide +kernel⟩
abbrev s_latest_or_first : Stmt := topS 11
theorem sc_latest_or_first : FnScope ["word", "told", "answers", "found", "answer"] ["word", "told"] (defScope s_latest_or_first) := ⟨rfl, rfl, rfl, by decide +kernel, rfl, by decide +kernel, by decide +kernel⟩
abbrev s_by_order : Stmt := topS 12
theorem sc_by_order : FnScope ["word", "k", "told", "answers", "different", "answer"] ["word", "k", "told"] (defScope s_by_order) := ⟨rfl, rfl, rfl, by decide +kernel, rfl, by decide +kernel, by decide +kernel⟩
abbrev s_answers : Stmt := topS 10
theorem sc_answers : FnScope ["tree", "row", "word", "told", "part", "at", "name", "number", "answers"] ["tree", "row"] (defScope s_answers) := ⟨rfl, rfl, rfl, by decide +kernel, rfl, by decide +kernel, by decide +kernel⟩
abbrev s_meaning : Stmt := topS 8
theorem sc_meaning : FnScope ["tree", "row"] ["tree", "row"] (defScope s_meaning) := ⟨rfl, rfl, rfl, by decide +kernel, rfl, by decide +kernel, by decide +kernel⟩
abbrev s_law_equal : Stmt := topS 28
theorem sc_law_equal : FnScope ["actual", "due", "k"] ["actual", "due"] (defScope s_law_equal) := ⟨rfl, rfl, rfl, by decide +kernel, rfl, by decide +kernel, by decide +kernel⟩
abbrev s_law_alike : Stmt := topS 41
theorem sc_law_alike : FnScope ["cells", "twins", "among", "others", "k", "held", "due", "one"] ["cells", "twins", "among", "others"] (defScope s_law_alike) := ⟨rfl, rfl, rfl, by decide +kernel, rfl, by decide +kernel, by decide +kernel⟩
abbrev s_law : Stmt := topS 42
theorem sc_law : FnScope ["script", "state", "names", "tree", "row", "among", "name", "number", "others", "twin", "cells", "twins", "k", "due"] ["script"] (defScope s_law) := ⟨rfl, rfl, rfl, by decide +kernel, rfl, by decide +kernel, by decide +kernel⟩
structure Top (K : PySem.W.Frag) (mg : Str → Option Value) (w : World) : Type where
  a_law_draw : Addr
  d_law_draw : FuncData
  F_law_draw : Fun K "_law_draw" "_law_draw" s_law_draw a_law_draw d_law_draw
  b_law_draw : Binds K d_law_draw ["tape", "at", "many"] []
  m_law_draw : mg "_law_draw" = some (.ref a_law_draw)
  a_law_take : Addr
  d_law_take : FuncData
  F_law_take : Fun K "_law_take" "_law_take" s_law_take a_law_take d_law_take
  b_law_take : Binds K d_law_take ["state", "many"] []
  m_law_take : mg "_law_take" = some (.ref a_law_take)
  a_law_names : Addr
  d_law_names : FuncData
  F_law_names : Fun K "_law_names" "_law_names" s_law_names a_law_names d_law_names
  b_law_names : Binds K d_law_names ["state"] []
  m_law_names : mg "_law_names" = some (.ref a_law_names)
  a_law_leaf : Addr
  d_law_leaf : FuncData
  F_law_leaf : Fun K "_law_leaf" "_law_leaf" s_law_leaf a_law_leaf d_law_leaf
  b_law_leaf : Binds K d_law_leaf ["state", "names"] []
  m_law_leaf : mg "_law_leaf" = some (.ref a_law_leaf)
  a_law_tree : Addr
  d_law_tree : FuncData
  F_law_tree : Fun K "_law_tree" "_law_tree" s_law_tree a_law_tree d_law_tree
  b_law_tree : Binds K d_law_tree ["state", "names", "room"] []
  m_law_tree : mg "_law_tree" = some (.ref a_law_tree)
  a_law_common : Addr
  d_law_common : FuncData
  F_law_common : Fun K "_law_common" "_law_common" s_law_common a_law_common d_law_common
  b_law_common : Binds K d_law_common ["one", "other"] []
  m_law_common : mg "_law_common" = some (.ref a_law_common)
  a_law_pair : Addr
  d_law_pair : FuncData
  F_law_pair : Fun K "_law_pair" "_law_pair" s_law_pair a_law_pair d_law_pair
  b_law_pair : Binds K d_law_pair ["top", "bottom"] []
  m_law_pair : mg "_law_pair" = some (.ref a_law_pair)
  a_law_number : Addr
  d_law_number : FuncData
  F_law_number : Fun K "_law_number" "_law_number" s_law_number a_law_number d_law_number
  b_law_number : Binds K d_law_number ["state"] []
  m_law_number : mg "_law_number" = some (.ref a_law_number)
  a_law_row : Addr
  d_law_row : FuncData
  F_law_row : Fun K "_law_row" "_law_row" s_law_row a_law_row d_law_row
  b_law_row : Binds K d_law_row ["state", "names", "most"] []
  m_law_row : mg "_law_row" = some (.ref a_law_row)
  a_law_less : Addr
  d_law_less : FuncData
  F_law_less : Fun K "_law_less" "_law_less" s_law_less a_law_less d_law_less
  b_law_less : Binds K d_law_less ["one", "other"] []
  m_law_less : mg "_law_less" = some (.ref a_law_less)
  a_law_with : Addr
  d_law_with : FuncData
  F_law_with : Fun K "_law_with" "_law_with" s_law_with a_law_with d_law_with
  b_law_with : Binds K d_law_with ["among", "number"] []
  m_law_with : mg "_law_with" = some (.ref a_law_with)
  a_law_others : Addr
  d_law_others : FuncData
  F_law_others : Fun K "_law_others" "_law_others" s_law_others a_law_others d_law_others
  b_law_others : Binds K d_law_others ["state", "among"] []
  m_law_others : mg "_law_others" = some (.ref a_law_others)
  a_questions_in : Addr
  d_questions_in : FuncData
  F_questions_in : Fun K "questions_in" "questions_in" s_questions_in a_questions_in d_questions_in
  b_questions_in : Binds K d_questions_in ["tree"] []
  m_questions_in : mg "questions_in" = some (.ref a_questions_in)
  a_parts : Addr
  d_parts : FuncData
  F_parts : Fun K "parts" "parts" s_parts a_parts d_parts
  b_parts : Binds K d_parts ["tree"] []
  m_parts : mg "parts" = some (.ref a_parts)
  a_first_cells : Addr
  d_first_cells : FuncData
  F_first_cells : Fun K "first_cells" "first_cells" s_first_cells a_first_cells d_first_cells
  b_first_cells : Binds K d_first_cells ["tree"] []
  m_first_cells : mg "first_cells" = some (.ref a_first_cells)
  a_law_tape : Addr
  d_law_tape : FuncData
  F_law_tape : Fun K "_law_tape" "_law_tape" s_law_tape a_law_tape d_law_tape
  b_law_tape : Binds K d_law_tape ["script"] []
  m_law_tape : mg "_law_tape" = some (.ref a_law_tape)
  a_hear_below : Addr
  d_hear_below : FuncData
  F_hear_below : Fun K "_hear_below" "_hear_below" s_hear_below a_hear_below d_hear_below
  b_hear_below : Binds K d_hear_below ["tree", "below", "name", "number"] []
  m_hear_below : mg "_hear_below" = some (.ref a_hear_below)
  a_cells_below : Addr
  d_cells_below : FuncData
  F_cells_below : Fun K "_cells_below" "_cells_below" s_cells_below a_cells_below d_cells_below
  b_cells_below : Binds K d_cells_below ["tree", "cells"] []
  m_cells_below : mg "_cells_below" = some (.ref a_cells_below)
  a_less : Addr
  d_less : FuncData
  F_less : Fun K "less" "less" s_less a_less d_less
  b_less : Binds K d_less ["a", "b"] []
  m_less : mg "less" = some (.ref a_less)
  a_position : Addr
  d_position : FuncData
  F_position : Fun K "position" "position" s_position a_position d_position
  b_position : Binds K d_position ["number", "among"] []
  m_position : mg "position" = some (.ref a_position)
  a_put_in : Addr
  d_put_in : FuncData
  F_put_in : Fun K "put_in" "put_in" s_put_in a_put_in d_put_in
  b_put_in : Binds K d_put_in ["number", "among"] []
  m_put_in : mg "put_in" = some (.ref a_put_in)
  a_cell_by_order : Addr
  d_cell_by_order : FuncData
  F_cell_by_order : Fun K "_cell_by_order" "_cell_by_order" s_cell_by_order a_cell_by_order d_cell_by_order
  b_cell_by_order : Binds K d_cell_by_order ["word", "k", "cell", "told"] []
  m_cell_by_order : mg "_cell_by_order" = some (.ref a_cell_by_order)
  a_cell_by_count : Addr
  d_cell_by_count : FuncData
  F_cell_by_count : Fun K "_cell_by_count" "_cell_by_count" s_cell_by_count a_cell_by_count d_cell_by_count
  b_cell_by_count : Binds K d_cell_by_count ["tree", "cell", "told", "number"] []
  m_cell_by_count : mg "_cell_by_count" = some (.ref a_cell_by_count)
  a_answer_now : Addr
  d_answer_now : FuncData
  F_answer_now : Fun K "answer_now" "answer_now" s_answer_now a_answer_now d_answer_now
  b_answer_now : Binds K d_answer_now ["tree", "told", "name", "number"] []
  m_answer_now : mg "answer_now" = some (.ref a_answer_now)
  a_own_cell : Addr
  d_own_cell : FuncData
  F_own_cell : Fun K "_own_cell" "_own_cell" s_own_cell a_own_cell d_own_cell
  b_own_cell : Binds K d_own_cell ["tree", "cells", "told", "name", "number"] []
  m_own_cell : mg "_own_cell" = some (.ref a_own_cell)
  a_hear_cells : Addr
  d_hear_cells : FuncData
  F_hear_cells : Fun K "hear_cells" "hear_cells" s_hear_cells a_hear_cells d_hear_cells
  b_hear_cells : Binds K d_hear_cells ["tree", "cells", "name", "number"] []
  m_hear_cells : mg "hear_cells" = some (.ref a_hear_cells)
  a_law_replaced : Addr
  d_law_replaced : FuncData
  F_law_replaced : Fun K "_law_replaced" "_law_replaced" s_law_replaced a_law_replaced d_law_replaced
  b_law_replaced : Binds K d_law_replaced ["value", "among", "others"] []
  m_law_replaced : mg "_law_replaced" = some (.ref a_law_replaced)
  a_counts : Addr
  d_counts : FuncData
  F_counts : Fun K "_counts" "_counts" s_counts a_counts d_counts
  b_counts : Binds K d_counts ["told"] []
  m_counts : mg "_counts" = some (.ref a_counts)
  a_by_count : Addr
  d_by_count : FuncData
  F_by_count : Fun K "_by_count" "_by_count" s_by_count a_by_count d_by_count
  b_by_count : Binds K d_by_count ["tree", "told", "row"] []
  m_by_count : mg "_by_count" = some (.ref a_by_count)
  a_answers_since : Addr
  d_answers_since : FuncData
  F_answers_since : Fun K "_answers_since" "_answers_since" s_answers_since a_answers_since d_answers_since
  b_answers_since : Binds K d_answers_since ["tree", "row"] []
  m_answers_since : mg "_answers_since" = some (.ref a_answers_since)
  a_answers_among : Addr
  d_answers_among : FuncData
  F_answers_among : Fun K "_answers_among" "_answers_among" s_answers_among a_answers_among d_answers_among
  b_answers_among : Binds K d_answers_among ["tree", "row"] []
  m_answers_among : mg "_answers_among" = some (.ref a_answers_among)
  a_latest_or_first : Addr
  d_latest_or_first : FuncData
  F_latest_or_first : Fun K "_latest_or_first" "_latest_or_first" s_latest_or_first a_latest_or_first d_latest_or_first
  b_latest_or_first : Binds K d_latest_or_first ["word", "told"] []
  m_latest_or_first : mg "_latest_or_first" = some (.ref a_latest_or_first)
  a_by_order : Addr
  d_by_order : FuncData
  F_by_order : Fun K "_by_order" "_by_order" s_by_order a_by_order d_by_order
  b_by_order : Binds K d_by_order ["word", "k", "told"] []
  m_by_order : mg "_by_order" = some (.ref a_by_order)
  a_answers : Addr
  d_answers : FuncData
  F_answers : Fun K "_answers" "_answers" s_answers a_answers d_answers
  b_answers : Binds K d_answers ["tree", "row"] []
  m_answers : mg "_answers" = some (.ref a_answers)
  a_meaning : Addr
  d_meaning : FuncData
  F_meaning : Fun K "meaning" "meaning" s_meaning a_meaning d_meaning
  b_meaning : Binds K d_meaning ["tree", "row"] []
  m_meaning : mg "meaning" = some (.ref a_meaning)
  a_law_equal : Addr
  d_law_equal : FuncData
  F_law_equal : Fun K "_law_equal" "_law_equal" s_law_equal a_law_equal d_law_equal
  b_law_equal : Binds K d_law_equal ["actual", "due"] []
  m_law_equal : mg "_law_equal" = some (.ref a_law_equal)
  a_law_alike : Addr
  d_law_alike : FuncData
  F_law_alike : Fun K "_law_alike" "_law_alike" s_law_alike a_law_alike d_law_alike
  b_law_alike : Binds K d_law_alike ["cells", "twins", "among", "others"] []
  m_law_alike : mg "_law_alike" = some (.ref a_law_alike)
  a_law : Addr
  d_law : FuncData
  F_law : Fun K "law" "law" s_law a_law d_law
  b_law : Binds K d_law ["script"] []
  m_law : mg "law" = some (.ref a_law)
  z_abs : mg "abs" = none
  z_bool : mg "bool" = none
  z_enumerate : mg "enumerate" = none
  z_int : mg "int" = none
  z_isinstance : mg "isinstance" = none
  z_len : mg "len" = none
  z_list : mg "list" = none
  z_max : mg "max" = none
  z_min : mg "min" = none
  z_range : mg "range" = none
  z_str : mg "str" = none
  z_tuple : mg "tuple" = none
  z_zip : mg "zip" = none

/-! ### heaps -/
theorem same_upd {H : Hp} {p : Addr} {o : HO} (h : H p = none) : Same H (upd H p o) := fun b x e => by
  rw [upd_ne (ne_of_none e h)]
  exact e
theorem same_upd2 {H H' : Hp} {p : Addr} {o : HO} (h : H p = none) (s : Same H H') : Same H (upd H' p o) := fun b x e => by
  rw [upd_ne (ne_of_none e h)]
  exact s _ _ e
theorem small {n : Nat} (h : n ≤ 100000) : n ≤ sizeLine := Nat.le_trans h (by decide)
theorem smallL {n : Nat} (h : n < 100000) : n < sizeLine := Nat.lt_of_lt_of_le h (by decide)
theorem ite_dec {c : Prop} [Decidable c] {A B : Prop} (h1 : c → A) (h2 : ¬ c → B) : if decide c = true then A else B := by
  by_cases h : c
  · rw [if_pos (decide_eq_true h)]; exact h1 h
  · rw [if_neg (fun q => h (of_decide_eq_true q))]; exact h2 h
theorem ifT {c : Bool} {A B : Prop} (h : A) (e : c = true := by rfl) : if c = true then A else B := by
  rw [e]
  exact iteT h
theorem ifF {c : Bool} {A B : Prop} (h : B) (e : c = false := by rfl) : if c = true then A else B := by
  rw [e]
  exact iteF h
theorem ite_b {b : Bool} {A B : Prop} (h1 : b = true → A) (h2 : b = false → B) : if b = true then A else B := by
  cases b
  · exact iteF (h2 rfl)
  · exact iteT (h1 rfl)
theorem ite_nb {b : Bool} {A B : Prop} (h1 : b = false → A) (h2 : b = true → B) : if (!b) = true then A else B := by
  cases b
  · exact iteT (h1 rfl)
  · exact iteF (h2 rfl)

theorem bnd_app {ts : List Int} {lo hi : Int} {v : Int} (h : ∀ t ∈ ts, lo ≤ t ∧ t < hi) (hv : lo ≤ v ∧ v < hi) : ∀ t ∈ ts ++ [v], lo ≤ t ∧ t < hi := fun t ht => by
  rcases List.mem_append.mp ht with h1 | h1
  · exact h t h1
  · rw [List.mem_singleton.mp h1]; exact hv
/-! ### heaps that are alike but for the list at st -/
def SX (st : Addr) (H H' : Hp) : Prop := (∀ b o, H b = some o → (b = st → ∀ xs, o ≠ .lst xs) → H' b = some o) ∧ ∀ tp v, H st = some (.lst [.ref tp, v]) → ∃ v', H' st = some (.lst [.ref tp, v'])
theorem SX.refl (st : Addr) (H : Hp) : SX st H H := ⟨fun _ _ h _ => h, fun _ v h => ⟨v, h⟩⟩
theorem SX.trans {st : Addr} {H H1 H2 : Hp} (a : SX st H H1) (b : SX st H1 H2) : SX st H H2 := ⟨fun c o h k => b.1 c o (a.1 c o h k) k, fun tp v h => by
  obtain ⟨v1, h1⟩ := a.2 tp v h
  exact b.2 tp v1 h1⟩
theorem SX.same {st : Addr} {H H' : Hp} (a : Same H H') : SX st H H' := ⟨fun b o h _ => a b o h, fun _ v h => ⟨v, a _ _ h⟩⟩
theorem SX.new {st : Addr} {H : Hp} {p : Addr} {o : HO} (h : H p = none) : SX st H (upd H p o) := .same (same_upd h)
theorem SX.new2 {st : Addr} {H H' : Hp} {p : Addr} {o : HO} (h : H p = none) (a : SX st H H') : SX st H (upd H' p o) := ⟨fun b u e k => by
  rw [upd_ne (ne_of_none e h)]
  exact a.1 b u e k, fun tp v e => by
  rw [upd_ne (ne_of_none e h)]
  exact a.2 tp v e⟩
theorem SX.at {st : Addr} {H : Hp} {tp : Addr} {v v' : V} (h : H st = some (.lst [.ref tp, v])) : SX st H (upd H st (.lst [.ref tp, v'])) := ⟨fun b u e k => by
  by_cases hb : b = st
  · subst hb
    rw [h] at e
    cases e
    exact absurd rfl (k rfl _)
  · rw [upd_ne hb]
    exact e, fun t u e => by
  rw [h] at e
  cases e
  exact ⟨v', upd_same⟩⟩
theorem SX.seqT {K : PySem.W.Frag} {st : Addr} {H H' : Hp} {a : Addr} {xs : List V} (e : SX st H H') (h : SqT K H a xs) : SqT K H' a xs := by
  rcases h with (h | ⟨o, h⟩) | h
  · exact .inl (.inl (e.1 _ _ h fun _ _ q => by cases q))
  · exact .inl (.inr ⟨o, e.1 _ _ h fun _ _ q => by cases q⟩)
  · exact .inr h
theorem SX.lst {st : Addr} {H H' : Hp} {a : Addr} {xs : List V} (e : SX st H H') (ha : a ≠ st) (h : H a = some (.lst xs)) : H' a = some (.lst xs) := e.1 _ _ h fun q => absurd q ha
/-- the law's tape and its place -/
def TapeOk (ts : List Int) : Prop := ts.length ≤ 2520 ∧ ∀ t ∈ ts, 0 ≤ t ∧ t < 2147483629
structure St (H : Hp) (st : Addr) (n : Nat) : Prop where
  ex : ∃ (tp : Addr) (ts : List Int), H st = some (.lst [.ref tp, .int (n : Int)]) ∧ tp ≠ st ∧ H tp = some (.lst (ts.map V.int)) ∧ TapeOk ts
theorem St.same {H H' : Hp} {st : Addr} {n : Nat} (h : St H st n) (e : Same H H') : St H' st n := by
  obtain ⟨tp, ts, h1, h2, h3, h4⟩ := h.ex
  exact ⟨tp, ts, e _ _ h1, h2, e _ _ h3, h4⟩
theorem St.new {H : Hp} {st : Addr} {n : Nat} {p : Addr} {o : HO} (h : St H st n) (hp : H p = none) : St (upd H p o) st n := h.same (same_upd hp)
theorem St.upd {H1 H2 : Hp} {st D : Addr} {n n2 : Nat} {o : HO} (s1 : St H1 st n) (hD : H1 D = none) (x : SX st H1 H2) (s2 : St H2 st n2) : St (upd H2 D o) st n2 := by
  obtain ⟨tp, ts, h1, h2, h3, h4⟩ := s1.ex
  obtain ⟨tp2, ts2, k1, k2, k3, k4⟩ := s2.ex
  obtain ⟨v, e⟩ := x.2 _ _ h1
  have k1' := k1
  rw [e] at k1
  have et : tp = tp2 := by
    injection k1 with k1
    injection k1 with k1
    injection k1 with k1 _
    injection k1
  subst et
  exact ⟨tp, ts2, by rw [upd_ne (fun z => by rw [z, hD] at h1; cases h1)]; exact k1', k2, by rw [upd_ne (fun z => by rw [z, hD] at h3; cases h3)]; exact k3, k4⟩
theorem St.isL {H : Hp} {st : Addr} {n : Nat} (h : St H st n) : ∃ xs, H st = some (.lst xs) := by
  obtain ⟨tp, ts, h1, _⟩ := h.ex
  exact ⟨_, h1⟩
/-! ### data -/
/-- at most n deep, no dicts, bounded widths -/
def Sh : Nat → PyData → Prop
  | _, .none => True
  | _, .bool _ => True
  | _, .int _ => True
  | _, .str _ => True
  | 0, _ => False
  | n + 1, .list xs => xs.length ≤ 1000000 ∧ ∀ x ∈ xs, Sh n x
  | n + 1, .tuple xs => xs.length ≤ 1000000 ∧ ∀ x ∈ xs, Sh n x
  | _, .dict _ => False
def tyN : PyData → String
  | .none => "NoneType"
  | .bool _ => "bool"
  | .int _ => "int"
  | .str _ => "str"
  | .list _ => "list"
  | .tuple _ => "tuple"
  | .dict _ => "dict"
theorem Dp.ty {K : PySem.W.Frag} {H : Hp} {x : V} {d : PyData} (h : Dp K H x d) : TyX K H x (.type (tyN d)) := by
  cases h with
  | non => exact .base .non
  | bl b => exact .base (.bl b)
  | int b => exact .base (.int b)
  | str b => exact .base (.str b)
  | lst h _ =>
    rcases h with (h | ⟨o, h⟩) | ⟨o, its, n, h1, h2, _⟩
    · exact .base (.lst h)
    · exact .base (.frz h)
    · exact .kList h1 h2
  | tup h _ =>
    rcases h with (h | ⟨o, h⟩) | ⟨o, its, n, h1, h2, _⟩
    · exact .base (.tup h)
    · exact .fTuple h
    · exact .kTuple h1 h2
theorem DpAll.len {K : PySem.W.Frag} {H : Hp} : ∀ {xs : List V} {ds : List PyData}, DpAll K H xs ds → xs.length = ds.length
  | _, _, .nil => rfl
  | _, _, .cons _ t => congrArg (· + 1) (DpAll.len t)
theorem DpAll.at {K : PySem.W.Frag} {H : Hp} : ∀ {xs : List V} {ds : List PyData} {i : Nat} {d : PyData}, DpAll K H xs ds → ds[i]? = some d → ∃ x, xs[i]? = some x ∧ Dp K H x d
  | _, _, _, _, .nil, e => by simp at e
  | _, _, 0, _, .cons h _, e => by simp at e; subst e; exact ⟨_, rfl, h⟩
  | _, _, i + 1, d, .cons _ t, e => by
    obtain ⟨u, h1, h2⟩ := DpAll.at (i := i) (d := d) t (by simpa using e)
    exact ⟨u, by simpa using h1, h2⟩
mutual
theorem Dp.sx {K : PySem.W.Frag} {H H' : Hp} (e : ∀ a xs, SqT K H a xs → SqT K H' a xs) (el : ∀ a xs, SqL K H a xs → SqL K H' a xs) : ∀ {d : PyData} {x : V}, Dp K H x d → Dp K H' x d
  | _, _, .non => .non
  | _, _, .bl b => .bl b
  | _, _, .int b => .int b
  | _, _, .str b => .str b
  | _, _, .lst h t => .lst (el _ _ h) (DpAll.sx e el t)
  | _, _, .tup h t => .tup (e _ _ h) (DpAll.sx e el t)
theorem DpAll.sx {K : PySem.W.Frag} {H H' : Hp} (e : ∀ a xs, SqT K H a xs → SqT K H' a xs) (el : ∀ a xs, SqL K H a xs → SqL K H' a xs) : ∀ {ds : List PyData} {xs : List V}, DpAll K H xs ds → DpAll K H' xs ds
  | _, _, .nil => .nil
  | _, _, .cons h t => .cons (Dp.sx e el h) (DpAll.sx e el t)
end
theorem Same.sqT {K : PySem.W.Frag} {H H' : Hp} {a : Addr} {xs : List V} (e : Same H H') (h : SqT K H a xs) : SqT K H' a xs := by
  rcases h with (h | ⟨o, h⟩) | h
  · exact .inl (.inl (e _ _ h))
  · exact .inl (.inr ⟨o, e _ _ h⟩)
  · exact .inr h
theorem Dp.same {K : PySem.W.Frag} {H H' : Hp} {d : PyData} {x : V} (e : Same H H') (h : Dp K H x d) : Dp K H' x d := Dp.sx (fun _ _ h => Same.sqT e h) (fun _ _ h => e.seq h) h
theorem smallIn {K : PySem.W.Frag} {H : Hp} {a : Addr} {xs : List V} (n : Nat) (hl : xs.length ≤ n) (hn : n < 100000) : xs.length < sizeLine := smallL (by omega)

section
variable {P : Program} {w : World} {K : PySem.W.Frag} {mg : Str → Option Value} {base : Heap}
/-! ### _law_tape: a new list of ints -/
def sp_law_tape (K : PySem.W.Frag) : Sp := fun vs H Q _ => ∃ (a : Addr) (ns : List Int), vs = [.ref a] ∧ SqL K H a (ns.map V.int) ∧ ns.length ≤ 63 ∧
  ∀ H' p (ts : List Int), Same H H' → H p = none → H' p = some (.lst (ts.map V.int)) → (∀ t ∈ ts, 0 ≤ t ∧ t < 2147483629) → ts.length ≤ 2520 → Q (.ref p) H'
theorem ok_law_tape (T : Top K mg w) : FnOk P w K mg base CX0 1 T.a_law_tape T.d_law_tape ["script"] (sp_law_tape K) := by
  refine T.F_law_tape.ok sc_law_tape (fun vs H Q E h => ?_) (fun cdv A outer s H vs Q E hr h => ?_)
  · obtain ⟨a, ns, rfl, _⟩ := h
    rfl
  obtain ⟨a, ns, rfl, hS, h63, q⟩ := h
  refine ⟨_, (pss_cons (ps_set (i := 1) sc_law_tape.nd rfl (Or.inl rfl) (pe_lst pa_nil))
      (pss_cons (ps_for PassesOwn.never rfl (pi_list (pv 0)) (pg_name (i := 2) sc_law_tape.nd rfl (Or.inl rfl))
        (pss_cons (ps_set (i := 3) sc_law_tape.nd rfl (Or.inl rfl) (pe_op op_mul pe_int (pe_callTy call_int1 (by rfl) T.z_int (by decide +kernel) (pa_cons (pv 2) pa_nil))))
      (pss_cons (ps_if (pt_cmpR op_lt (pv 3) pe_int (nomark _))
        (pss_one (ps_set (i := 3) sc_law_tape.nd rfl (Or.inl rfl) (pe_op op_sub (pe_un un_neg pe_int) (pv 3))))
        pss_nil)
      (pss_one (ps_if (pt_cmpR op_ge (pv 3) (pe_op op_pow pe_int pe_int) (nomark _))
        (pss_one (ps_for PassesOwn.never rfl (pi_range1 (by rfl) T.z_range (pa_cons pe_int pa_nil)) (pg_name (i := 4) sc_law_tape.nd rfl (Or.inl rfl))
        (pss_one (ps_if (pt_cmpR op_gt (pv 3) pe_int (nomark _))
        (pss_cons (ps_expr (pe_bm PySem.F.plainAttrs_list PySem.F.slot_list_append PySem.F.type_list_append mt_append (pv 1) (pa_cons (pe_op op_mod (pe_callTy call_int1 (by rfl) T.z_int (by decide +kernel) (pa_cons (pv 3) pa_nil)) pe_int) pa_nil)))
      (pss_one (ps_set (i := 3) sc_law_tape.nd rfl (Or.inl rfl) (pe_op op_fdiv (pv 3) pe_int))))
        pss_nil))))
        (pss_one (ps_for PassesOwn.never rfl (pi_range1 (by rfl) T.z_range (pa_cons pe_int pa_nil)) (pg_name (i := 4) sc_law_tape.nd rfl (Or.inl rfl))
        (pss_cons (ps_set (i := 5) sc_law_tape.nd rfl (Or.inl rfl) (pe_op op_mod (pe_callTy call_int1 (by rfl) T.z_int (by decide +kernel) (pa_cons (pe_op op_add (pe_op op_add (pe_op op_mul (pv 3) pe_int) (pe_op op_mul (pv 4) pe_int)) pe_int) pa_nil)) pe_int))
      (pss_one (ps_expr (pe_bm PySem.F.plainAttrs_list PySem.F.slot_list_append PySem.F.type_list_append mt_append (pv 1) (pa_cons (pe_op op_mod (pe_callTy call_int1 (by rfl) T.z_int (by decide +kernel) (pa_cons (pe_op op_add (pe_op op_mul (pv 5) pe_int) (pe_op op_fdiv (pv 5) pe_int)) pa_nil)) pe_int) pa_nil))))))))))))
      (pss_one (ps_ret (pv 1))))), ?_⟩
  refine ⟨Nat.zero_le _, fun p hp => ?_⟩
  have sm : ∀ o, Same H (upd H p o) := fun o => same_upd hp
  refine ⟨_, rfl, a, rfl, ⟨_, (sm _).seq hS⟩, for_list (xs := ns.map V.int) (fun i σ H' => ∃ (y2 y3 y4 y5 : Option V) (ts : List Int), σ = [some (.ref a), some (.ref p), y2, y3, y4, y5] ∧ H' = upd H p (.lst (ts.map V.int)) ∧ (∀ t ∈ ts, 0 ≤ t ∧ t < 2147483629) ∧ ts.length ≤ 40 * i) ?_ ?_ ?_ ?_⟩
  · exact ⟨none, none, none, none, [], rfl, rfl, (fun _ h => by cases h), by decide⟩
  · rintro i σ H' _ ⟨y2, y3, y4, y5, ts, rfl, rfl, _⟩
    exact (sm _).seq hS
  · rintro i x σ H' hx ⟨y2, y3, y4, y5, ts, rfl, rfl, hb, hl⟩
    have hi : i < 63 := by
      have h1 := (List.getElem?_eq_some_iff.mp hx).1
      rw [List.length_map] at h1
      omega
    obtain ⟨n, rfl⟩ : ∃ n, x = .int n := by
      rw [List.getElem?_map] at hx
      cases e : ns[i]? with
      | none => rw [e] at hx; cases hx
      | some n => rw [e] at hx; exact ⟨n, (Option.some.inj hx).symm⟩
    (repeat (first
      | refine ⟨_, rfl, ?_⟩
      | refine ⟨_, _, rfl, rfl, ?_⟩
      | refine Or.inl ⟨_, rfl, ?_⟩
      | refine Or.inr ⟨_, rfl, ?_⟩
      | refine ⟨Or.inl ⟨by decide, by decide⟩, ?_⟩
      | refine ⟨Or.inr ⟨by decide, by decide⟩, ?_⟩
      | refine ⟨⟨by decide, by decide⟩, ?_⟩
      | refine ⟨⟨by decide, by decide, by decide⟩, ?_⟩
      | refine ⟨by decide, ?_⟩
      | refine ⟨(by show (0 : Int) < _; decide), ?_⟩
      | refine ⟨rfl, ?_⟩
      | refine ⟨⟨_, rfl⟩, ?_⟩
      | refine ⟨_, rfl, rfl, trivial, ?_⟩
      | refine ⟨_, _, rfl, ?_⟩))
    refine ite_dec (fun c => ?_) (fun c => ?_)
    all_goals
      (repeat (first
      | refine ⟨_, rfl, ?_⟩
      | refine ⟨_, _, rfl, rfl, ?_⟩
      | refine Or.inl ⟨_, rfl, ?_⟩
      | refine Or.inr ⟨_, rfl, ?_⟩
      | refine ⟨Or.inl ⟨by decide, by decide⟩, ?_⟩
      | refine ⟨Or.inr ⟨by decide, by decide⟩, ?_⟩
      | refine ⟨⟨by decide, by decide⟩, ?_⟩
      | refine ⟨⟨by decide, by decide, by decide⟩, ?_⟩
      | refine ⟨by decide, ?_⟩
      | refine ⟨(by show (0 : Int) < _; decide), ?_⟩
      | refine ⟨rfl, ?_⟩
      | refine ⟨⟨_, rfl⟩, ?_⟩
      | refine ⟨_, rfl, rfl, trivial, ?_⟩
      | refine ⟨_, _, rfl, ?_⟩))
      refine ite_dec (fun c => ?_) (fun c => ?_)
      · (repeat (first
      | refine ⟨_, rfl, ?_⟩
      | refine ⟨_, _, rfl, rfl, ?_⟩
      | refine Or.inl ⟨_, rfl, ?_⟩
      | refine Or.inr ⟨_, rfl, ?_⟩
      | refine ⟨Or.inl ⟨by decide, by decide⟩, ?_⟩
      | refine ⟨Or.inr ⟨by decide, by decide⟩, ?_⟩
      | refine ⟨⟨by decide, by decide⟩, ?_⟩
      | refine ⟨⟨by decide, by decide, by decide⟩, ?_⟩
      | refine ⟨by decide, ?_⟩
      | refine ⟨(by show (0 : Int) < _; decide), ?_⟩
      | refine ⟨rfl, ?_⟩
      | refine ⟨⟨_, rfl⟩, ?_⟩
      | refine ⟨_, rfl, rfl, trivial, ?_⟩
      | refine ⟨_, _, rfl, ?_⟩))
        refine for_range (lo := 0) (n := 40) (fun j σ H' => ∃ (y2 y4 y5 : Option V) (m : Int) (ts : List Int), σ = [some (.ref a), some (.ref p), y2, some (.int m), y4, y5] ∧ H' = upd H p (.lst (ts.map V.int)) ∧ (∀ t ∈ ts, 0 ≤ t ∧ t < 2147483629) ∧ ts.length ≤ 40 * i + j) ?_ ?_ ?_
        · exact ⟨_, _, _, _, ts, rfl, rfl, hb, by omega⟩
        · rintro j σ H' hj ⟨y2, y4, y5, m, ts, rfl, rfl, hb, hl⟩
          (repeat (first
      | refine ⟨_, rfl, ?_⟩
      | refine ⟨_, _, rfl, rfl, ?_⟩
      | refine Or.inl ⟨_, rfl, ?_⟩
      | refine Or.inr ⟨_, rfl, ?_⟩
      | refine ⟨Or.inl ⟨by decide, by decide⟩, ?_⟩
      | refine ⟨Or.inr ⟨by decide, by decide⟩, ?_⟩
      | refine ⟨⟨by decide, by decide⟩, ?_⟩
      | refine ⟨⟨by decide, by decide, by decide⟩, ?_⟩
      | refine ⟨by decide, ?_⟩
      | refine ⟨(by show (0 : Int) < _; decide), ?_⟩
      | refine ⟨rfl, ?_⟩
      | refine ⟨⟨_, rfl⟩, ?_⟩
      | refine ⟨_, rfl, rfl, trivial, ?_⟩
      | refine ⟨_, _, rfl, ?_⟩))
          refine ite_dec (fun c => ?_) (fun c => ?_)
          · (repeat (first
      | refine ⟨_, rfl, ?_⟩
      | refine ⟨_, _, rfl, rfl, ?_⟩
      | refine Or.inl ⟨_, rfl, ?_⟩
      | refine Or.inr ⟨_, rfl, ?_⟩
      | refine ⟨Or.inl ⟨by decide, by decide⟩, ?_⟩
      | refine ⟨Or.inr ⟨by decide, by decide⟩, ?_⟩
      | refine ⟨⟨by decide, by decide⟩, ?_⟩
      | refine ⟨⟨by decide, by decide, by decide⟩, ?_⟩
      | refine ⟨by decide, ?_⟩
      | refine ⟨(by show (0 : Int) < _; decide), ?_⟩
      | refine ⟨rfl, ?_⟩
      | refine ⟨⟨_, rfl⟩, ?_⟩
      | refine ⟨_, rfl, rfl, trivial, ?_⟩
      | refine ⟨_, _, rfl, ?_⟩))
            refine ⟨.inl ⟨rfl, _, SqL.of upd_same⟩, ?_⟩
            (repeat (first
      | refine ⟨_, rfl, ?_⟩
      | refine ⟨_, _, rfl, rfl, ?_⟩
      | refine Or.inl ⟨_, rfl, ?_⟩
      | refine Or.inr ⟨_, rfl, ?_⟩
      | refine ⟨Or.inl ⟨by decide, by decide⟩, ?_⟩
      | refine ⟨Or.inr ⟨by decide, by decide⟩, ?_⟩
      | refine ⟨⟨by decide, by decide⟩, ?_⟩
      | refine ⟨⟨by decide, by decide, by decide⟩, ?_⟩
      | refine ⟨by decide, ?_⟩
      | refine ⟨(by show (0 : Int) < _; decide), ?_⟩
      | refine ⟨rfl, ?_⟩
      | refine ⟨⟨_, rfl⟩, ?_⟩
      | refine ⟨_, rfl, rfl, trivial, ?_⟩
      | refine ⟨_, _, rfl, ?_⟩))
            refine ⟨p, _, _, rfl, rfl, upd_same, smallL (by rw [List.length_map]; omega), ?_⟩
            (repeat (first
      | refine ⟨_, rfl, ?_⟩
      | refine ⟨_, _, rfl, rfl, ?_⟩
      | refine Or.inl ⟨_, rfl, ?_⟩
      | refine Or.inr ⟨_, rfl, ?_⟩
      | refine ⟨Or.inl ⟨by decide, by decide⟩, ?_⟩
      | refine ⟨Or.inr ⟨by decide, by decide⟩, ?_⟩
      | refine ⟨⟨by decide, by decide⟩, ?_⟩
      | refine ⟨⟨by decide, by decide, by decide⟩, ?_⟩
      | refine ⟨by decide, ?_⟩
      | refine ⟨(by show (0 : Int) < _; decide), ?_⟩
      | refine ⟨rfl, ?_⟩
      | refine ⟨⟨_, rfl⟩, ?_⟩
      | refine ⟨_, rfl, rfl, trivial, ?_⟩
      | refine ⟨_, _, rfl, ?_⟩))
            refine ⟨_, _, _, _, ts ++ [m % 1000], rfl, ?_, ?_, ?_⟩
            · rw [upd_upd, List.map_append]; rfl
            · exact bnd_app hb ⟨by omega, by omega⟩
            · rw [List.length_append]; show ts.length + 1 ≤ _; omega
          · exact ⟨_, _, _, _, ts, rfl, rfl, hb, by omega⟩
        · rintro σ H' ⟨y2, y4, y5, m, ts, rfl, rfl, hb, hl⟩
          exact ⟨_, _, _, _, ts, rfl, rfl, hb, by omega⟩
      · (repeat (first
      | refine ⟨_, rfl, ?_⟩
      | refine ⟨_, _, rfl, rfl, ?_⟩
      | refine Or.inl ⟨_, rfl, ?_⟩
      | refine Or.inr ⟨_, rfl, ?_⟩
      | refine ⟨Or.inl ⟨by decide, by decide⟩, ?_⟩
      | refine ⟨Or.inr ⟨by decide, by decide⟩, ?_⟩
      | refine ⟨⟨by decide, by decide⟩, ?_⟩
      | refine ⟨⟨by decide, by decide, by decide⟩, ?_⟩
      | refine ⟨by decide, ?_⟩
      | refine ⟨(by show (0 : Int) < _; decide), ?_⟩
      | refine ⟨rfl, ?_⟩
      | refine ⟨⟨_, rfl⟩, ?_⟩
      | refine ⟨_, rfl, rfl, trivial, ?_⟩
      | refine ⟨_, _, rfl, ?_⟩))
        refine for_range (lo := 0) (n := 3) (fun j σ H' => ∃ (y2 y4 y5 : Option V) (m : Int) (ts : List Int), σ = [some (.ref a), some (.ref p), y2, some (.int m), y4, y5] ∧ H' = upd H p (.lst (ts.map V.int)) ∧ (∀ t ∈ ts, 0 ≤ t ∧ t < 2147483629) ∧ ts.length ≤ 40 * i + j) ?_ ?_ ?_
        · exact ⟨_, _, _, _, ts, rfl, rfl, hb, by omega⟩
        · rintro j σ H' hj ⟨y2, y4, y5, m, ts, rfl, rfl, hb, hl⟩
          (repeat (first
      | refine ⟨_, rfl, ?_⟩
      | refine ⟨_, _, rfl, rfl, ?_⟩
      | refine Or.inl ⟨_, rfl, ?_⟩
      | refine Or.inr ⟨_, rfl, ?_⟩
      | refine ⟨Or.inl ⟨by decide, by decide⟩, ?_⟩
      | refine ⟨Or.inr ⟨by decide, by decide⟩, ?_⟩
      | refine ⟨⟨by decide, by decide⟩, ?_⟩
      | refine ⟨⟨by decide, by decide, by decide⟩, ?_⟩
      | refine ⟨by decide, ?_⟩
      | refine ⟨(by show (0 : Int) < _; decide), ?_⟩
      | refine ⟨rfl, ?_⟩
      | refine ⟨⟨_, rfl⟩, ?_⟩
      | refine ⟨_, rfl, rfl, trivial, ?_⟩
      | refine ⟨_, _, rfl, ?_⟩))
          refine ⟨.inl ⟨rfl, _, SqL.of upd_same⟩, ?_⟩
          (repeat (first
      | refine ⟨_, rfl, ?_⟩
      | refine ⟨_, _, rfl, rfl, ?_⟩
      | refine Or.inl ⟨_, rfl, ?_⟩
      | refine Or.inr ⟨_, rfl, ?_⟩
      | refine ⟨Or.inl ⟨by decide, by decide⟩, ?_⟩
      | refine ⟨Or.inr ⟨by decide, by decide⟩, ?_⟩
      | refine ⟨⟨by decide, by decide⟩, ?_⟩
      | refine ⟨⟨by decide, by decide, by decide⟩, ?_⟩
      | refine ⟨by decide, ?_⟩
      | refine ⟨(by show (0 : Int) < _; decide), ?_⟩
      | refine ⟨rfl, ?_⟩
      | refine ⟨⟨_, rfl⟩, ?_⟩
      | refine ⟨_, rfl, rfl, trivial, ?_⟩
      | refine ⟨_, _, rfl, ?_⟩))
          refine ⟨p, _, _, rfl, rfl, upd_same, smallL (by rw [List.length_map]; omega), ?_⟩
          refine ⟨_, _, _, _, ts ++ [_], rfl, (by rw [upd_upd, List.map_append]; rfl), ?_, ?_⟩
          · exact bnd_app hb ⟨by omega, by omega⟩
          · rw [List.length_append]; show ts.length + 1 ≤ _; omega
        · rintro σ H' ⟨y2, y4, y5, m, ts, rfl, rfl, hb, hl⟩
          exact ⟨_, _, _, _, ts, rfl, rfl, hb, by omega⟩
  · rintro σ H' ⟨y2, y3, y4, y5, ts, rfl, rfl, hb, hl⟩
    rw [List.length_map] at hl
    exact ⟨_, rfl, q _ p ts (sm _) hp upd_same hb (by omega)⟩

/-! ### _law_draw, _law_take: some number below many -/
def sp_law_draw : Sp := fun vs H Q _ => ∃ (tp : Addr) (ts : List Int) (n : Nat) (m : Int), vs = [.ref tp, .int (n : Int), .int m] ∧ H tp = some (.lst (ts.map V.int)) ∧ TapeOk ts ∧ n < 2 ^ 60 ∧ 0 < m ∧ ∀ v, 0 ≤ v → v < m → Q (.int v) H
theorem ok_law_draw (T : Top K mg w) : FnOk P w K mg base CX0 1 T.a_law_draw T.d_law_draw ["tape", "at", "many"] sp_law_draw := by
  refine T.F_law_draw.ok sc_law_draw (fun vs H Q E h => ?_) (fun cdv A outer s H vs Q E hr h => ?_)
  · obtain ⟨tp, ts, n, m, rfl, _⟩ := h
    rfl
  obtain ⟨tp, ts, n, m, rfl, hT, hO, hn, hm, q⟩ := h
  have hS : SqL K H tp (ts.map V.int) := SqL.of hT
  have atn : ∀ j : Nat, j < ts.length → ∃ v, (ts.map V.int)[j]? = some (.int v) ∧ 0 ≤ v ∧ v < 2147483629 := fun j hj => by
    refine ⟨ts[j], by rw [List.getElem?_map, List.getElem?_eq_getElem hj]; rfl, hO.2 _ (List.getElem_mem hj)⟩
  refine ⟨_, (pss_cons (ps_if (pt_cmpR op_lt (pv 1) (pe_callB call_len_seq (by rfl) T.z_len (by decide +kernel) (pa_cons (pv 0) pa_nil)) (nomark _))
        (pss_one (ps_ret (pe_op op_mod (pe_callTy call_int1 (by rfl) T.z_int (by decide +kernel) (pa_cons (pe_ix ix_list (pv 0) (pv 1) (fun _ _ => rfl)) pa_nil)) (pv 2))))
        pss_nil)
      (pss_cons (ps_set (i := 3) sc_law_draw.nd rfl (Or.inl rfl) pe_int)
      (pss_cons (ps_if (pt_cmpR op_gt (pe_callB call_len_seq (by rfl) T.z_len (by decide +kernel) (pa_cons (pv 0) pa_nil)) pe_int (nomark _))
        (pss_one (ps_set (i := 3) sc_law_draw.nd rfl (Or.inl rfl) (pe_ix ix_list (pv 0) (pe_op op_mod (pe_callTy call_int1 (by rfl) T.z_int (by decide +kernel) (pa_cons (pv 1) pa_nil)) (pe_callB call_len_seq (by rfl) T.z_len (by decide +kernel) (pa_cons (pv 0) pa_nil))) (fun _ _ => rfl))))
        pss_nil)
      (pss_one (ps_ret (pe_op op_mod (pe_op op_mod (pe_callTy call_int1 (by rfl) T.z_int (by decide +kernel) (pa_cons (pe_op op_add (pe_op op_mul (pe_op op_mul (pe_op op_add (pv 3) (pv 1)) (pe_op op_add (pv 1) pe_int)) pe_int) (pe_op op_mul (pv 1) pe_int)) pa_nil)) pe_int) (pv 2))))))), ?_⟩
  (repeat (first
      | refine ⟨_, rfl, ?_⟩
      | refine ⟨_, _, rfl, rfl, ?_⟩
      | refine Or.inl ⟨_, rfl, ?_⟩
      | refine Or.inr ⟨_, rfl, ?_⟩
      | refine ⟨Or.inl ⟨by decide, by decide⟩, ?_⟩
      | refine ⟨Or.inr ⟨by decide, by decide⟩, ?_⟩
      | refine ⟨⟨by decide, by decide⟩, ?_⟩
      | refine ⟨⟨by decide, by decide, by decide⟩, ?_⟩
      | refine ⟨by decide, ?_⟩
      | refine ⟨(by show (0 : Int) < _; decide), ?_⟩
      | refine ⟨rfl, ?_⟩
      | refine ⟨⟨_, rfl⟩, ?_⟩
      | refine ⟨_, rfl, rfl, trivial, ?_⟩
      | refine ⟨_, _, rfl, ?_⟩))
  refine ⟨tp, _, rfl, .inl hS, ?_⟩
  (repeat (first
      | refine ⟨_, rfl, ?_⟩
      | refine ⟨_, _, rfl, rfl, ?_⟩
      | refine Or.inl ⟨_, rfl, ?_⟩
      | refine Or.inr ⟨_, rfl, ?_⟩
      | refine ⟨Or.inl ⟨by decide, by decide⟩, ?_⟩
      | refine ⟨Or.inr ⟨by decide, by decide⟩, ?_⟩
      | refine ⟨⟨by decide, by decide⟩, ?_⟩
      | refine ⟨⟨by decide, by decide, by decide⟩, ?_⟩
      | refine ⟨by decide, ?_⟩
      | refine ⟨(by show (0 : Int) < _; decide), ?_⟩
      | refine ⟨rfl, ?_⟩
      | refine ⟨⟨_, rfl⟩, ?_⟩
      | refine ⟨_, rfl, rfl, trivial, ?_⟩
      | refine ⟨_, _, rfl, ?_⟩))
  refine ite_dec (fun c => ?_) (fun c => ?_)
  · rw [List.length_map] at c
    obtain ⟨v, hv, h0, h1⟩ := atn n (by omega)
    (repeat (first
      | refine ⟨_, rfl, ?_⟩
      | refine ⟨_, _, rfl, rfl, ?_⟩
      | refine Or.inl ⟨_, rfl, ?_⟩
      | refine Or.inr ⟨_, rfl, ?_⟩
      | refine ⟨Or.inl ⟨by decide, by decide⟩, ?_⟩
      | refine ⟨Or.inr ⟨by decide, by decide⟩, ?_⟩
      | refine ⟨⟨by decide, by decide⟩, ?_⟩
      | refine ⟨⟨by decide, by decide, by decide⟩, ?_⟩
      | refine ⟨by decide, ?_⟩
      | refine ⟨(by show (0 : Int) < _; decide), ?_⟩
      | refine ⟨rfl, ?_⟩
      | refine ⟨⟨_, rfl⟩, ?_⟩
      | refine ⟨_, rfl, rfl, trivial, ?_⟩
      | refine ⟨_, _, rfl, ?_⟩))
    refine ⟨tp, _, _, _, rfl, rfl, hS, atI_nat hv, ?_⟩
    (repeat (first
      | refine ⟨_, rfl, ?_⟩
      | refine ⟨_, _, rfl, rfl, ?_⟩
      | refine Or.inl ⟨_, rfl, ?_⟩
      | refine Or.inr ⟨_, rfl, ?_⟩
      | refine ⟨Or.inl ⟨by decide, by decide⟩, ?_⟩
      | refine ⟨Or.inr ⟨by decide, by decide⟩, ?_⟩
      | refine ⟨⟨by decide, by decide⟩, ?_⟩
      | refine ⟨⟨by decide, by decide, by decide⟩, ?_⟩
      | refine ⟨by decide, ?_⟩
      | refine ⟨(by show (0 : Int) < _; decide), ?_⟩
      | refine ⟨rfl, ?_⟩
      | refine ⟨⟨_, rfl⟩, ?_⟩
      | refine ⟨_, rfl, rfl, trivial, ?_⟩
      | refine ⟨_, _, rfl, ?_⟩))
    refine ⟨hm, ?_⟩
    exact q _ (Int.emod_nonneg _ (by omega)) (Int.emod_lt_of_pos _ hm)
  · (repeat (first
      | refine ⟨_, rfl, ?_⟩
      | refine ⟨_, _, rfl, rfl, ?_⟩
      | refine Or.inl ⟨_, rfl, ?_⟩
      | refine Or.inr ⟨_, rfl, ?_⟩
      | refine ⟨Or.inl ⟨by decide, by decide⟩, ?_⟩
      | refine ⟨Or.inr ⟨by decide, by decide⟩, ?_⟩
      | refine ⟨⟨by decide, by decide⟩, ?_⟩
      | refine ⟨⟨by decide, by decide, by decide⟩, ?_⟩
      | refine ⟨by decide, ?_⟩
      | refine ⟨(by show (0 : Int) < _; decide), ?_⟩
      | refine ⟨rfl, ?_⟩
      | refine ⟨⟨_, rfl⟩, ?_⟩
      | refine ⟨_, rfl, rfl, trivial, ?_⟩
      | refine ⟨_, _, rfl, ?_⟩))
    refine ⟨tp, _, rfl, .inl hS, ?_⟩
    (repeat (first
      | refine ⟨_, rfl, ?_⟩
      | refine ⟨_, _, rfl, rfl, ?_⟩
      | refine Or.inl ⟨_, rfl, ?_⟩
      | refine Or.inr ⟨_, rfl, ?_⟩
      | refine ⟨Or.inl ⟨by decide, by decide⟩, ?_⟩
      | refine ⟨Or.inr ⟨by decide, by decide⟩, ?_⟩
      | refine ⟨⟨by decide, by decide⟩, ?_⟩
      | refine ⟨⟨by decide, by decide, by decide⟩, ?_⟩
      | refine ⟨by decide, ?_⟩
      | refine ⟨(by show (0 : Int) < _; decide), ?_⟩
      | refine ⟨rfl, ?_⟩
      | refine ⟨⟨_, rfl⟩, ?_⟩
      | refine ⟨_, rfl, rfl, trivial, ?_⟩
      | refine ⟨_, _, rfl, ?_⟩))
    have fin : ∀ v : Int, 0 ≤ v → v < 2147483629 → CMul (v + n) (n + 3) := fun v h0 h1 => .inl ⟨by omega, by omega⟩
    refine ite_dec (fun c => ?_) (fun c => ?_)
    · rw [List.length_map] at c
      (repeat (first
      | refine ⟨_, rfl, ?_⟩
      | refine ⟨_, _, rfl, rfl, ?_⟩
      | refine Or.inl ⟨_, rfl, ?_⟩
      | refine Or.inr ⟨_, rfl, ?_⟩
      | refine ⟨Or.inl ⟨by decide, by decide⟩, ?_⟩
      | refine ⟨Or.inr ⟨by decide, by decide⟩, ?_⟩
      | refine ⟨⟨by decide, by decide⟩, ?_⟩
      | refine ⟨⟨by decide, by decide, by decide⟩, ?_⟩
      | refine ⟨by decide, ?_⟩
      | refine ⟨(by show (0 : Int) < _; decide), ?_⟩
      | refine ⟨rfl, ?_⟩
      | refine ⟨⟨_, rfl⟩, ?_⟩
      | refine ⟨_, rfl, rfl, trivial, ?_⟩
      | refine ⟨_, _, rfl, ?_⟩))
      refine ⟨tp, _, rfl, .inl hS, ?_⟩
      (repeat (first
      | refine ⟨_, rfl, ?_⟩
      | refine ⟨_, _, rfl, rfl, ?_⟩
      | refine Or.inl ⟨_, rfl, ?_⟩
      | refine Or.inr ⟨_, rfl, ?_⟩
      | refine ⟨Or.inl ⟨by decide, by decide⟩, ?_⟩
      | refine ⟨Or.inr ⟨by decide, by decide⟩, ?_⟩
      | refine ⟨⟨by decide, by decide⟩, ?_⟩
      | refine ⟨⟨by decide, by decide, by decide⟩, ?_⟩
      | refine ⟨by decide, ?_⟩
      | refine ⟨(by show (0 : Int) < _; decide), ?_⟩
      | refine ⟨rfl, ?_⟩
      | refine ⟨⟨_, rfl⟩, ?_⟩
      | refine ⟨_, rfl, rfl, trivial, ?_⟩
      | refine ⟨_, _, rfl, ?_⟩))
      refine ⟨by show (0 : Int) < _; rw [List.length_map]; omega, ?_⟩
      have hl : ((n : Int) % ((ts.map V.int).length : Nat)) = ((n % ts.length : Nat) : Int) := by
        rw [List.length_map]; rfl
      obtain ⟨v, hv, h0, h1⟩ := atn (n % ts.length) (Nat.mod_lt _ (by omega))
      refine ⟨tp, _, _, _, rfl, rfl, hS, (by rw [hl]; exact atI_nat hv), ?_⟩
      (repeat (first
      | refine ⟨_, rfl, ?_⟩
      | refine ⟨_, _, rfl, rfl, ?_⟩
      | refine Or.inl ⟨_, rfl, ?_⟩
      | refine Or.inr ⟨_, rfl, ?_⟩
      | refine ⟨Or.inl ⟨by decide, by decide⟩, ?_⟩
      | refine ⟨Or.inr ⟨by decide, by decide⟩, ?_⟩
      | refine ⟨⟨by decide, by decide⟩, ?_⟩
      | refine ⟨⟨by decide, by decide, by decide⟩, ?_⟩
      | refine ⟨by decide, ?_⟩
      | refine ⟨(by show (0 : Int) < _; decide), ?_⟩
      | refine ⟨rfl, ?_⟩
      | refine ⟨⟨_, rfl⟩, ?_⟩
      | refine ⟨_, rfl, rfl, trivial, ?_⟩
      | refine ⟨_, _, rfl, ?_⟩))
      refine ⟨fin v h0 h1, ?_⟩
      (repeat (first
      | refine ⟨_, rfl, ?_⟩
      | refine ⟨_, _, rfl, rfl, ?_⟩
      | refine Or.inl ⟨_, rfl, ?_⟩
      | refine Or.inr ⟨_, rfl, ?_⟩
      | refine ⟨Or.inl ⟨by decide, by decide⟩, ?_⟩
      | refine ⟨Or.inr ⟨by decide, by decide⟩, ?_⟩
      | refine ⟨⟨by decide, by decide⟩, ?_⟩
      | refine ⟨⟨by decide, by decide, by decide⟩, ?_⟩
      | refine ⟨by decide, ?_⟩
      | refine ⟨(by show (0 : Int) < _; decide), ?_⟩
      | refine ⟨rfl, ?_⟩
      | refine ⟨⟨_, rfl⟩, ?_⟩
      | refine ⟨_, rfl, rfl, trivial, ?_⟩
      | refine ⟨_, _, rfl, ?_⟩))
      refine ⟨hm, ?_⟩
      exact q _ (Int.emod_nonneg _ (by omega)) (Int.emod_lt_of_pos _ hm)
    · (repeat (first
      | refine ⟨_, rfl, ?_⟩
      | refine ⟨_, _, rfl, rfl, ?_⟩
      | refine Or.inl ⟨_, rfl, ?_⟩
      | refine Or.inr ⟨_, rfl, ?_⟩
      | refine ⟨Or.inl ⟨by decide, by decide⟩, ?_⟩
      | refine ⟨Or.inr ⟨by decide, by decide⟩, ?_⟩
      | refine ⟨⟨by decide, by decide⟩, ?_⟩
      | refine ⟨⟨by decide, by decide, by decide⟩, ?_⟩
      | refine ⟨by decide, ?_⟩
      | refine ⟨(by show (0 : Int) < _; decide), ?_⟩
      | refine ⟨rfl, ?_⟩
      | refine ⟨⟨_, rfl⟩, ?_⟩
      | refine ⟨_, rfl, rfl, trivial, ?_⟩
      | refine ⟨_, _, rfl, ?_⟩))
      refine ⟨fin 1 (by decide) (by decide), ?_⟩
      (repeat (first
      | refine ⟨_, rfl, ?_⟩
      | refine ⟨_, _, rfl, rfl, ?_⟩
      | refine Or.inl ⟨_, rfl, ?_⟩
      | refine Or.inr ⟨_, rfl, ?_⟩
      | refine ⟨Or.inl ⟨by decide, by decide⟩, ?_⟩
      | refine ⟨Or.inr ⟨by decide, by decide⟩, ?_⟩
      | refine ⟨⟨by decide, by decide⟩, ?_⟩
      | refine ⟨⟨by decide, by decide, by decide⟩, ?_⟩
      | refine ⟨by decide, ?_⟩
      | refine ⟨(by show (0 : Int) < _; decide), ?_⟩
      | refine ⟨rfl, ?_⟩
      | refine ⟨⟨_, rfl⟩, ?_⟩
      | refine ⟨_, rfl, rfl, trivial, ?_⟩
      | refine ⟨_, _, rfl, ?_⟩))
      refine ⟨hm, ?_⟩
      exact q _ (Int.emod_nonneg _ (by omega)) (Int.emod_lt_of_pos _ hm)
def sp_law_take : Sp := fun vs H Q _ => ∃ (st : Addr) (n : Nat) (m : Int), vs = [.ref st, .int m] ∧ St H st n ∧ n < 2 ^ 50 ∧ 0 < m ∧ ∀ v H', 0 ≤ v → v < m → SX st H H' → St H' st (n + 1) → Q (.int v) H'
theorem ok_law_take (T : Top K mg w) : FnOk P w K mg base CX0 2 T.a_law_take T.d_law_take ["state", "many"] sp_law_take := by
  refine T.F_law_take.ok sc_law_take (fun vs H Q E h => ?_) (fun cdv A outer s H vs Q E hr h => ?_)
  · obtain ⟨st, n, m, rfl, _⟩ := h
    rfl
  obtain ⟨st, n, m, rfl, hs, hn, hm, q⟩ := h
  obtain ⟨tp, ts, h1, h2, h3, h4⟩ := hs.ex
  refine ⟨_, (pss_cons (ps_asg (pe_op op_add (pe_ix ix_list (pv 0) pe_int (fun _ _ => rfl)) pe_int) (pg_sub (pv 0) pe_int set_list))
      (pss_one (ps_ret (pe_call ((ok_law_draw T).mono (by decide)) hr (by rfl) T.m_law_draw T.F_law_draw.kp T.b_law_draw .nil pass0 (pa_cons (pe_ix ix_list (pv 0) pe_int (fun _ _ => rfl)) (pa_cons (pe_ix ix_list (pv 0) pe_int (fun _ _ => rfl)) (pa_cons (pv 1) pa_nil))))))), ?_⟩
  have e1 : ((n : Int) + 1) = ((n + 1 : Nat) : Int) := rfl
  refine ⟨_, rfl, st, _, 1, _, rfl, rfl, SqL.of h1, atI_nat (j := 1) rfl, ?_⟩
  (repeat (first
      | refine ⟨_, rfl, ?_⟩
      | refine ⟨_, _, rfl, rfl, ?_⟩
      | refine Or.inl ⟨_, rfl, ?_⟩
      | refine Or.inr ⟨_, rfl, ?_⟩
      | refine ⟨Or.inl ⟨by decide, by decide⟩, ?_⟩
      | refine ⟨Or.inr ⟨by decide, by decide⟩, ?_⟩
      | refine ⟨⟨by decide, by decide⟩, ?_⟩
      | refine ⟨⟨by decide, by decide, by decide⟩, ?_⟩
      | refine ⟨by decide, ?_⟩
      | refine ⟨(by show (0 : Int) < _; decide), ?_⟩
      | refine ⟨rfl, ?_⟩
      | refine ⟨⟨_, rfl⟩, ?_⟩
      | refine ⟨_, rfl, rfl, trivial, ?_⟩
      | refine ⟨_, _, rfl, ?_⟩))
  refine ⟨st, _, 1, 1, rfl, rfl, h1, rfl, ?_⟩
  refine ⟨_, rfl, st, _, 0, _, rfl, rfl, SqL.of upd_same, atI_nat (j := 0) rfl, ?_⟩
  refine ⟨_, rfl, st, _, 1, _, rfl, rfl, SqL.of upd_same, atI_nat (j := 1) rfl, ?_⟩
  refine ⟨_, rfl, ?_⟩
  refine ⟨tp, ts, n + 1, m, rfl, by rw [upd_ne h2]; exact h3, h4, by omega, hm, fun v h0 hv => ?_⟩
  exact q v _ h0 hv (SX.at h1) ⟨tp, ts, upd_same, h2, by rw [upd_ne h2]; exact h3, h4⟩

/-! ### _law_equal of equal data -/
def sp_law_equal (K : PySem.W.Frag) (n : Nat) : Sp := fun vs H Q _ => ∃ (x y : V) (d : PyData), vs = [x, y] ∧ Dp K H x d ∧ Dp K H y d ∧ Sh n d ∧ Q (.bl true) H
theorem isi_e {d : PyData} (k s : String) (b : Bool) (hk : tyN d = k) (e : kitB k s = some b) : PySem.W.kitOne K (.type (tyN d)) (.type s) = some b := kit_ty (by rw [hk]; exact e)
theorem seq_equal {n : Nat} {xs ys : List V} {ds : List PyData} {H : Hp} (hx : DpAll K H xs ds) (hy : DpAll K H ys ds) (hsh : ∀ d ∈ ds, Sh n d) (i : Nat) (hi : i < ds.length) :
    ∃ x y d, xs[i]? = some x ∧ ys[i]? = some y ∧ Dp K H x d ∧ Dp K H y d ∧ Sh n d := by
  have e := List.getElem?_eq_getElem hi
  obtain ⟨x, ex, px⟩ := DpAll.at hx e
  obtain ⟨y, ey, py⟩ := DpAll.at hy e
  exact ⟨x, y, ds[i], ex, ey, px, py, hsh _ (List.getElem_mem hi)⟩
theorem no_equal {f : Addr} {fd : FuncData} : ∀ n, (∀ {vs H Q E}, ¬ sp_law_equal K n vs H Q E) → FnOk P w K mg base CX0 0 f fd ["actual", "due"] (sp_law_equal K n) := fun n no =>
  ⟨fun vs H Q E h => absurd h no, fun A outer s H args us vs Q E _ _ _ _ h => absurd h no⟩
theorem step_law_equal (T : Top K mg w) (n k : Nat) (G_law_equal : ∀ m, m + 1 = n → FnOk P w K mg base CX0 k T.a_law_equal T.d_law_equal ["actual", "due"] (sp_law_equal K m)) : FnOk P w K mg base CX0 (k + 1) T.a_law_equal T.d_law_equal ["actual", "due"] (sp_law_equal K n) := by
  have no0 : FnOk P w K mg base CX0 k T.a_law_equal T.d_law_equal ["actual", "due"] (fun _ _ _ _ => False) := ⟨fun vs H Q E h => h.elim, fun A outer s H args us vs Q E _ _ _ _ h => h.elim⟩
  have G_law_equal : FnOk P w K mg base CX0 k T.a_law_equal T.d_law_equal ["actual", "due"] (fun vs H Q E => ∃ m, m + 1 = n ∧ sp_law_equal K m vs H Q E) := by
    cases n with
    | zero => exact no0.imp fun vs H Q E ⟨m, h, _⟩ => by omega
    | succ n =>
      refine (G_law_equal n rfl).imp fun vs H Q E h => ?_
      obtain ⟨m, h, q⟩ := h
      have e : m = n := by omega
      subst e
      exact q
  refine T.F_law_equal.ok sc_law_equal (fun vs H Q E h => ?_) (fun cdv A outer s H vs Q E hr h => ?_)
  · obtain ⟨x, y, d, rfl, _⟩ := h
    rfl
  obtain ⟨x, y, d, rfl, hx, hy, hsh, q⟩ := h
  refine ⟨_, (pss_cons (ps_if (pt_cmpR op_isN (pv 1) pe_non (nomark _))
        (pss_one (ps_ret (pe_cmpR op_isN (pv 0) pe_non (nomark _))))
        pss_nil)
      (pss_cons (ps_if (pt_val (pe_callB (show CallR _ (.builtin "isinstance") (rIsi K) from call_isi) (by rfl) T.z_isinstance (by decide +kernel) (pa_cons (pv 1) (pa_cons (pe_bltn (v := .ty "bool") (u := .type "bool") (by rfl) T.z_bool (by decide +kernel) rfl) pa_nil))))
        (pss_one (ps_ret (pe_and (pe_callB (show CallR _ (.builtin "isinstance") (rIsi K) from call_isi) (by rfl) T.z_isinstance (by decide +kernel) (pa_cons (pv 0) (pa_cons (pe_bltn (v := .ty "bool") (u := .type "bool") (by rfl) T.z_bool (by decide +kernel) rfl) pa_nil))) (pe_one (pe_cmpR op_eq (pv 0) (pv 1) (nomark _))))))
        pss_nil)
      (pss_cons (ps_if (pt_val (pe_callB (show CallR _ (.builtin "isinstance") (rIsi K) from call_isi) (by rfl) T.z_isinstance (by decide +kernel) (pa_cons (pv 1) (pa_cons (pe_bltn (v := .ty "int") (u := .type "int") (by rfl) T.z_int (by decide +kernel) rfl) pa_nil))))
        (pss_one (ps_ret (pe_and (pe_callB (show CallR _ (.builtin "isinstance") (rIsi K) from call_isi) (by rfl) T.z_isinstance (by decide +kernel) (pa_cons (pv 0) (pa_cons (pe_bltn (v := .ty "int") (u := .type "int") (by rfl) T.z_int (by decide +kernel) rfl) pa_nil))) (pe_and (pe_not (pe_callB (show CallR _ (.builtin "isinstance") (rIsi K) from call_isi) (by rfl) T.z_isinstance (by decide +kernel) (pa_cons (pv 0) (pa_cons (pe_bltn (v := .ty "bool") (u := .type "bool") (by rfl) T.z_bool (by decide +kernel) rfl) pa_nil)))) (pe_one (pe_cmpR op_eq (pv 0) (pv 1) (nomark _)))))))
        pss_nil)
      (pss_cons (ps_if (pt_val (pe_callB (show CallR _ (.builtin "isinstance") (rIsi K) from call_isi) (by rfl) T.z_isinstance (by decide +kernel) (pa_cons (pv 1) (pa_cons (pe_bltn (v := .ty "str") (u := .type "str") (by rfl) T.z_str (by decide +kernel) rfl) pa_nil))))
        (pss_one (ps_ret (pe_and (pe_callB (show CallR _ (.builtin "isinstance") (rIsi K) from call_isi) (by rfl) T.z_isinstance (by decide +kernel) (pa_cons (pv 0) (pa_cons (pe_bltn (v := .ty "str") (u := .type "str") (by rfl) T.z_str (by decide +kernel) rfl) pa_nil))) (pe_one (pe_cmpR op_eq (pv 0) (pv 1) (nomark _))))))
        pss_nil)
      (pss_cons (ps_if (PW.pt (pw_and (pt_val (pe_callB (show CallR _ (.builtin "isinstance") (rIsi K) from call_isi) (by rfl) T.z_isinstance (by decide +kernel) (pa_cons (pv 1) (pa_cons (pe_bltn (v := .ty "tuple") (u := .type "tuple") (by rfl) T.z_tuple (by decide +kernel) rfl) pa_nil)))) (pw_and1 (pt_not (pt_val (pe_callB (show CallR _ (.builtin "isinstance") (rIsi K) from call_isi) (by rfl) T.z_isinstance (by decide +kernel) (pa_cons (pv 0) (pa_cons (pe_bltn (v := .ty "tuple") (u := .type "tuple") (by rfl) T.z_tuple (by decide +kernel) rfl) pa_nil))))))))
        (pss_one (ps_ret pe_bl))
        pss_nil)
      (pss_cons (ps_if (PW.pt (pw_and (pt_val (pe_callB (show CallR _ (.builtin "isinstance") (rIsi K) from call_isi) (by rfl) T.z_isinstance (by decide +kernel) (pa_cons (pv 1) (pa_cons (pe_bltn (v := .ty "list") (u := .type "list") (by rfl) T.z_list (by decide +kernel) rfl) pa_nil)))) (pw_and1 (pt_not (pt_val (pe_callB (show CallR _ (.builtin "isinstance") (rIsi K) from call_isi) (by rfl) T.z_isinstance (by decide +kernel) (pa_cons (pv 0) (pa_cons (pe_bltn (v := .ty "list") (u := .type "list") (by rfl) T.z_list (by decide +kernel) rfl) pa_nil))))))))
        (pss_one (ps_ret pe_bl))
        pss_nil)
      (pss_cons (ps_if (pt_cmpR op_ne (pe_callB call_len_seq (by rfl) T.z_len (by decide +kernel) (pa_cons (pv 0) pa_nil)) (pe_callB call_len_seq (by rfl) T.z_len (by decide +kernel) (pa_cons (pv 1) pa_nil)) (nomark _))
        (pss_one (ps_ret pe_bl))
        pss_nil)
      (pss_cons (ps_for PassesOwn.never rfl (pi_range1 (by rfl) T.z_range (pa_cons (pe_callB call_len_seq (by rfl) T.z_len (by decide +kernel) (pa_cons (pv 1) pa_nil)) pa_nil)) (pg_name (i := 2) sc_law_equal.nd rfl (Or.inl rfl))
        (pss_one (ps_if (pt_not (pt_val (pe_call G_law_equal hr (by rfl) T.m_law_equal T.F_law_equal.kp T.b_law_equal .nil pass0 (pa_cons (pe_ix (IxR.or ix_list ix_tup) (pv 0) (pv 2) (fun _ _ => rfl)) (pa_cons (pe_ix (IxR.or ix_list ix_tup) (pv 1) (pv 2) (fun _ _ => rfl)) pa_nil)))))
        (pss_one (ps_ret pe_bl))
        pss_nil)))
      (pss_one (ps_ret pe_bl)))))))))), ?_⟩
  -- the end over a list or a tuple
  cases d with
  | none =>
    cases hx
    cases hy
    (repeat (first
      | refine ⟨_, rfl, ?_⟩
      | refine ⟨_, _, rfl, rfl, ?_⟩
      | refine Or.inl ⟨_, rfl, ?_⟩
      | refine Or.inr ⟨_, rfl, ?_⟩
      | refine ⟨Or.inl ⟨by decide, by decide⟩, ?_⟩
      | refine ⟨Or.inr ⟨by decide, by decide⟩, ?_⟩
      | refine ⟨⟨by decide, by decide⟩, ?_⟩
      | refine ⟨⟨by decide, by decide, by decide⟩, ?_⟩
      | refine ⟨by decide, ?_⟩
      | refine ⟨(by show (0 : Int) < _; decide), ?_⟩
      | refine ⟨rfl, ?_⟩
      | refine ⟨⟨_, rfl⟩, ?_⟩
      | refine ⟨_, rfl, rfl, trivial, ?_⟩
      | refine ⟨_, _, rfl, ?_⟩))
    exact q
  | bool b =>
    cases hx
    cases hy
    (repeat (first
      | refine ⟨_, rfl, ?_⟩
      | refine ⟨_, _, rfl, rfl, ?_⟩
      | refine Or.inl ⟨_, rfl, ?_⟩
      | refine Or.inr ⟨_, rfl, ?_⟩
      | refine ⟨Or.inl ⟨by decide, by decide⟩, ?_⟩
      | refine ⟨Or.inr ⟨by decide, by decide⟩, ?_⟩
      | refine ⟨⟨by decide, by decide⟩, ?_⟩
      | refine ⟨⟨by decide, by decide, by decide⟩, ?_⟩
      | refine ⟨by decide, ?_⟩
      | refine ⟨(by show (0 : Int) < _; decide), ?_⟩
      | refine ⟨rfl, ?_⟩
      | refine ⟨⟨_, rfl⟩, ?_⟩
      | refine ⟨_, rfl, rfl, trivial, ?_⟩
      | refine ⟨_, _, rfl, ?_⟩))
    refine ⟨_, _, _, _, true, rfl, .ty _, Dp.ty (.bl b), isi_e "bool" "bool" true rfl (by decide +kernel), ?_⟩
    (repeat (first
      | refine ⟨_, rfl, ?_⟩
      | refine ⟨_, _, rfl, rfl, ?_⟩
      | refine Or.inl ⟨_, rfl, ?_⟩
      | refine Or.inr ⟨_, rfl, ?_⟩
      | refine ⟨Or.inl ⟨by decide, by decide⟩, ?_⟩
      | refine ⟨Or.inr ⟨by decide, by decide⟩, ?_⟩
      | refine ⟨⟨by decide, by decide⟩, ?_⟩
      | refine ⟨⟨by decide, by decide, by decide⟩, ?_⟩
      | refine ⟨by decide, ?_⟩
      | refine ⟨(by show (0 : Int) < _; decide), ?_⟩
      | refine ⟨rfl, ?_⟩
      | refine ⟨⟨_, rfl⟩, ?_⟩
      | refine ⟨_, rfl, rfl, trivial, ?_⟩
      | refine ⟨_, _, rfl, ?_⟩))
    refine ⟨_, _, _, _, true, rfl, .ty _, Dp.ty (.bl b), isi_e "bool" "bool" true rfl (by decide +kernel), ?_⟩
    (repeat (first
      | refine ⟨_, rfl, ?_⟩
      | refine ⟨_, _, rfl, rfl, ?_⟩
      | refine Or.inl ⟨_, rfl, ?_⟩
      | refine Or.inr ⟨_, rfl, ?_⟩
      | refine ⟨Or.inl ⟨by decide, by decide⟩, ?_⟩
      | refine ⟨Or.inr ⟨by decide, by decide⟩, ?_⟩
      | refine ⟨⟨by decide, by decide⟩, ?_⟩
      | refine ⟨⟨by decide, by decide, by decide⟩, ?_⟩
      | refine ⟨by decide, ?_⟩
      | refine ⟨(by show (0 : Int) < _; decide), ?_⟩
      | refine ⟨rfl, ?_⟩
      | refine ⟨⟨_, rfl⟩, ?_⟩
      | refine ⟨_, rfl, rfl, trivial, ?_⟩
      | refine ⟨_, _, rfl, ?_⟩))
    rw [decide_eq_true rfl]
    exact q
  | int b =>
    cases hx
    cases hy
    (repeat (first
      | refine ⟨_, rfl, ?_⟩
      | refine ⟨_, _, rfl, rfl, ?_⟩
      | refine Or.inl ⟨_, rfl, ?_⟩
      | refine Or.inr ⟨_, rfl, ?_⟩
      | refine ⟨Or.inl ⟨by decide, by decide⟩, ?_⟩
      | refine ⟨Or.inr ⟨by decide, by decide⟩, ?_⟩
      | refine ⟨⟨by decide, by decide⟩, ?_⟩
      | refine ⟨⟨by decide, by decide, by decide⟩, ?_⟩
      | refine ⟨by decide, ?_⟩
      | refine ⟨(by show (0 : Int) < _; decide), ?_⟩
      | refine ⟨rfl, ?_⟩
      | refine ⟨⟨_, rfl⟩, ?_⟩
      | refine ⟨_, rfl, rfl, trivial, ?_⟩
      | refine ⟨_, _, rfl, ?_⟩))
    refine ⟨_, _, _, _, false, rfl, .ty _, Dp.ty (.int b), isi_e "int" "bool" false rfl (by decide +kernel), ?_⟩
    (repeat (first
      | refine ⟨_, rfl, ?_⟩
      | refine ⟨_, _, rfl, rfl, ?_⟩
      | refine Or.inl ⟨_, rfl, ?_⟩
      | refine Or.inr ⟨_, rfl, ?_⟩
      | refine ⟨Or.inl ⟨by decide, by decide⟩, ?_⟩
      | refine ⟨Or.inr ⟨by decide, by decide⟩, ?_⟩
      | refine ⟨⟨by decide, by decide⟩, ?_⟩
      | refine ⟨⟨by decide, by decide, by decide⟩, ?_⟩
      | refine ⟨by decide, ?_⟩
      | refine ⟨(by show (0 : Int) < _; decide), ?_⟩
      | refine ⟨rfl, ?_⟩
      | refine ⟨⟨_, rfl⟩, ?_⟩
      | refine ⟨_, rfl, rfl, trivial, ?_⟩
      | refine ⟨_, _, rfl, ?_⟩))
    refine ⟨_, _, _, _, true, rfl, .ty _, Dp.ty (.int b), isi_e "int" "int" true rfl (by decide +kernel), ?_⟩
    (repeat (first
      | refine ⟨_, rfl, ?_⟩
      | refine ⟨_, _, rfl, rfl, ?_⟩
      | refine Or.inl ⟨_, rfl, ?_⟩
      | refine Or.inr ⟨_, rfl, ?_⟩
      | refine ⟨Or.inl ⟨by decide, by decide⟩, ?_⟩
      | refine ⟨Or.inr ⟨by decide, by decide⟩, ?_⟩
      | refine ⟨⟨by decide, by decide⟩, ?_⟩
      | refine ⟨⟨by decide, by decide, by decide⟩, ?_⟩
      | refine ⟨by decide, ?_⟩
      | refine ⟨(by show (0 : Int) < _; decide), ?_⟩
      | refine ⟨rfl, ?_⟩
      | refine ⟨⟨_, rfl⟩, ?_⟩
      | refine ⟨_, rfl, rfl, trivial, ?_⟩
      | refine ⟨_, _, rfl, ?_⟩))
    refine ⟨_, _, _, _, true, rfl, .ty _, Dp.ty (.int b), isi_e "int" "int" true rfl (by decide +kernel), ?_⟩
    (repeat (first
      | refine ⟨_, rfl, ?_⟩
      | refine ⟨_, _, rfl, rfl, ?_⟩
      | refine Or.inl ⟨_, rfl, ?_⟩
      | refine Or.inr ⟨_, rfl, ?_⟩
      | refine ⟨Or.inl ⟨by decide, by decide⟩, ?_⟩
      | refine ⟨Or.inr ⟨by decide, by decide⟩, ?_⟩
      | refine ⟨⟨by decide, by decide⟩, ?_⟩
      | refine ⟨⟨by decide, by decide, by decide⟩, ?_⟩
      | refine ⟨by decide, ?_⟩
      | refine ⟨(by show (0 : Int) < _; decide), ?_⟩
      | refine ⟨rfl, ?_⟩
      | refine ⟨⟨_, rfl⟩, ?_⟩
      | refine ⟨_, rfl, rfl, trivial, ?_⟩
      | refine ⟨_, _, rfl, ?_⟩))
    refine ⟨_, _, _, _, false, rfl, .ty _, Dp.ty (.int b), isi_e "int" "bool" false rfl (by decide +kernel), ?_⟩
    (repeat (first
      | refine ⟨_, rfl, ?_⟩
      | refine ⟨_, _, rfl, rfl, ?_⟩
      | refine Or.inl ⟨_, rfl, ?_⟩
      | refine Or.inr ⟨_, rfl, ?_⟩
      | refine ⟨Or.inl ⟨by decide, by decide⟩, ?_⟩
      | refine ⟨Or.inr ⟨by decide, by decide⟩, ?_⟩
      | refine ⟨⟨by decide, by decide⟩, ?_⟩
      | refine ⟨⟨by decide, by decide, by decide⟩, ?_⟩
      | refine ⟨by decide, ?_⟩
      | refine ⟨(by show (0 : Int) < _; decide), ?_⟩
      | refine ⟨rfl, ?_⟩
      | refine ⟨⟨_, rfl⟩, ?_⟩
      | refine ⟨_, rfl, rfl, trivial, ?_⟩
      | refine ⟨_, _, rfl, ?_⟩))
    rw [decide_eq_true rfl]
    exact q
  | str b =>
    cases hx
    cases hy
    (repeat (first
      | refine ⟨_, rfl, ?_⟩
      | refine ⟨_, _, rfl, rfl, ?_⟩
      | refine Or.inl ⟨_, rfl, ?_⟩
      | refine Or.inr ⟨_, rfl, ?_⟩
      | refine ⟨Or.inl ⟨by decide, by decide⟩, ?_⟩
      | refine ⟨Or.inr ⟨by decide, by decide⟩, ?_⟩
      | refine ⟨⟨by decide, by decide⟩, ?_⟩
      | refine ⟨⟨by decide, by decide, by decide⟩, ?_⟩
      | refine ⟨by decide, ?_⟩
      | refine ⟨(by show (0 : Int) < _; decide), ?_⟩
      | refine ⟨rfl, ?_⟩
      | refine ⟨⟨_, rfl⟩, ?_⟩
      | refine ⟨_, rfl, rfl, trivial, ?_⟩
      | refine ⟨_, _, rfl, ?_⟩))
    refine ⟨_, _, _, _, false, rfl, .ty _, Dp.ty (.str b), isi_e "str" "bool" false rfl (by decide +kernel), ?_⟩
    (repeat (first
      | refine ⟨_, rfl, ?_⟩
      | refine ⟨_, _, rfl, rfl, ?_⟩
      | refine Or.inl ⟨_, rfl, ?_⟩
      | refine Or.inr ⟨_, rfl, ?_⟩
      | refine ⟨Or.inl ⟨by decide, by decide⟩, ?_⟩
      | refine ⟨Or.inr ⟨by decide, by decide⟩, ?_⟩
      | refine ⟨⟨by decide, by decide⟩, ?_⟩
      | refine ⟨⟨by decide, by decide, by decide⟩, ?_⟩
      | refine ⟨by decide, ?_⟩
      | refine ⟨(by show (0 : Int) < _; decide), ?_⟩
      | refine ⟨rfl, ?_⟩
      | refine ⟨⟨_, rfl⟩, ?_⟩
      | refine ⟨_, rfl, rfl, trivial, ?_⟩
      | refine ⟨_, _, rfl, ?_⟩))
    refine ⟨_, _, _, _, false, rfl, .ty _, Dp.ty (.str b), isi_e "str" "int" false rfl (by decide +kernel), ?_⟩
    (repeat (first
      | refine ⟨_, rfl, ?_⟩
      | refine ⟨_, _, rfl, rfl, ?_⟩
      | refine Or.inl ⟨_, rfl, ?_⟩
      | refine Or.inr ⟨_, rfl, ?_⟩
      | refine ⟨Or.inl ⟨by decide, by decide⟩, ?_⟩
      | refine ⟨Or.inr ⟨by decide, by decide⟩, ?_⟩
      | refine ⟨⟨by decide, by decide⟩, ?_⟩
      | refine ⟨⟨by decide, by decide, by decide⟩, ?_⟩
      | refine ⟨by decide, ?_⟩
      | refine ⟨(by show (0 : Int) < _; decide), ?_⟩
      | refine ⟨rfl, ?_⟩
      | refine ⟨⟨_, rfl⟩, ?_⟩
      | refine ⟨_, rfl, rfl, trivial, ?_⟩
      | refine ⟨_, _, rfl, ?_⟩))
    refine ⟨_, _, _, _, true, rfl, .ty _, Dp.ty (.str b), isi_e "str" "str" true rfl (by decide +kernel), ?_⟩
    (repeat (first
      | refine ⟨_, rfl, ?_⟩
      | refine ⟨_, _, rfl, rfl, ?_⟩
      | refine Or.inl ⟨_, rfl, ?_⟩
      | refine Or.inr ⟨_, rfl, ?_⟩
      | refine ⟨Or.inl ⟨by decide, by decide⟩, ?_⟩
      | refine ⟨Or.inr ⟨by decide, by decide⟩, ?_⟩
      | refine ⟨⟨by decide, by decide⟩, ?_⟩
      | refine ⟨⟨by decide, by decide, by decide⟩, ?_⟩
      | refine ⟨by decide, ?_⟩
      | refine ⟨(by show (0 : Int) < _; decide), ?_⟩
      | refine ⟨rfl, ?_⟩
      | refine ⟨⟨_, rfl⟩, ?_⟩
      | refine ⟨_, rfl, rfl, trivial, ?_⟩
      | refine ⟨_, _, rfl, ?_⟩))
    refine ⟨_, _, _, _, true, rfl, .ty _, Dp.ty (.str b), isi_e "str" "str" true rfl (by decide +kernel), ?_⟩
    (repeat (first
      | refine ⟨_, rfl, ?_⟩
      | refine ⟨_, _, rfl, rfl, ?_⟩
      | refine Or.inl ⟨_, rfl, ?_⟩
      | refine Or.inr ⟨_, rfl, ?_⟩
      | refine ⟨Or.inl ⟨by decide, by decide⟩, ?_⟩
      | refine ⟨Or.inr ⟨by decide, by decide⟩, ?_⟩
      | refine ⟨⟨by decide, by decide⟩, ?_⟩
      | refine ⟨⟨by decide, by decide, by decide⟩, ?_⟩
      | refine ⟨by decide, ?_⟩
      | refine ⟨(by show (0 : Int) < _; decide), ?_⟩
      | refine ⟨rfl, ?_⟩
      | refine ⟨⟨_, rfl⟩, ?_⟩
      | refine ⟨_, rfl, rfl, trivial, ?_⟩
      | refine ⟨_, _, rfl, ?_⟩))
    rw [decide_eq_true rfl]
    exact q
  | dict kvs => cases hx
  | list ds =>
    cases n with
    | zero => exact hsh.elim
    | succ n =>
    obtain ⟨hl, hsh⟩ := (show ds.length ≤ 1000000 ∧ ∀ x ∈ ds, Sh n x from hsh)
    have hx' := hx
    have hy' := hy
    cases hx with
    | @lst a xs _ hX hxs =>
    cases hy with
    | @lst b ys _ hY hys =>
    have lx := DpAll.len hxs
    have ly := DpAll.len hys
    (repeat (first
      | refine ⟨_, rfl, ?_⟩
      | refine ⟨_, _, rfl, rfl, ?_⟩
      | refine Or.inl ⟨_, rfl, ?_⟩
      | refine Or.inr ⟨_, rfl, ?_⟩
      | refine ⟨Or.inl ⟨by decide, by decide⟩, ?_⟩
      | refine ⟨Or.inr ⟨by decide, by decide⟩, ?_⟩
      | refine ⟨⟨by decide, by decide⟩, ?_⟩
      | refine ⟨⟨by decide, by decide, by decide⟩, ?_⟩
      | refine ⟨by decide, ?_⟩
      | refine ⟨(by show (0 : Int) < _; decide), ?_⟩
      | refine ⟨rfl, ?_⟩
      | refine ⟨⟨_, rfl⟩, ?_⟩
      | refine ⟨_, rfl, rfl, trivial, ?_⟩
      | refine ⟨_, _, rfl, ?_⟩))
    refine ⟨_, _, _, _, false, rfl, .ty _, Dp.ty hy', isi_e "list" "bool" false rfl (by decide +kernel), ?_⟩
    (repeat (first
      | refine ⟨_, rfl, ?_⟩
      | refine ⟨_, _, rfl, rfl, ?_⟩
      | refine Or.inl ⟨_, rfl, ?_⟩
      | refine Or.inr ⟨_, rfl, ?_⟩
      | refine ⟨Or.inl ⟨by decide, by decide⟩, ?_⟩
      | refine ⟨Or.inr ⟨by decide, by decide⟩, ?_⟩
      | refine ⟨⟨by decide, by decide⟩, ?_⟩
      | refine ⟨⟨by decide, by decide, by decide⟩, ?_⟩
      | refine ⟨by decide, ?_⟩
      | refine ⟨(by show (0 : Int) < _; decide), ?_⟩
      | refine ⟨rfl, ?_⟩
      | refine ⟨⟨_, rfl⟩, ?_⟩
      | refine ⟨_, rfl, rfl, trivial, ?_⟩
      | refine ⟨_, _, rfl, ?_⟩))
    refine ⟨_, _, _, _, false, rfl, .ty _, Dp.ty hy', isi_e "list" "int" false rfl (by decide +kernel), ?_⟩
    (repeat (first
      | refine ⟨_, rfl, ?_⟩
      | refine ⟨_, _, rfl, rfl, ?_⟩
      | refine Or.inl ⟨_, rfl, ?_⟩
      | refine Or.inr ⟨_, rfl, ?_⟩
      | refine ⟨Or.inl ⟨by decide, by decide⟩, ?_⟩
      | refine ⟨Or.inr ⟨by decide, by decide⟩, ?_⟩
      | refine ⟨⟨by decide, by decide⟩, ?_⟩
      | refine ⟨⟨by decide, by decide, by decide⟩, ?_⟩
      | refine ⟨by decide, ?_⟩
      | refine ⟨(by show (0 : Int) < _; decide), ?_⟩
      | refine ⟨rfl, ?_⟩
      | refine ⟨⟨_, rfl⟩, ?_⟩
      | refine ⟨_, rfl, rfl, trivial, ?_⟩
      | refine ⟨_, _, rfl, ?_⟩))
    refine ⟨_, _, _, _, false, rfl, .ty _, Dp.ty hy', isi_e "list" "str" false rfl (by decide +kernel), ?_⟩
    (repeat (first
      | refine ⟨_, rfl, ?_⟩
      | refine ⟨_, _, rfl, rfl, ?_⟩
      | refine Or.inl ⟨_, rfl, ?_⟩
      | refine Or.inr ⟨_, rfl, ?_⟩
      | refine ⟨Or.inl ⟨by decide, by decide⟩, ?_⟩
      | refine ⟨Or.inr ⟨by decide, by decide⟩, ?_⟩
      | refine ⟨⟨by decide, by decide⟩, ?_⟩
      | refine ⟨⟨by decide, by decide, by decide⟩, ?_⟩
      | refine ⟨by decide, ?_⟩
      | refine ⟨(by show (0 : Int) < _; decide), ?_⟩
      | refine ⟨rfl, ?_⟩
      | refine ⟨⟨_, rfl⟩, ?_⟩
      | refine ⟨_, rfl, rfl, trivial, ?_⟩
      | refine ⟨_, _, rfl, ?_⟩))
    refine ⟨_, _, _, _, false, rfl, .ty _, Dp.ty hy', isi_e "list" "tuple" false rfl (by decide +kernel), ?_⟩
    (repeat (first
      | refine ⟨_, rfl, ?_⟩
      | refine ⟨_, _, rfl, rfl, ?_⟩
      | refine Or.inl ⟨_, rfl, ?_⟩
      | refine Or.inr ⟨_, rfl, ?_⟩
      | refine ⟨Or.inl ⟨by decide, by decide⟩, ?_⟩
      | refine ⟨Or.inr ⟨by decide, by decide⟩, ?_⟩
      | refine ⟨⟨by decide, by decide⟩, ?_⟩
      | refine ⟨⟨by decide, by decide, by decide⟩, ?_⟩
      | refine ⟨by decide, ?_⟩
      | refine ⟨(by show (0 : Int) < _; decide), ?_⟩
      | refine ⟨rfl, ?_⟩
      | refine ⟨⟨_, rfl⟩, ?_⟩
      | refine ⟨_, rfl, rfl, trivial, ?_⟩
      | refine ⟨_, _, rfl, ?_⟩))
    refine ⟨_, _, _, _, true, rfl, .ty _, Dp.ty hy', isi_e "list" "list" true rfl (by decide +kernel), ?_⟩
    (repeat (first
      | refine ⟨_, rfl, ?_⟩
      | refine ⟨_, _, rfl, rfl, ?_⟩
      | refine Or.inl ⟨_, rfl, ?_⟩
      | refine Or.inr ⟨_, rfl, ?_⟩
      | refine ⟨Or.inl ⟨by decide, by decide⟩, ?_⟩
      | refine ⟨Or.inr ⟨by decide, by decide⟩, ?_⟩
      | refine ⟨⟨by decide, by decide⟩, ?_⟩
      | refine ⟨⟨by decide, by decide, by decide⟩, ?_⟩
      | refine ⟨by decide, ?_⟩
      | refine ⟨(by show (0 : Int) < _; decide), ?_⟩
      | refine ⟨rfl, ?_⟩
      | refine ⟨⟨_, rfl⟩, ?_⟩
      | refine ⟨_, rfl, rfl, trivial, ?_⟩
      | refine ⟨_, _, rfl, ?_⟩))
    refine ⟨_, _, _, _, true, rfl, .ty _, Dp.ty hx', isi_e "list" "list" true rfl (by decide +kernel), ?_⟩
    (repeat (first
      | refine ⟨_, rfl, ?_⟩
      | refine ⟨_, _, rfl, rfl, ?_⟩
      | refine Or.inl ⟨_, rfl, ?_⟩
      | refine Or.inr ⟨_, rfl, ?_⟩
      | refine ⟨Or.inl ⟨by decide, by decide⟩, ?_⟩
      | refine ⟨Or.inr ⟨by decide, by decide⟩, ?_⟩
      | refine ⟨⟨by decide, by decide⟩, ?_⟩
      | refine ⟨⟨by decide, by decide, by decide⟩, ?_⟩
      | refine ⟨by decide, ?_⟩
      | refine ⟨(by show (0 : Int) < _; decide), ?_⟩
      | refine ⟨rfl, ?_⟩
      | refine ⟨⟨_, rfl⟩, ?_⟩
      | refine ⟨_, rfl, rfl, trivial, ?_⟩
      | refine ⟨_, _, rfl, ?_⟩))
    refine ⟨a, _, rfl, .inl hX, _, rfl, b, _, rfl, .inl hY, rfl, ?_⟩
    (repeat (first
      | refine ⟨_, rfl, ?_⟩
      | refine ⟨_, _, rfl, rfl, ?_⟩
      | refine Or.inl ⟨_, rfl, ?_⟩
      | refine Or.inr ⟨_, rfl, ?_⟩
      | refine ⟨Or.inl ⟨by decide, by decide⟩, ?_⟩
      | refine ⟨Or.inr ⟨by decide, by decide⟩, ?_⟩
      | refine ⟨⟨by decide, by decide⟩, ?_⟩
      | refine ⟨⟨by decide, by decide, by decide⟩, ?_⟩
      | refine ⟨by decide, ?_⟩
      | refine ⟨(by show (0 : Int) < _; decide), ?_⟩
      | refine ⟨rfl, ?_⟩
      | refine ⟨⟨_, rfl⟩, ?_⟩
      | refine ⟨_, rfl, rfl, trivial, ?_⟩
      | refine ⟨_, _, rfl, ?_⟩))
    refine iteNS (by rw [lx, ly]) ?_
    refine ⟨_, rfl, b, _, rfl, .inl hY, _, rfl, by omega, by omega, ?_⟩
    have en : ((ys.length : Nat) : Int).toNat = ds.length := by rw [ly]; rfl
    rw [en]
    refine for_range (lo := 0) (n := ds.length) (fun j σ H' => ∃ (y2 : Option V), σ = [some (.ref a), some (.ref b), y2] ∧ H' = H) ⟨_, rfl, rfl⟩ ?_ ?_
    · rintro j σ H' hj ⟨y2, rfl, rfl⟩
      obtain ⟨u, v, d, eu, ev, du, dv, ds'⟩ := seq_equal hxs hys hsh j hj
      have e0 : (0 : Int) + (j : Int) = (j : Int) := Int.zero_add _
      rw [e0]
      refine ⟨_, rfl, _, rfl, .inl ⟨a, _, _, _, rfl, rfl, hX, atI_nat eu, ?_⟩⟩
      refine ⟨_, rfl, _, rfl, .inl ⟨b, _, _, _, rfl, rfl, hY, atI_nat ev, ?_⟩⟩
      refine ⟨n, rfl, u, v, d, rfl, du, dv, ds', ?_⟩
      refine ⟨_, rfl, ?_⟩
      refine ifF ?_
      exact ⟨_, rfl, rfl⟩
    · rintro σ H' ⟨y2, rfl, rfl⟩
      exact q
  | tuple ds =>
    cases n with
    | zero => exact hsh.elim
    | succ n =>
    obtain ⟨hl, hsh⟩ := (show ds.length ≤ 1000000 ∧ ∀ x ∈ ds, Sh n x from hsh)
    have hx' := hx
    have hy' := hy
    cases hx with
    | @tup a xs _ hX hxs =>
    cases hy with
    | @tup b ys _ hY hys =>
    have lx := DpAll.len hxs
    have ly := DpAll.len hys
    (repeat (first
      | refine ⟨_, rfl, ?_⟩
      | refine ⟨_, _, rfl, rfl, ?_⟩
      | refine Or.inl ⟨_, rfl, ?_⟩
      | refine Or.inr ⟨_, rfl, ?_⟩
      | refine ⟨Or.inl ⟨by decide, by decide⟩, ?_⟩
      | refine ⟨Or.inr ⟨by decide, by decide⟩, ?_⟩
      | refine ⟨⟨by decide, by decide⟩, ?_⟩
      | refine ⟨⟨by decide, by decide, by decide⟩, ?_⟩
      | refine ⟨by decide, ?_⟩
      | refine ⟨(by show (0 : Int) < _; decide), ?_⟩
      | refine ⟨rfl, ?_⟩
      | refine ⟨⟨_, rfl⟩, ?_⟩
      | refine ⟨_, rfl, rfl, trivial, ?_⟩
      | refine ⟨_, _, rfl, ?_⟩))
    refine ⟨_, _, _, _, false, rfl, .ty _, Dp.ty hy', isi_e "tuple" "bool" false rfl (by decide +kernel), ?_⟩
    (repeat (first
      | refine ⟨_, rfl, ?_⟩
      | refine ⟨_, _, rfl, rfl, ?_⟩
      | refine Or.inl ⟨_, rfl, ?_⟩
      | refine Or.inr ⟨_, rfl, ?_⟩
      | refine ⟨Or.inl ⟨by decide, by decide⟩, ?_⟩
      | refine ⟨Or.inr ⟨by decide, by decide⟩, ?_⟩
      | refine ⟨⟨by decide, by decide⟩, ?_⟩
      | refine ⟨⟨by decide, by decide, by decide⟩, ?_⟩
      | refine ⟨by decide, ?_⟩
      | refine ⟨(by show (0 : Int) < _; decide), ?_⟩
      | refine ⟨rfl, ?_⟩
      | refine ⟨⟨_, rfl⟩, ?_⟩
      | refine ⟨_, rfl, rfl, trivial, ?_⟩
      | refine ⟨_, _, rfl, ?_⟩))
    refine ⟨_, _, _, _, false, rfl, .ty _, Dp.ty hy', isi_e "tuple" "int" false rfl (by decide +kernel), ?_⟩
    (repeat (first
      | refine ⟨_, rfl, ?_⟩
      | refine ⟨_, _, rfl, rfl, ?_⟩
      | refine Or.inl ⟨_, rfl, ?_⟩
      | refine Or.inr ⟨_, rfl, ?_⟩
      | refine ⟨Or.inl ⟨by decide, by decide⟩, ?_⟩
      | refine ⟨Or.inr ⟨by decide, by decide⟩, ?_⟩
      | refine ⟨⟨by decide, by decide⟩, ?_⟩
      | refine ⟨⟨by decide, by decide, by decide⟩, ?_⟩
      | refine ⟨by decide, ?_⟩
      | refine ⟨(by show (0 : Int) < _; decide), ?_⟩
      | refine ⟨rfl, ?_⟩
      | refine ⟨⟨_, rfl⟩, ?_⟩
      | refine ⟨_, rfl, rfl, trivial, ?_⟩
      | refine ⟨_, _, rfl, ?_⟩))
    refine ⟨_, _, _, _, false, rfl, .ty _, Dp.ty hy', isi_e "tuple" "str" false rfl (by decide +kernel), ?_⟩
    (repeat (first
      | refine ⟨_, rfl, ?_⟩
      | refine ⟨_, _, rfl, rfl, ?_⟩
      | refine Or.inl ⟨_, rfl, ?_⟩
      | refine Or.inr ⟨_, rfl, ?_⟩
      | refine ⟨Or.inl ⟨by decide, by decide⟩, ?_⟩
      | refine ⟨Or.inr ⟨by decide, by decide⟩, ?_⟩
      | refine ⟨⟨by decide, by decide⟩, ?_⟩
      | refine ⟨⟨by decide, by decide, by decide⟩, ?_⟩
      | refine ⟨by decide, ?_⟩
      | refine ⟨(by show (0 : Int) < _; decide), ?_⟩
      | refine ⟨rfl, ?_⟩
      | refine ⟨⟨_, rfl⟩, ?_⟩
      | refine ⟨_, rfl, rfl, trivial, ?_⟩
      | refine ⟨_, _, rfl, ?_⟩))
    refine ⟨_, _, _, _, true, rfl, .ty _, Dp.ty hy', isi_e "tuple" "tuple" true rfl (by decide +kernel), ?_⟩
    (repeat (first
      | refine ⟨_, rfl, ?_⟩
      | refine ⟨_, _, rfl, rfl, ?_⟩
      | refine Or.inl ⟨_, rfl, ?_⟩
      | refine Or.inr ⟨_, rfl, ?_⟩
      | refine ⟨Or.inl ⟨by decide, by decide⟩, ?_⟩
      | refine ⟨Or.inr ⟨by decide, by decide⟩, ?_⟩
      | refine ⟨⟨by decide, by decide⟩, ?_⟩
      | refine ⟨⟨by decide, by decide, by decide⟩, ?_⟩
      | refine ⟨by decide, ?_⟩
      | refine ⟨(by show (0 : Int) < _; decide), ?_⟩
      | refine ⟨rfl, ?_⟩
      | refine ⟨⟨_, rfl⟩, ?_⟩
      | refine ⟨_, rfl, rfl, trivial, ?_⟩
      | refine ⟨_, _, rfl, ?_⟩))
    refine ⟨_, _, _, _, true, rfl, .ty _, Dp.ty hx', isi_e "tuple" "tuple" true rfl (by decide +kernel), ?_⟩
    (repeat (first
      | refine ⟨_, rfl, ?_⟩
      | refine ⟨_, _, rfl, rfl, ?_⟩
      | refine Or.inl ⟨_, rfl, ?_⟩
      | refine Or.inr ⟨_, rfl, ?_⟩
      | refine ⟨Or.inl ⟨by decide, by decide⟩, ?_⟩
      | refine ⟨Or.inr ⟨by decide, by decide⟩, ?_⟩
      | refine ⟨⟨by decide, by decide⟩, ?_⟩
      | refine ⟨⟨by decide, by decide, by decide⟩, ?_⟩
      | refine ⟨by decide, ?_⟩
      | refine ⟨(by show (0 : Int) < _; decide), ?_⟩
      | refine ⟨rfl, ?_⟩
      | refine ⟨⟨_, rfl⟩, ?_⟩
      | refine ⟨_, rfl, rfl, trivial, ?_⟩
      | refine ⟨_, _, rfl, ?_⟩))
    refine ⟨_, _, _, _, false, rfl, .ty _, Dp.ty hy', isi_e "tuple" "list" false rfl (by decide +kernel), ?_⟩
    (repeat (first
      | refine ⟨_, rfl, ?_⟩
      | refine ⟨_, _, rfl, rfl, ?_⟩
      | refine Or.inl ⟨_, rfl, ?_⟩
      | refine Or.inr ⟨_, rfl, ?_⟩
      | refine ⟨Or.inl ⟨by decide, by decide⟩, ?_⟩
      | refine ⟨Or.inr ⟨by decide, by decide⟩, ?_⟩
      | refine ⟨⟨by decide, by decide⟩, ?_⟩
      | refine ⟨⟨by decide, by decide, by decide⟩, ?_⟩
      | refine ⟨by decide, ?_⟩
      | refine ⟨(by show (0 : Int) < _; decide), ?_⟩
      | refine ⟨rfl, ?_⟩
      | refine ⟨⟨_, rfl⟩, ?_⟩
      | refine ⟨_, rfl, rfl, trivial, ?_⟩
      | refine ⟨_, _, rfl, ?_⟩))
    refine ⟨a, _, rfl, .inr hX, _, rfl, b, _, rfl, .inr hY, rfl, ?_⟩
    (repeat (first
      | refine ⟨_, rfl, ?_⟩
      | refine ⟨_, _, rfl, rfl, ?_⟩
      | refine Or.inl ⟨_, rfl, ?_⟩
      | refine Or.inr ⟨_, rfl, ?_⟩
      | refine ⟨Or.inl ⟨by decide, by decide⟩, ?_⟩
      | refine ⟨Or.inr ⟨by decide, by decide⟩, ?_⟩
      | refine ⟨⟨by decide, by decide⟩, ?_⟩
      | refine ⟨⟨by decide, by decide, by decide⟩, ?_⟩
      | refine ⟨by decide, ?_⟩
      | refine ⟨(by show (0 : Int) < _; decide), ?_⟩
      | refine ⟨rfl, ?_⟩
      | refine ⟨⟨_, rfl⟩, ?_⟩
      | refine ⟨_, rfl, rfl, trivial, ?_⟩
      | refine ⟨_, _, rfl, ?_⟩))
    refine iteNS (by rw [lx, ly]) ?_
    refine ⟨_, rfl, b, _, rfl, .inr hY, _, rfl, by omega, by omega, ?_⟩
    have en : ((ys.length : Nat) : Int).toNat = ds.length := by rw [ly]; rfl
    rw [en]
    refine for_range (lo := 0) (n := ds.length) (fun j σ H' => ∃ (y2 : Option V), σ = [some (.ref a), some (.ref b), y2] ∧ H' = H) ⟨_, rfl, rfl⟩ ?_ ?_
    · rintro j σ H' hj ⟨y2, rfl, rfl⟩
      obtain ⟨u, v, d, eu, ev, du, dv, ds'⟩ := seq_equal hxs hys hsh j hj
      have e0 : (0 : Int) + (j : Int) = (j : Int) := Int.zero_add _
      rw [e0]
      refine ⟨_, rfl, _, rfl, .inr ⟨a, _, _, _, rfl, rfl, hX, atI_nat eu, ?_⟩⟩
      refine ⟨_, rfl, _, rfl, .inr ⟨b, _, _, _, rfl, rfl, hY, atI_nat ev, ?_⟩⟩
      refine ⟨n, rfl, u, v, d, rfl, du, dv, ds', ?_⟩
      refine ⟨_, rfl, ?_⟩
      refine ifF ?_
      exact ⟨_, rfl, rfl⟩
    · rintro σ H' ⟨y2, rfl, rfl⟩
      exact q
theorem ok_law_equal (T : Top K mg w) : ∀ n : Nat, FnOk P w K mg base CX0 (n + 1) T.a_law_equal T.d_law_equal ["actual", "due"] (sp_law_equal K n)
  | 0 => step_law_equal T 0 0 fun m h => by omega
  | n + 1 => step_law_equal T (n + 1) (n + 1) fun m h => by
    have e : m = n := by omega
    subst e
    exact ok_law_equal T m
end
end My

namespace My
open PySem PySem.Spec PyProof.Rows L2
def kS (kvs : List (Key × V)) (ks : List Str) : Prop := kvs.map (·.1) = ks.map Sum.inr
end My

namespace My
open PySem PySem.Spec PyProof.Rows L2 NumText TL
/-! ### heaps: tuples stay -/
def TX (K : PySem.W.Frag) (H H' : Hp) : Prop := ∀ a xs, SqT K H a xs → SqT K H' a xs
theorem TX.refl {K : PySem.W.Frag} (H : Hp) : TX K H H := fun _ _ h => h
theorem TX.trans {K : PySem.W.Frag} {H H1 H2 : Hp} (a : TX K H H1) (b : TX K H1 H2) : TX K H H2 := fun p xs h => b p xs (a p xs h)
theorem TX.same {K : PySem.W.Frag} {H H' : Hp} (e : L2.Same H H') : TX K H H' := fun _ _ h => My.Same.sqT e h
theorem TX.at {K : PySem.W.Frag} {H : Hp} {p : Addr} {o o' : HO} (h : H p = some o') (ht : ∀ xs, o' ≠ .tup xs) (hf : ∀ k u, o' ≠ .frz k u) : TX K H (upd H p o) := fun a xs q => by
  rcases q with (q | ⟨k, q⟩) | q
  · by_cases e : a = p
    · subst e; rw [h] at q; exact absurd (Option.some.inj q) (ht xs)
    · exact .inl (.inl (by rw [upd_ne e]; exact q))
  · by_cases e : a = p
    · subst e; rw [h] at q; exact absurd (Option.some.inj q) (hf k _)
    · exact .inl (.inr ⟨k, by rw [upd_ne e]; exact q⟩)
  · exact .inr q
theorem TX.lst {K : PySem.W.Frag} {H : Hp} {p : Addr} {xs : List V} {o : HO} (h : H p = some (.lst xs)) : TX K H (upd H p o) := TX.at h (fun _ e => by cases e) (fun _ _ e => by cases e)
theorem TX.dK {K : PySem.W.Frag} {H : Hp} {p : Addr} {xs : List (Key × V)} {o : HO} (h : H p = some (.dK xs)) : TX K H (upd H p o) := TX.at h (fun _ e => by cases e) (fun _ _ e => by cases e)
theorem TX.new {K : PySem.W.Frag} {H : Hp} {p : Addr} {o : HO} (h : H p = none) : TX K H (upd H p o) := TX.same (same_upd h)
mutual
theorem Dp.tx {K : PySem.W.Frag} {H H' : Hp} (e : TX K H H') : ∀ {d : PyData} {x : V}, Dp K H x d → tr d = true → Dp K H' x d
  | _, _, .non, _ => .non
  | _, _, .bl b, _ => .bl b
  | _, _, .int b, _ => .int b
  | _, _, .str b, _ => .str b
  | _, _, .lst h t, ht => by rw [tr] at ht <;> first | cases ht | (intros; rename_i h2; cases h2)
  | _, _, .tup h t, ht => .tup (e _ _ h) (DpAll.tx e t (by rw [tr, Bool.and_eq_true] at ht; exact ht.2))
theorem DpAll.tx {K : PySem.W.Frag} {H H' : Hp} (e : TX K H H') : ∀ {ds : List PyData} {xs : List V}, DpAll K H xs ds → trL ds = true → DpAll K H' xs ds
  | _, _, .nil, _ => .nil
  | _, _, .cons h t, ht => .cons (Dp.tx e h (by rw [trL, Bool.and_eq_true] at ht; exact ht.1)) (DpAll.tx e t (by rw [trL, Bool.and_eq_true] at ht; exact ht.2))
end
/-! ### forms -/
def FO (K : PySem.W.Frag) (H : Hp) (v : V) (r : Row) : Prop := ∃ p q, v = .ref p ∧ SqT K H p [.ref q, .int (r.2.2 : Int)] ∧ Dp K H (.ref q) (.tuple r.2.1) ∧ tr (.tuple r.2.1) = true
theorem FO.tx {K : PySem.W.Frag} {H H' : Hp} {v : V} {r : Row} (e : TX K H H') (h : FO K H v r) : FO K H' v r := by
  obtain ⟨p, q, h1, h2, h3, h4⟩ := h
  exact ⟨p, q, h1, e _ _ h2, Dp.tx e h3 h4, h4⟩
def Rk (K : PySem.W.Frag) (H : Hp) (kv : Key × V) (r : Row) : Prop := kv.1 = Sum.inr r.1 ∧ FO K H kv.2 r
theorem pmono {α β : Type} {R R' : α → β → Prop} (f : ∀ a b, R a b → R' a b) : ∀ {xs : List α} {ys : List β}, Paired R xs ys → Paired R' xs ys
  | _, _, .nil => .nil
  | _, _, .cons r t => .cons (f _ _ r) (pmono f t)
theorem papp {α β : Type} {R : α → β → Prop} : ∀ {xs xs' : List α} {ys ys' : List β}, Paired R xs ys → Paired R xs' ys' → Paired R (xs ++ xs') (ys ++ ys')
  | _, _, _, _, .nil, s => s
  | _, _, _, _, .cons r t, s => .cons r (papp t s)
def putR (tb : List Row) (r : Row) : List Row := if (tb.any fun x => decide (x.1 = r.1)) = true then tb.map (fun x => if x.1 = r.1 then (x.1, r.2) else x) else tb ++ [r]
def tabN (ns : List Str) : List Row := ns.foldl (fun tb x => putR tb (isR x)) tab0
theorem tabN_snoc (ns : List Str) (x : Str) : tabN (ns ++ [x]) = putR (tabN ns) (isR x) := by
  unfold tabN
  rw [List.foldl_append]
  rfl
theorem rk_any {K : PySem.W.Frag} {H : Hp} {k : Str} : ∀ {kvs : List (Key × V)} {tb : List Row}, Paired (Rk K H) kvs tb → (kvs.any fun kv => decide (kv.1 = Sum.inr k)) = tb.any fun x => decide (x.1 = k)
  | _, _, .nil => rfl
  | _, _, .cons (a := a) (b := b) r t => by
    rw [List.any_cons, List.any_cons, rk_any t, r.1]
    congr 1
    by_cases e : b.1 = k
    · rw [decide_eq_true e, decide_eq_true (congrArg Sum.inr e)]
    · rw [decide_eq_false e, decide_eq_false (fun h => e (Sum.inr.inj h))]
theorem putR_paired {K : PySem.W.Frag} {H : Hp} {v : V} {r : Row} {kvs : List (Key × V)} {tb : List Row} (h : Paired (Rk K H) kvs tb) (hv : FO K H v r) : Paired (Rk K H) (putK kvs (Sum.inr r.1) v) (putR tb r) := by
  unfold putK putR
  rw [rk_any h]
  by_cases c : (tb.any fun x => decide (x.1 = r.1)) = true
  · rw [if_pos c, if_pos c]
    clear c
    induction h with
    | nil => exact .nil
    | @cons a b as bs q t ih =>
      refine .cons ?_ ih
      show Rk K H (if a.1 = Sum.inr r.1 then (a.1, v) else a) (if b.1 = r.1 then (b.1, r.2) else b)
      by_cases e : b.1 = r.1
      · rw [if_pos e, if_pos (by rw [q.1, e])]
        exact ⟨q.1, hv⟩
      · rw [if_neg e, if_neg (fun z => e (Sum.inr.inj (q.1.symm.trans z)))]
        exact q
  · rw [if_neg c, if_neg c]
    exact papp h (.cons ⟨rfl, hv⟩ .nil)
theorem putR_mem {tb : List Row} {r x : Row} (h : x ∈ putR tb r) : x ∈ tb ∨ x = r := by
  unfold putR at h
  split at h
  · obtain ⟨y, hy, e⟩ := List.mem_map.mp h
    by_cases c : y.1 = r.1
    · rw [if_pos c] at e
      right
      rw [← e, c]
    · rw [if_neg c] at e
      left
      rw [← e]
      exact hy
  · rcases List.mem_append.mp h with h | h
    · exact .inl h
    · exact .inr (List.mem_singleton.mp h)
theorem putR_has {tb : List Row} {r : Row} : r ∈ putR tb r := by
  unfold putR
  split
  · rename_i c
    obtain ⟨y, hy, e⟩ := List.any_eq_true.mp c
    have e := of_decide_eq_true e
    exact List.mem_map.mpr ⟨y, hy, by rw [if_pos e, e]⟩
  · exact List.mem_append_right _ (List.mem_singleton.mpr rfl)
theorem putR_keep {tb : List Row} {r x : Row} (h : x ∈ tb) (hne : x.1 ≠ r.1 ∨ x = r) : x ∈ putR tb r := by
  rcases hne with hne | rfl
  · unfold putR
    split
    · exact List.mem_map.mpr ⟨x, h, by rw [if_neg hne]⟩
    · exact List.mem_append_left _ h
  · exact putR_has
theorem tabN_mem : ∀ (ns : List Str) {tb : List Row} {x : Row}, x ∈ ns.foldl (fun tb x => putR tb (isR x)) tb → x ∈ tb ∨ ∃ n ∈ ns, x = isR n
  | [], _, _, h => .inl h
  | n :: ns, tb, x, h => by
    rcases tabN_mem ns h with h | ⟨m, hm, e⟩
    · rcases putR_mem h with h | h
      · exact .inl h
      · exact .inr ⟨n, List.mem_cons_self .., h⟩
    · exact .inr ⟨m, List.mem_cons_of_mem _ hm, e⟩
theorem isR_inj {a b : Str} (h : (isR a).1 = (isR b).1) : a = b := by
  have e : tl (isR a).1 = tl (isR b).1 := by rw [h]
  have e2 : 105 :: 115 :: 40 :: (tl a ++ [41]) = 105 :: 115 :: 40 :: (tl b ++ [41]) := e
  have e3 : tl a ++ [41] = tl b ++ [41] := by simpa using e2
  exact ext_tl (List.append_cancel_right e3)
theorem tab0_is : ∀ r ∈ tab0, ¬ ∃ t, tl r.1 = 105 :: 115 :: t := by
  have key : ∀ i : Fin tab0.length, (match tl (tab0[i.1]'i.2).1 with | 105 :: 115 :: _ => false | _ => true) = true := by decide +kernel
  intro r hr ⟨t, e⟩
  obtain ⟨i, hi, rfl⟩ := List.getElem_of_mem hr
  have := key ⟨i, hi⟩
  dsimp only at this
  rw [e] at this
  cases this
theorem tabN_keep : ∀ (ns : List Str) {tb : List Row} {x : Row}, x ∈ tb → (x ∈ tab0 ∨ ∃ n, x = isR n) → x ∈ ns.foldl (fun tb x => putR tb (isR x)) tb
  | [], _, _, h, _ => h
  | n :: ns, tb, x, h, k => by
    refine tabN_keep ns (putR_keep h ?_) k
    rcases k with k | ⟨m, rfl⟩
    · left
      intro e
      exact tab0_is x k ⟨_, by rw [e]; rfl⟩
    · by_cases e : m = n
      · right; rw [e]
      · left; exact fun z => e (isR_inj z)
theorem tabN_tab0 {ns : List Str} {r : Row} (h : r ∈ tab0) : r ∈ tabN ns := tabN_keep ns h (.inl h)
theorem tabN_has {n : Str} : ∀ (ns : List Str) {tb : List Row}, n ∈ ns → isR n ∈ ns.foldl (fun tb x => putR tb (isR x)) tb
  | m :: ns, tb, h => by
    rcases List.mem_cons.mp h with rfl | h
    · exact tabN_keep ns putR_has (.inr ⟨_, rfl⟩)
    · exact tabN_has ns h
theorem tabN_ne {ns : List Str} : ∀ r ∈ tabN ns, tl r.1 ≠ [] := by
  intro r hr
  rcases tabN_mem ns hr with h | ⟨n, _, rfl⟩
  · obtain ⟨c, t, e, _⟩ := uni_UT.hd r (List.mem_append_left _ h)
    rw [e]
    exact List.cons_ne_nil _ _
  · exact List.cons_ne_nil _ _
theorem hit_val {K : PySem.W.Frag} {H : Hp} {l : List Nat} {r : Row} : ∀ {kvs : List (Key × V)} {tb : List Row}, Paired (Rk K H) kvs tb → hit tb l = some r → ∃ v, valV kvs (Sum.inr r.1) = some v ∧ FO K H v r
  | _, _, .nil, h => by cases h
  | _, _, .cons (a := a) (b := b) q t, h => by
    unfold hit at h
    rw [List.find?_cons] at h
    cases c : pre (tl b.1) l with
    | true =>
      rw [c] at h
      cases h
      exact ⟨a.2, valV_pos q.1, q.2⟩
    | false =>
      rw [c] at h
      have hp := List.find?_some h
      obtain ⟨v, e1, e2⟩ := hit_val t h
      refine ⟨v, ?_, e2⟩
      rw [valV_neg (fun z => ?_)]
      · exact e1
      · have : b.1 = r.1 := Sum.inr.inj (q.1.symm.trans z)
        rw [this] at c
        rw [c] at hp
        cases hp
theorem find_map (tb : List Row) (l : List Nat) : ((tb.map (·.1)).find? fun k => pre (tl k) l) = (hit tb l).map (·.1) := by
  unfold hit
  rw [List.find?_map]
  rfl
theorem rk_keys {K : PySem.W.Frag} {H : Hp} : ∀ {kvs : List (Key × V)} {tb : List Row}, Paired (Rk K H) kvs tb → kS kvs (tb.map (·.1))
  | _, _, .nil => rfl
  | _, _, .cons q t => by
    unfold kS
    rw [List.map_cons, List.map_cons, List.map_cons, q.1, rk_keys t]
theorem tab0_tr : ∀ r ∈ tab0, tr (.tuple r.2.1) = true := by
  have key : ∀ i : Fin tab0.length, tr (.tuple (tab0[i.1]'i.2).2.1) = true := by decide +kernel
  intro r hr
  obtain ⟨i, hi, rfl⟩ := List.getElem_of_mem hr
  exact key ⟨i, hi⟩
theorem rw_rk {K : PySem.W.Frag} {H : Hp} : ∀ {kvs : List (Key × V)} {tb : List Row}, Paired (Rw K) kvs tb → (∀ r ∈ tb, tr (.tuple r.2.1) = true) → Paired (Rk K H) kvs tb
  | _, _, .nil, _ => .nil
  | _, _, .cons (b := b) ⟨q1, p, q, e, d⟩ t, h => .cons ⟨q1, p, q, e, (d H).1, (d H).2, h b (List.mem_cons_self ..)⟩ (rw_rk t fun r hr => h r (List.mem_cons_of_mem _ hr))
end My

namespace My
open PySem PySem.Spec PyProof.Rows L2 NumText TL
theorem trL_take {xs : List PyData} (h : trL xs = true) (n : Nat) : trL (xs.take n) = true := trL_iff.mpr fun x hx => trL_iff.mp h x (List.mem_of_mem_take hx)
theorem trL_drop {xs : List PyData} (h : trL xs = true) (n : Nat) : trL (xs.drop n) = true := trL_iff.mpr fun x hx => trL_iff.mp h x (List.mem_of_mem_drop hx)
theorem DpAll.take {K : PySem.W.Frag} {H : Hp} : ∀ {xs : List V} {ds : List PyData} (n : Nat), DpAll K H xs ds → DpAll K H (xs.take n) (ds.take n)
  | _, _, 0, h => .nil
  | _, _, n + 1, .nil => .nil
  | _, _, n + 1, .cons h t => .cons h (DpAll.take n t)
theorem DpAll.drop {K : PySem.W.Frag} {H : Hp} : ∀ {xs : List V} {ds : List PyData} (n : Nat), DpAll K H xs ds → DpAll K H (xs.drop n) (ds.drop n)
  | _, _, 0, h => h
  | _, _, n + 1, .nil => .nil
  | _, _, n + 1, .cons h t => DpAll.drop n t
theorem DpAll.app {K : PySem.W.Frag} {H : Hp} : ∀ {xs xs' : List V} {ds ds' : List PyData}, DpAll K H xs ds → DpAll K H xs' ds' → DpAll K H (xs ++ xs') (ds ++ ds')
  | _, _, _, _, .nil, s => s
  | _, _, _, _, .cons h t, s => .cons h (DpAll.app t s)
theorem bld_none (b : List Row) (h : bld b = none) : ∀ a : List Row, bld (a ++ b) = none
  | [] => h
  | r :: a => by
    have e := bld_none b h a
    show bld (r :: (a ++ b)) = none
    unfold bld
    rw [e]
theorem bld_cons {r : Row} {rs : List Row} {st : List PyData} (h : bld rs = some st) : bld (r :: rs) = if st.length < r.2.2 then none else some (.tuple (r.2.1 ++ st.take r.2.2) :: st.drop r.2.2) := by
  rw [bld, h]
theorem cut_end {xs : List V} {a : Nat} (h : a ≤ xs.length) : cutV xs (some (a : Int)) none = xs.drop a := by
  unfold cutV
  rw [HT.sIx_nat, HT.sIx_none, Nat.min_eq_left h]
  exact List.take_of_length_le (by rw [List.length_drop]; omega)
theorem rev_drop {xs : List V} {n : Nat} (h : n ≤ xs.length) : (xs.reverse.drop (xs.length - n)).reverse = xs.take n := by
  rw [List.drop_reverse, List.reverse_reverse]
  congr 1
  omega
theorem rev_take {xs : List V} {n : Nat} (h : n ≤ xs.length) : xs.reverse.take (xs.length - n) = (xs.drop n).reverse := by
  rw [List.take_reverse]
  congr 1
  congr 1
  omega
theorem pget {α β : Type} {R : α → β → Prop} : ∀ {xs : List α} {ys : List β} {i : Nat} {x : α}, Paired R xs ys → xs[i]? = some x → ∃ y, ys[i]? = some y ∧ R x y
  | _, _, _, _, .nil, h => by simp at h
  | _, _, 0, _, .cons r _, h => by simp at h; subst h; exact ⟨_, rfl, r⟩
  | _, _, i + 1, x, .cons _ t, h => by
    obtain ⟨y, e, r⟩ := pget (i := i) (x := x) t (by simpa using h)
    exact ⟨y, by simpa using e, r⟩
end My

namespace My
open PySem PySem.Spec PyProof.Rows L2 NumText TL
theorem upd_id {H : Hp} {a : Addr} {o : HO} (h : H a = some o) : upd H a o = H := by
  funext b
  by_cases e : b = a
  · subst e; rw [upd_same, h]
  · rw [upd_ne e]
def inter : List V → List V
  | [] => []
  | y :: r => y :: .str "," :: inter r
theorem inter_len : ∀ r : List V, (inter r).length = 2 * r.length
  | [] => rfl
  | y :: r => by
    show (inter r).length + 1 + 1 = 2 * (r.length + 1)
    rw [inter_len r]
    omega
theorem inter_snoc (y : V) : ∀ r : List V, inter (r ++ [y]) = inter r ++ [y, .str ","]
  | [] => rfl
  | z :: r => by
    show z :: .str "," :: inter (r ++ [y]) = _
    rw [inter_snoc y r]
    rfl
theorem inter_end {K : PySem.W.Frag} {H : Hp} : ∀ {y : V} {r : List V} {d : PyData} {dr : List PyData}, Dp K H y d → DpAll K H r dr → ∃ a, inter (y :: r) = a ++ [.str ","] ∧ DpAll K H (a ++ [.str ")"]) (d :: itC dr)
  | y, _, d, _, h, .nil => ⟨[y], rfl, .cons h (.cons (.str _) .nil)⟩
  | y, _, d, _, h, .cons (v := y2) (vs := r2) h2 t => by
    obtain ⟨a, e, q⟩ := inter_end h2 t
    refine ⟨y :: .str "," :: a, ?_, .cons h (.cons (.str _) q)⟩
    show y :: .str "," :: inter (y2 :: r2) = _
    rw [e]
    rfl
end My

namespace My
open PySem PySem.Spec PyProof.Rows L2 NumText TL
/-! ### parts of lists -/
def selV (f : PyData → Bool) : List V → List PyData → List V
  | x :: xs, d :: ds => if f d = true then x :: selV f xs ds else selV f xs ds
  | _, _ => []
theorem selV_dp {K : PySem.W.Frag} {H : Hp} (f : PyData → Bool) : ∀ {xs : List V} {ds : List PyData}, DpAll K H xs ds → DpAll K H (selV f xs ds) (ds.filter f)
  | _, _, .nil => .nil
  | _, _, .cons (d := d) h t => by
    unfold selV
    rw [List.filter_cons]
    cases e : f d with
    | true => exact .cons h (selV_dp f t)
    | false => exact selV_dp f t
theorem selV_step (f : PyData → Bool) : ∀ {xs : List V} {ds : List PyData} {i : Nat} {x : V} {d : PyData}, xs[i]? = some x → ds[i]? = some d →
    selV f (xs.take (i + 1)) (ds.take (i + 1)) = selV f (xs.take i) (ds.take i) ++ (if f d = true then [x] else [])
  | [], _, _, _, _, h, _ => by simp at h
  | _ :: _, [], _, _, _, _, h => by simp at h
  | y :: xs, e :: ds, 0, x, d, h1, h2 => by
    simp at h1 h2
    subst h1 h2
    simp only [List.take, selV]
    split <;> rfl
  | y :: xs, e :: ds, i + 1, x, d, h1, h2 => by
    have ih := selV_step f (xs := xs) (ds := ds) (i := i) (by simpa using h1) (by simpa using h2)
    simp only [List.take_succ_cons, selV]
    rw [ih]
    split <;> rfl
theorem selV_le (f : PyData → Bool) : ∀ (xs : List V) (ds : List PyData), (selV f xs ds).length ≤ xs.length
  | [], _ => by simp [selV]
  | _ :: _, [] => by simp [selV]
  | x :: xs, d :: ds => by
    have ih := selV_le f xs ds
    unfold selV
    split <;> simp <;> omega
theorem isi_t {K : PySem.W.Frag} {d : PyData} (h : tr d = true) : PySem.W.kitOne K (.type (tyN d)) (.type "tuple") = some (isT d) := by
  cases d with
  | str b => exact isi_e "str" "tuple" false rfl (by decide +kernel)
  | int b => exact isi_e "int" "tuple" false rfl (by decide +kernel)
  | tuple b => exact isi_e "tuple" "tuple" true rfl (by decide +kernel)
  | none => exact isi_e "NoneType" "tuple" false rfl (by decide +kernel)
  | bool b => exact isi_e "bool" "tuple" false rfl (by decide +kernel)
  | list b => exact isi_e "list" "tuple" false rfl (by decide +kernel)
  | dict b => exact isi_e "dict" "tuple" false rfl (by decide +kernel)
theorem cntT_pos : ∀ {ds : List PyData}, (∀ d ∈ ds, isT d = true) → ds.length ≤ cntT ds
  | [], _ => Nat.zero_le _
  | d :: ds, h => by
    have ih := cntT_pos (ds := ds) fun e he => h e (List.mem_cons_of_mem _ he)
    have hd := h d (List.mem_cons_self ..)
    cases d with
    | tuple xs => rw [cntT, cnt]; show ds.length + 1 ≤ _; omega
    | _ => cases hd
/-! ### bounds of what forms make -/
def Rb (r : Row) : Prop := r.2.1.length ≤ 3 ∧ msT r.2.1 ≤ 6 ∧ (fl r.2.1).length ≤ 300
theorem msT_app : ∀ a b, msT (a ++ b) = msT a + msT b
  | [], b => by rw [msT]; simp
  | x :: a, b => by
    rw [List.cons_append, msT, msT, msT_app a b]
    omega
theorem msT_mf : ∀ a, msT a = a.length + mf a
  | [] => by rw [msT]; rfl
  | x :: a => by
    rw [msT, msT_mf a]
    show _ = (a.length + 1) + (ms x + mf a)
    omega
theorem wrC_len : ∀ r, (wrC r).length = (fl r).length + r.length + 1
  | [] => by rw [wrC]; rfl
  | y :: r => by
    rw [wrC]
    show (wr y ++ wrC r).length + 1 = (wr y ++ fl r).length + (r.length + 1) + 1
    rw [List.length_append, List.length_append, wrC_len r]
    omega
theorem wrT_len : ∀ xs, (wrT xs).length ≤ (fl xs).length + xs.length
  | [] => by rw [wrT]; exact Nat.zero_le _
  | [x] => by
    rw [wrT, wrR]
    show (wr x ++ []).length ≤ (wr x ++ []).length + 1
    omega
  | x :: y :: r => by
    rw [wrT, wrR]
    have := wrC_len r
    show (wr x ++ (40 :: (wr y ++ wrC r))).length ≤ (wr x ++ (wr y ++ fl r)).length + (r.length + 1 + 1)
    rw [List.length_append, List.length_cons, List.length_append, List.length_append, List.length_append]
    omega
theorem bld_bd : ∀ {rows : List Row} {st : List PyData}, (∀ r ∈ rows, Rb r) → bld rows = some st → mf st + st.length ≤ 8 * rows.length ∧ (fl st).length + st.length ≤ 304 * rows.length
  | [], st, _, h => by
    cases h
    exact ⟨Nat.le_refl _, Nat.le_refl _⟩
  | r :: rs, st, hr, h => by
    cases e : bld rs with
    | none => rw [bld, e] at h; cases h
    | some s0 =>
      rw [bld_cons e] at h
      split at h
      · cases h
      · rename_i hn
        cases h
        obtain ⟨i1, i2⟩ := bld_bd (rows := rs) (fun x hx => hr x (List.mem_cons_of_mem _ hx)) e
        obtain ⟨b1, b2, b3⟩ := hr r (List.mem_cons_self ..)
        have es : s0 = s0.take r.2.2 ++ s0.drop r.2.2 := (List.take_append_drop _ _).symm
        have m1 : mf s0 = mf (s0.take r.2.2) + mf (s0.drop r.2.2) := by rw [← mf_app, ← es]
        have f1 : (fl s0).length = (fl (s0.take r.2.2)).length + (fl (s0.drop r.2.2)).length := by rw [← List.length_append, ← fl_app, ← es]
        have l1 : (s0.take r.2.2).length = r.2.2 := by rw [List.length_take]; omega
        have l2 : (s0.drop r.2.2).length = s0.length - r.2.2 := List.length_drop
        have w1 := wrT_len (r.2.1 ++ s0.take r.2.2)
        rw [fl_app, List.length_append, List.length_append] at w1
        have t1 := msT_mf (s0.take r.2.2)
        constructor
        · show ms (.tuple _) + mf (s0.drop r.2.2) + ((s0.drop r.2.2).length + 1) ≤ 8 * (rs.length + 1)
          rw [ms, msT_app]
          omega
        · show (wr (.tuple _) ++ fl (s0.drop r.2.2)).length + ((s0.drop r.2.2).length + 1) ≤ 304 * (rs.length + 1)
          rw [wr, List.length_append]
          omega
theorem sc_mem {tb : List Row} {l : List Nat} {o : Option (List Row)} (h : Sc tb l o) : ∀ rows, o = some rows → ∀ r ∈ rows, r ∈ tb := by
  induction h with
  | nil => intro rows e r hr; cases e; cases hr
  | no _ _ => intro rows e; cases e
  | @go l r o _ hh _ ih =>
    intro rows e x hx
    cases o with
    | none => cases e
    | some rs =>
      cases e
      rcases List.mem_cons.mp hx with rfl | hx
      · unfold hit at hh
        exact List.mem_of_find?_eq_some hh
      · exact ih rs rfl x hx
theorem tab0_rb : ∀ r ∈ tab0, Rb r := by
  have key : ∀ i : Fin tab0.length, Rb (tab0[i.1]'i.2) := by unfold Rb; decide +kernel
  intro r hr
  obtain ⟨i, hi, rfl⟩ := List.getElem_of_mem hr
  exact key ⟨i, hi⟩
theorem isR_rb {n : Str} (h : n.length ≤ 100) : Rb (isR n) := by
  refine ⟨by show 2 ≤ 3; decide, ?_, ?_⟩
  · show msT [sd "is", .str n] ≤ 6
    rw [msT, msT, msT, ms_sd, ms]
    · decide
    · intro xs h; cases h
  · show (wr (sd "is") ++ (wr (.str n) ++ [])).length ≤ 300
    rw [wr_sd, wr, List.length_append, List.length_append, tl_len n]
    have : (tl (Str.ofString "is")).length = 2 := by decide +kernel
    rw [this]
    show 2 + (n.length + 0) ≤ 300
    omega
theorem tabN_rb {ns : List Str} (h : ∀ n ∈ ns, n.length ≤ 100) : ∀ r ∈ tabN ns, Rb r := by
  intro r hr
  rcases tabN_mem ns hr with h0 | ⟨n, hn, rfl⟩
  · exact tab0_rb r h0
  · exact isR_rb (h n hn)
/-- what a text's forms make, if its text is the text -/
def rdO (l : List Nat) (o : Option (List Row)) : Option PyData :=
  match o with
  | none => none
  | some rows => match bld rows with
    | some [t] => if wr t = l then some t else none
    | _ => none
theorem mf_filter (f : PyData → Bool) : ∀ l, mf (l.filter f) ≤ mf l
  | [] => Nat.le_refl _
  | x :: l => by
    have ih := mf_filter f l
    rw [List.filter_cons]
    split
    · show ms x + mf _ ≤ ms x + mf l
      omega
    · show _ ≤ ms x + mf l
      omega
theorem DpAll.at2 {K : PySem.W.Frag} {H : Hp} : ∀ {xs : List V} {ds : List PyData} {i : Nat} {x : V}, DpAll K H xs ds → xs[i]? = some x → ∃ d, ds[i]? = some d ∧ Dp K H x d
  | _, _, _, _, .nil, e => by simp at e
  | _, _, 0, _, .cons h _, e => by simp at e; subst e; exact ⟨_, rfl, h⟩
  | _, _, i + 1, x, .cons _ t, e => by
    obtain ⟨u, h1, h2⟩ := DpAll.at2 (i := i) (x := x) t (by simpa using e)
    exact ⟨u, by simpa using h1, h2⟩
end My

namespace My
open PySem PySem.Spec PyProof.Rows L2 NumText TL
/-! ### what the law's trees are -/
theorem UT_tab0 {r : Row} (h : r ∈ tab0) : r ∈ UT := List.mem_append_left _ h
theorem UT_menu {n : Str} (h : n ∈ menu9) : isR n ∈ UT := List.mem_append_right _ (List.mem_map.mpr ⟨n, h, rfl⟩)
theorem menu_len : ∀ n ∈ menu9, n.length ≤ 100 := by
  have key : ∀ i : Fin menu9.length, (menu9[i.1]'i.2).length ≤ 100 := by decide +kernel
  intro n hn
  obtain ⟨i, hi, rfl⟩ := List.getElem_of_mem hn
  exact key ⟨i, hi⟩
theorem UT_rb : ∀ r ∈ UT, Rb r := by
  intro r hr
  rcases List.mem_append.mp hr with h | h
  · exact tab0_rb r h
  · obtain ⟨n, hn, rfl⟩ := List.mem_map.mp h
    exact isR_rb (menu_len n hn)
theorem isR_tr (n : Str) : tr (.tuple (isR n).2.1) = true := by
  show tr (.tuple [sd "is", .str n]) = true
  rw [tr, trL, trL, trL, tr_sd, tr]
  rfl
theorem UT_tr : ∀ r ∈ UT, tr (.tuple r.2.1) = true := by
  intro r hr
  rcases List.mem_append.mp hr with h | h
  · exact tab0_tr r h
  · obtain ⟨n, hn, rfl⟩ := List.mem_map.mp h
    exact isR_tr n
/-- fields are texts and numbers -/
def flat (d : PyData) : Bool := match d with
  | .str _ => true
  | .int _ => true
  | _ => false
theorem UT_flat : ∀ r ∈ UT, ∀ f ∈ r.2.1, flat f = true := by
  have key : ∀ i : Fin tab0.length, (tab0[i.1]'i.2).2.1.all flat = true := by decide +kernel
  intro r hr f hf
  rcases List.mem_append.mp hr with h | h
  · obtain ⟨i, hi, rfl⟩ := List.getElem_of_mem h
    exact List.all_eq_true.mp (key ⟨i, hi⟩) f hf
  · obtain ⟨n, hn, rfl⟩ := List.mem_map.mp h
    have hf' : f ∈ [sd "is", PyData.str n] := hf
    simp only [List.mem_cons, List.not_mem_nil, or_false] at hf'
    rcases hf' with rfl | rfl <;> rfl
theorem flat_cnt {f : PyData} (h : flat f = true) : cnt f = 0 := cnt_no (by cases f <;> first | rfl | cases h)
theorem cntT_flat : ∀ {fs : List PyData}, (∀ f ∈ fs, flat f = true) → cntT fs = 0
  | [], _ => by rw [cntT]
  | f :: fs, h => by rw [cntT, flat_cnt (h f (List.mem_cons_self ..)), cntT_flat (fs := fs) fun x hx => h x (List.mem_cons_of_mem _ hx)]
theorem flat_sh : ∀ {f : PyData}, flat f = true → ∀ n, Sh n f
  | .str _, _, 0 => True.intro
  | .str _, _, _ + 1 => True.intro
  | .int _, _, 0 => True.intro
  | .int _, _, _ + 1 => True.intro
  | .none, h, _ => by cases h
  | .bool _, h, _ => by cases h
  | .list _, h, _ => by cases h
  | .tuple _, h, _ => by cases h
  | .dict _, h, _ => by cases h
theorem sh_mono : ∀ {n : Nat} {d : PyData}, Sh n d → Sh (n + 1) d
  | 0, .none, _ => True.intro
  | 0, .bool _, _ => True.intro
  | 0, .int _, _ => True.intro
  | 0, .str _, _ => True.intro
  | 0, .list _, h => h.elim
  | 0, .tuple _, h => h.elim
  | 0, .dict _, h => h.elim
  | n + 1, .none, _ => True.intro
  | n + 1, .bool _, _ => True.intro
  | n + 1, .int _, _ => True.intro
  | n + 1, .str _, _ => True.intro
  | n + 1, .list xs, h => ⟨h.1, fun x hx => sh_mono (h.2 x hx)⟩
  | n + 1, .tuple xs, h => ⟨h.1, fun x hx => sh_mono (h.2 x hx)⟩
  | n + 1, .dict _, h => h.elim
theorem sh_le {n m : Nat} {d : PyData} (h : Sh n d) (hm : n ≤ m) : Sh m d := by
  induction hm with
  | refl => exact h
  | step _ ih => exact sh_mono ih
mutual
theorem pr_tr : ∀ {d : PyData} {a : List Row}, Pr UT d a → tr d = true
  | _, _, .mk (r := r) (kids := kids) hr hk h => by
    have h1 := UT_tr r hr
    have h2 := prL_tr h
    rw [tr, Bool.and_eq_true] at h1 ⊢
    refine ⟨?_, trL_iff.mpr fun x hx => ?_⟩
    · cases e : r.2.1 with
      | nil => rw [e] at h1; cases h1.1
      | cons a b => rfl
    · rcases List.mem_append.mp hx with z | z
      · exact trL_iff.mp h1.2 x z
      · exact trL_iff.mp h2 x z
theorem prL_tr : ∀ {ds : List PyData} {a : List Row}, PrL UT ds a → trL ds = true
  | _, _, .nil => by rw [trL]
  | _, _, .cons h t => by
    rw [trL, pr_tr h, prL_tr t]
    rfl
end
mutual
theorem pr_cnt : ∀ {d : PyData} {a : List Row}, Pr UT d a → cnt d = a.length
  | _, _, .mk (r := r) (kids := kids) (rows := rows) hr hk h => by
    rw [cnt, cntT_app, cntT_flat (UT_flat r hr), prL_cnt h]
    show 1 + (0 + rows.length) = rows.length + 1
    omega
theorem prL_cnt : ∀ {ds : List PyData} {a : List Row}, PrL UT ds a → cntT ds = a.length
  | _, _, .nil => by rw [cntT]; rfl
  | _, _, .cons h t => by rw [cntT, pr_cnt h, prL_cnt t, List.length_append]
end
theorem prL_len : ∀ {tb : List Row} {ds : List PyData} {a : List Row}, PrL tb ds a → ds.length ≤ a.length
  | _, _, _, .nil => Nat.le_refl _
  | _, _, _, .cons (.mk _ _ _) t => by
    have := prL_len t
    rw [List.length_append]
    simp only [List.length_cons]
    omega
mutual
theorem pr_sh : ∀ {d : PyData} {a : List Row}, Pr UT d a → a.length ≤ 10000 → Sh a.length d
  | _, _, .mk (r := r) (kids := kids) (rows := rows) hr hk h => fun hb => by
    have hl := prL_len h
    have h3 := (UT_rb r hr).1
    rw [List.length_cons] at hb ⊢
    refine ⟨by rw [List.length_append]; omega, fun x hx => ?_⟩
    rcases List.mem_append.mp hx with z | z
    · exact flat_sh (UT_flat r hr x z) _
    · exact prL_sh h (by omega) x z
theorem prL_sh : ∀ {ds : List PyData} {a : List Row}, PrL UT ds a → a.length ≤ 10000 → ∀ x ∈ ds, Sh a.length x
  | _, _, .nil => fun _ _ h => by cases h
  | _, _, .cons (a := a) (b := b) h t => fun hb x hx => by
    have i1 := pr_sh h
    have i2 := prL_sh t
    rw [List.length_append] at hb ⊢
    rcases List.mem_cons.mp hx with e | hx
    · rw [e]
      exact sh_le (i1 (by omega)) (by omega)
    · exact sh_le (i2 (by omega) x hx) (by omega)
end
theorem pr_bd {d : PyData} {a : List Row} (h : Pr UT d a) (hr : ∀ r ∈ a, r ∈ UT) : ms d ≤ 8 * a.length ∧ (wr d).length ≤ 304 * a.length := by
  have e := bld_pr [] h rfl
  rw [List.append_nil] at e
  have b := bld_bd (fun r hr' => UT_rb r (hr r hr')) e
  have b1 : ms d + 0 + 1 ≤ 8 * a.length := b.1
  have b2 : (wr d ++ []).length + 1 ≤ 304 * a.length := b.2
  rw [List.append_nil] at b2
  omega
def NsOk (ns : List Str) : Prop := (∀ n ∈ ns, n ∈ menu) ∧ 0 < ns.length ∧ ns.length ≤ 3
theorem menu_9 {n : Str} (h : n ∈ menu) : n ∈ menu9 := List.mem_append_left _ h
theorem tabN_UT {ns : List Str} (h : ∀ n ∈ ns, n ∈ menu9) : ∀ r ∈ tabN ns, r ∈ UT := fun r hr => by
  rcases tabN_mem ns hr with h0 | ⟨n, hn, rfl⟩
  · exact UT_tab0 h0
  · exact UT_menu (h n hn)
theorem TX.sx {K : PySem.W.Frag} {st : Addr} {H H' : Hp} (e : SX st H H') : TX K H H' := fun _ _ h => e.seqT h
theorem pr1 {r : Row} (hr : r ∈ UT) (h0 : r.2.2 = 0) : Pr UT (.tuple (r.2.1 ++ [])) [r] := .mk hr h0.symm .nil
theorem pr2 {r : Row} {t : PyData} {a : List Row} (hr : r ∈ UT) (h1 : r.2.2 = 1) (h : Pr UT t a) : Pr UT (.tuple (r.2.1 ++ [t])) (r :: a) := by
  have := Pr.mk hr (kids := [t]) h1.symm (.cons h .nil)
  rwa [List.append_nil] at this
theorem pr3 {r : Row} {t u : PyData} {a b : List Row} (hr : r ∈ UT) (h1 : r.2.2 = 2) (h : Pr UT t a) (h' : Pr UT u b) : Pr UT (.tuple (r.2.1 ++ [t, u])) (r :: (a ++ b)) := by
  have := Pr.mk hr (kids := [t, u]) h1.symm (.cons h (.cons h' .nil))
  rwa [List.append_nil] at this
theorem pr4 {r : Row} {t u v : PyData} {a b c : List Row} (hr : r ∈ UT) (h1 : r.2.2 = 3) (h : Pr UT t a) (h' : Pr UT u b) (h'' : Pr UT v c) : Pr UT (.tuple (r.2.1 ++ [t, u, v])) (r :: (a ++ (b ++ c))) := by
  have := Pr.mk hr (kids := [t, u, v]) h1.symm (.cons h (.cons h' (.cons h'' .nil)))
  rwa [List.append_nil] at this
section
variable {P : Program} {w : World} {K : PySem.W.Frag} {mg : Str → Option Value} {base : Heap}
/-! ### _law_names -/
def sp_law_names (K : PySem.W.Frag) : Sp := fun vs H Q _ => ∃ (st : Addr) (n : Nat), vs = [.ref st] ∧ St H st n ∧ n < 2 ^ 40 ∧ ∀ p ns n' H', SX st H H' → St H' st n' → n' ≤ n + 2 → SqT K H' p (ns.map V.str) → NsOk ns → Q (.ref p) H'
theorem ok_law_names (T : Top K mg w) : FnOk P w K mg base CX0 3 T.a_law_names T.d_law_names ["state"] (sp_law_names K) := by
  refine T.F_law_names.ok sc_law_names (fun vs H Q E h => ?_) (fun cdv A outer s H vs Q E hr h => ?_)
  · obtain ⟨st, n, rfl, _⟩ := h
    rfl
  obtain ⟨st, n, rfl, hs, hn, q⟩ := h
  refine ⟨_, (pss_cons (ps_set (i := 1) sc_law_names.nd rfl (Or.inr rfl) (pe_lst (pa_cons pe_str (pa_cons pe_str (pa_cons pe_str (pa_cons pe_str (pa_cons pe_str (pa_cons pe_str (pa_cons pe_str pa_nil)))))))))
      (pss_cons (ps_set (i := 2) sc_law_names.nd rfl (Or.inr rfl) (pe_call ((ok_law_take T).mono (by decide)) hr (by rfl) T.m_law_take T.F_law_take.kp T.b_law_take .nil pass0 (pa_cons (pv 0) (pa_cons pe_int pa_nil))))
      (pss_one (ps_ret (pe_callTy call_tuple_of (by rfl) T.z_tuple (by decide +kernel) (pa_cons (pe_lc (own := [("k", 3)]) (g := gName 3) (by rfl) sc_law_names.nd (pi_range1 (by rfl) T.z_range (pa_cons (pe_op op_add pe_int (pe_call ((ok_law_take T).mono (by decide)) hr (by rfl) T.m_law_take T.F_law_take.kp T.b_law_take .nil pass0 (pa_cons (pv 0) (pa_cons pe_int pa_nil)))) pa_nil)) (blkOk_by (own := [("k", 3)]) (N := ["state", "menu", "first", "k"]) (sc := defScope s_law_names) (by decide +kernel)) (fun _ _ _ _ _ => (pg_name (i := 3) sc_law_names.nd rfl (Or.inl rfl))) (fun _ _ _ _ _ => pts_nil) (fun _ _ _ _ _ => (pe_ix (show IxR _ (rIxL K) from ix_list) (pv 1) (pe_op op_mod (pe_callTy call_int1 (by rfl) T.z_int (by decide +kernel) (pa_cons (pe_op op_add (pv 2) (pe_op op_mul pe_int (pv 3))) pa_nil)) pe_int) (fun _ _ => rfl)))) pa_nil)))))), ?_⟩
  refine ⟨by show 7 ≤ sizeLine; decide, fun mn hmn => ?_⟩
  have s0 := hs.new (o := .lst (menu.map V.str)) hmn
  have x0 : SX st H (upd H mn (.lst (menu.map V.str))) := SX.new hmn
  have m0 : (upd H mn (.lst (menu.map V.str))) mn = some (.lst (menu.map V.str)) := upd_same
  have hne : mn ≠ st := fun e => by
    obtain ⟨xs, hx⟩ := hs.isL
    rw [e, hx] at hmn
    cases hmn
  (repeat (first
      | refine ⟨_, rfl, ?_⟩
      | refine ⟨_, _, rfl, rfl, ?_⟩
      | refine Or.inl ⟨_, rfl, ?_⟩
      | refine Or.inr ⟨_, rfl, ?_⟩
      | refine ⟨Or.inl ⟨by decide, by decide⟩, ?_⟩
      | refine ⟨Or.inr ⟨by decide, by decide⟩, ?_⟩
      | refine ⟨⟨by decide, by decide⟩, ?_⟩
      | refine ⟨⟨by decide, by decide, by decide⟩, ?_⟩
      | refine ⟨by decide, ?_⟩
      | refine ⟨(by show (0 : Int) < _; decide), ?_⟩
      | refine ⟨rfl, ?_⟩
      | refine ⟨⟨_, rfl⟩, ?_⟩
      | refine ⟨_, rfl, rfl, trivial, ?_⟩
      | refine ⟨_, _, rfl, ?_⟩))
  refine ⟨st, n, 7, rfl, s0, by omega, by decide, fun first H1 f0 f1 x1 s1 => ?_⟩
  have m1 := x1.lst hne m0
  (repeat (first
      | refine ⟨_, rfl, ?_⟩
      | refine ⟨_, _, rfl, rfl, ?_⟩
      | refine Or.inl ⟨_, rfl, ?_⟩
      | refine Or.inr ⟨_, rfl, ?_⟩
      | refine ⟨Or.inl ⟨by decide, by decide⟩, ?_⟩
      | refine ⟨Or.inr ⟨by decide, by decide⟩, ?_⟩
      | refine ⟨⟨by decide, by decide⟩, ?_⟩
      | refine ⟨⟨by decide, by decide, by decide⟩, ?_⟩
      | refine ⟨by decide, ?_⟩
      | refine ⟨(by show (0 : Int) < _; decide), ?_⟩
      | refine ⟨rfl, ?_⟩
      | refine ⟨⟨_, rfl⟩, ?_⟩
      | refine ⟨_, rfl, rfl, trivial, ?_⟩
      | refine ⟨_, _, rfl, ?_⟩))
  refine ⟨st, n + 1, 3, rfl, s1, by omega, by decide, fun v H2 v0 v1 x2 s2 => ?_⟩
  have m2 := x2.lst hne m1
  (repeat (first
      | refine ⟨_, rfl, ?_⟩
      | refine ⟨_, _, rfl, rfl, ?_⟩
      | refine Or.inl ⟨_, rfl, ?_⟩
      | refine Or.inr ⟨_, rfl, ?_⟩
      | refine ⟨Or.inl ⟨by decide, by decide⟩, ?_⟩
      | refine ⟨Or.inr ⟨by decide, by decide⟩, ?_⟩
      | refine ⟨⟨by decide, by decide⟩, ?_⟩
      | refine ⟨⟨by decide, by decide, by decide⟩, ?_⟩
      | refine ⟨by decide, ?_⟩
      | refine ⟨(by show (0 : Int) < _; decide), ?_⟩
      | refine ⟨rfl, ?_⟩
      | refine ⟨⟨_, rfl⟩, ?_⟩
      | refine ⟨_, rfl, rfl, trivial, ?_⟩
      | refine ⟨_, _, rfl, ?_⟩))
  refine ⟨by omega, by omega, fun D hD => ?_⟩
  have smD : ∀ o, L2.Same H2 (upd H2 D o) := fun o => same_upd hD
  refine lc_range (lo := 0) (n := (1 + v).toNat) (fun i H' => ∃ ns : List Str, H' = upd H2 D (.lst (ns.map V.str)) ∧ (∀ n ∈ ns, n ∈ menu) ∧ ns.length = i) ⟨[], rfl, (fun _ h => by cases h), rfl⟩ ?_ ?_
  · rintro i H' hi ⟨ns, rfl, hm, hl⟩
    refine ⟨rfl, ?_⟩
    (repeat (first
      | refine ⟨_, rfl, ?_⟩
      | refine ⟨_, _, rfl, rfl, ?_⟩
      | refine Or.inl ⟨_, rfl, ?_⟩
      | refine Or.inr ⟨_, rfl, ?_⟩
      | refine ⟨Or.inl ⟨by decide, by decide⟩, ?_⟩
      | refine ⟨Or.inr ⟨by decide, by decide⟩, ?_⟩
      | refine ⟨⟨by decide, by decide⟩, ?_⟩
      | refine ⟨⟨by decide, by decide, by decide⟩, ?_⟩
      | refine ⟨by decide, ?_⟩
      | refine ⟨(by show (0 : Int) < _; decide), ?_⟩
      | refine ⟨rfl, ?_⟩
      | refine ⟨⟨_, rfl⟩, ?_⟩
      | refine ⟨_, rfl, rfl, trivial, ?_⟩
      | refine ⟨_, _, rfl, ?_⟩))
    have hj0 : 0 ≤ (first + 3 * (0 + (i : Int))) % 7 := Int.emod_nonneg _ (by decide)
    have hj1 : (first + 3 * (0 + (i : Int))) % 7 < 7 := Int.emod_lt_of_pos _ (by decide)
    obtain ⟨j, hj, ej⟩ : ∃ j : Nat, j < menu.length ∧ (first + 3 * (0 + (i : Int))) % 7 = (j : Int) := ⟨((first + 3 * (0 + (i : Int))) % 7).toNat, by show _ < 7; omega, by omega⟩
    refine ⟨mn, menu.map V.str, _, .str menu[j], rfl, rfl, SqL.of (smD _ _ _ m2), (by
      show atI _ ((first + 3 * (0 + (i : Int))) % 7) = _
      rw [ej]
      exact atI_nat (by rw [List.getElem?_map, List.getElem?_eq_getElem hj]; rfl)), ?_⟩
    refine ⟨_, upd_same, smallL (by rw [List.length_map]; omega), ns ++ [menu[j]], ?_, (fun n hn => ?_), by rw [List.length_append, hl]; rfl⟩
    · rw [upd_upd, List.map_append]
      rfl
    · rcases List.mem_append.mp hn with h | h
      · exact hm n h
      · rw [List.mem_singleton.mp h]
        exact List.getElem_mem hj
  rintro _ ⟨ns, rfl, hm, hl⟩
  (repeat (first
      | refine ⟨_, rfl, ?_⟩
      | refine ⟨_, _, rfl, rfl, ?_⟩
      | refine Or.inl ⟨_, rfl, ?_⟩
      | refine Or.inr ⟨_, rfl, ?_⟩
      | refine ⟨Or.inl ⟨by decide, by decide⟩, ?_⟩
      | refine ⟨Or.inr ⟨by decide, by decide⟩, ?_⟩
      | refine ⟨⟨by decide, by decide⟩, ?_⟩
      | refine ⟨⟨by decide, by decide, by decide⟩, ?_⟩
      | refine ⟨by decide, ?_⟩
      | refine ⟨(by show (0 : Int) < _; decide), ?_⟩
      | refine ⟨rfl, ?_⟩
      | refine ⟨⟨_, rfl⟩, ?_⟩
      | refine ⟨_, rfl, rfl, trivial, ?_⟩
      | refine ⟨_, _, rfl, ?_⟩))
  refine ⟨D, _, rfl, .inl ⟨SqL.of upd_same, fun p hp => ?_⟩⟩
  have s4 : SX st H2 (upd (upd H2 D (.lst (ns.map V.str))) p (.tup (ns.map V.str))) := (SX.same (smD _)).trans (SX.new hp)
  exact q p ns _ _ (((x0.trans x1).trans x2).trans s4) ((s2.new hD).new hp) (by omega) (SqT.of upd_same) ⟨hm, by omega, by omega⟩
/-! ### _law_leaf -/
def sp_law_leaf (K : PySem.W.Frag) : Sp := fun vs H Q _ => ∃ (st nm : Addr) (n : Nat) (ns : List Str), vs = [.ref st, .ref nm] ∧ St H st n ∧ n < 2 ^ 40 ∧ SqT K H nm (ns.map V.str) ∧ NsOk ns ∧ ∀ p t a n' H', SX st H H' → St H' st n' → n' ≤ n + 2 → Dp K H' (.ref p) t → Pr UT t a → (∀ r ∈ a, r ∈ tabN ns) → a.length = 1 → Q (.ref p) H'
theorem ok_law_leaf (T : Top K mg w) : FnOk P w K mg base CX0 3 T.a_law_leaf T.d_law_leaf ["state", "names"] (sp_law_leaf K) := by
  refine T.F_law_leaf.ok sc_law_leaf (fun vs H Q E h => ?_) (fun cdv A outer s H vs Q E hr h => ?_)
  · obtain ⟨st, nm, n, ns, rfl, _⟩ := h
    rfl
  obtain ⟨st, nm, n, ns, rfl, hs, hn, hN, hno, q⟩ := h
  refine ⟨_, (pss_cons (ps_set (i := 2) sc_law_leaf.nd rfl (Or.inl rfl) (pe_call ((ok_law_take T).mono (by decide)) hr (by rfl) T.m_law_take T.F_law_take.kp T.b_law_take .nil pass0 (pa_cons (pv 0) (pa_cons pe_int pa_nil))))
      (pss_cons (ps_if (pt_cmpR op_lt (pv 2) pe_int (nomark _))
        (pss_one (ps_ret (pe_tup (pa_cons pe_str pa_nil))))
        pss_nil)
      (pss_cons (ps_if (pt_cmpR op_eq (pv 2) pe_int (nomark _))
        (pss_one (ps_ret (pe_tup (pa_cons pe_str pa_nil))))
        pss_nil)
      (pss_one (ps_ret (pe_tup (pa_cons pe_str (pa_cons (pe_ix ix_tup (pv 1) (pe_call ((ok_law_take T).mono (by decide)) hr (by rfl) T.m_law_take T.F_law_take.kp T.b_law_take .nil pass0 (pa_cons (pv 0) (pa_cons (pe_callB call_len_seq (by rfl) T.z_len (by decide +kernel) (pa_cons (pv 1) pa_nil)) pa_nil))) (fun _ _ => rfl)) pa_nil)))))))), ?_⟩
  (repeat (first
      | refine ⟨_, rfl, ?_⟩
      | refine ⟨_, _, rfl, rfl, ?_⟩
      | refine Or.inl ⟨_, rfl, ?_⟩
      | refine Or.inr ⟨_, rfl, ?_⟩
      | refine ⟨Or.inl ⟨by decide, by decide⟩, ?_⟩
      | refine ⟨Or.inr ⟨by decide, by decide⟩, ?_⟩
      | refine ⟨⟨by decide, by decide⟩, ?_⟩
      | refine ⟨⟨by decide, by decide, by decide⟩, ?_⟩
      | refine ⟨by decide, ?_⟩
      | refine ⟨(by show (0 : Int) < _; decide), ?_⟩
      | refine ⟨rfl, ?_⟩
      | refine ⟨⟨_, rfl⟩, ?_⟩
      | refine ⟨_, rfl, rfl, trivial, ?_⟩
      | refine ⟨_, _, rfl, ?_⟩))
  refine ⟨st, n, 5, rfl, hs, by omega, by decide, fun v H1 v0 v1 x1 s1 => ?_⟩
  (repeat (first
      | refine ⟨_, rfl, ?_⟩
      | refine ⟨_, _, rfl, rfl, ?_⟩
      | refine Or.inl ⟨_, rfl, ?_⟩
      | refine Or.inr ⟨_, rfl, ?_⟩
      | refine ⟨Or.inl ⟨by decide, by decide⟩, ?_⟩
      | refine ⟨Or.inr ⟨by decide, by decide⟩, ?_⟩
      | refine ⟨⟨by decide, by decide⟩, ?_⟩
      | refine ⟨⟨by decide, by decide, by decide⟩, ?_⟩
      | refine ⟨by decide, ?_⟩
      | refine ⟨(by show (0 : Int) < _; decide), ?_⟩
      | refine ⟨rfl, ?_⟩
      | refine ⟨⟨_, rfl⟩, ?_⟩
      | refine ⟨_, rfl, rfl, trivial, ?_⟩
      | refine ⟨_, _, rfl, ?_⟩))
  refine ite_dec (fun c => ?_) (fun c => ?_)
  · refine ⟨by show 1 ≤ sizeLine; decide, fun p hp => ?_⟩
    exact q p _ _ _ _ (x1.trans (SX.new hp)) (s1.new hp) (by omega) (.tup (SqT.of upd_same) (.cons (.str _) .nil)) (pr1 (r := ("now", [sd "now"], 0)) (UT_tab0 (by simp [tab0])) rfl) (fun r hr => by rw [List.mem_singleton.mp hr]; exact tabN_tab0 (by simp [tab0])) rfl
  (repeat (first
      | refine ⟨_, rfl, ?_⟩
      | refine ⟨_, _, rfl, rfl, ?_⟩
      | refine Or.inl ⟨_, rfl, ?_⟩
      | refine Or.inr ⟨_, rfl, ?_⟩
      | refine ⟨Or.inl ⟨by decide, by decide⟩, ?_⟩
      | refine ⟨Or.inr ⟨by decide, by decide⟩, ?_⟩
      | refine ⟨⟨by decide, by decide⟩, ?_⟩
      | refine ⟨⟨by decide, by decide, by decide⟩, ?_⟩
      | refine ⟨by decide, ?_⟩
      | refine ⟨(by show (0 : Int) < _; decide), ?_⟩
      | refine ⟨rfl, ?_⟩
      | refine ⟨⟨_, rfl⟩, ?_⟩
      | refine ⟨_, rfl, rfl, trivial, ?_⟩
      | refine ⟨_, _, rfl, ?_⟩))
  refine ite_dec (fun c2 => ?_) (fun c2 => ?_)
  · refine ⟨by show 1 ≤ sizeLine; decide, fun p hp => ?_⟩
    exact q p _ _ _ _ (x1.trans (SX.new hp)) (s1.new hp) (by omega) (.tup (SqT.of upd_same) (.cons (.str _) .nil)) (pr1 (r := ("nothing", [sd "nothing"], 0)) (UT_tab0 (by simp [tab0])) rfl) (fun r hr => by rw [List.mem_singleton.mp hr]; exact tabN_tab0 (by simp [tab0])) rfl
  have hN1 := x1.seqT hN
  (repeat (first
      | refine ⟨_, rfl, ?_⟩
      | refine ⟨_, _, rfl, rfl, ?_⟩
      | refine Or.inl ⟨_, rfl, ?_⟩
      | refine Or.inr ⟨_, rfl, ?_⟩
      | refine ⟨Or.inl ⟨by decide, by decide⟩, ?_⟩
      | refine ⟨Or.inr ⟨by decide, by decide⟩, ?_⟩
      | refine ⟨⟨by decide, by decide⟩, ?_⟩
      | refine ⟨⟨by decide, by decide, by decide⟩, ?_⟩
      | refine ⟨by decide, ?_⟩
      | refine ⟨(by show (0 : Int) < _; decide), ?_⟩
      | refine ⟨rfl, ?_⟩
      | refine ⟨⟨_, rfl⟩, ?_⟩
      | refine ⟨_, rfl, rfl, trivial, ?_⟩
      | refine ⟨_, _, rfl, ?_⟩))
  refine ⟨nm, _, rfl, .inr hN1, ?_⟩
  rw [List.length_map]
  refine ⟨st, n + 1, _, rfl, s1, by omega, by have := hno.2.1; omega, fun i H2 i0 i1 x2 s2 => ?_⟩
  have hN2 := x2.seqT hN1
  have hi : i.toNat < ns.length := by omega
  have ei : i = (i.toNat : Int) := by omega
  refine ⟨nm, _, _, _, rfl, rfl, hN2, (by rw [ei]; exact atI_nat (j := i.toNat) (by rw [List.getElem?_map, List.getElem?_eq_getElem hi]; rfl)), ?_⟩
  refine ⟨by show 2 ≤ sizeLine; decide, fun p hp => ?_⟩
  have hmem : ns[i.toNat] ∈ ns := List.getElem_mem hi
  exact q p _ _ _ _ ((x1.trans x2).trans (SX.new hp)) (s2.new hp) (by omega) (.tup (SqT.of upd_same) (.cons (.str _) (.cons (.str _) .nil))) (pr1 (r := isR ns[i.toNat]) (UT_menu (menu_9 (hno.1 _ hmem))) rfl) (fun r hr => by rw [List.mem_singleton.mp hr]; exact tabN_has ns hmem) rfl
end
end My

namespace My
open PySem PySem.Spec PyProof.Rows L2 NumText TL
theorem in0 {i : Nat} (h : i < tab0.length := by decide) : tab0[i] ∈ tab0 := List.getElem_mem h
theorem un_row {v : Int} (h0 : 1 ≤ v) (h1 : v < 4) : ∃ (s : Str) (r : Row), atI [V.str "last", V.str "first", V.str "before"] (v - 1) = some (.str s) ∧ r ∈ tab0 ∧ r.2 = ([.str s], 1) := by
  have : v = 1 ∨ v = 2 ∨ v = 3 := by omega
  rcases this with rfl | rfl | rfl
  · exact ⟨"last", _, rfl, in0 (i := 5), rfl⟩
  · exact ⟨"first", _, rfl, in0 (i := 6), rfl⟩
  · exact ⟨"before", _, rfl, in0 (i := 7), rfl⟩
theorem nu_row {v : Int} (h0 : 4 ≤ v) (h1 : v < 7) : ∃ (s : Str) (m : Int), atI [V.int 2, V.int 2, V.int 3] (v - 4) = some (.int m) ∧ 0 < m ∧ atI [V.str "great", V.str "least", V.str "times"] (v - 4) = some (.str s) ∧ ∀ t, 0 ≤ t → t < m → ∃ r : Row, r ∈ tab0 ∧ r.2 = ([.str s, .int (1 + t)], 1) := by
  have : v = 4 ∨ v = 5 ∨ v = 6 := by omega
  rcases this with rfl | rfl | rfl
  · refine ⟨"great", 2, rfl, by decide, rfl, fun t t0 t1 => ?_⟩
    have : t = 0 ∨ t = 1 := by omega
    rcases this with rfl | rfl
    · exact ⟨_, in0 (i := 8), rfl⟩
    · exact ⟨_, in0 (i := 9), rfl⟩
  · refine ⟨"least", 2, rfl, by decide, rfl, fun t t0 t1 => ?_⟩
    have : t = 0 ∨ t = 1 := by omega
    rcases this with rfl | rfl
    · exact ⟨_, in0 (i := 10), rfl⟩
    · exact ⟨_, in0 (i := 11), rfl⟩
  · refine ⟨"times", 3, rfl, by decide, rfl, fun t t0 t1 => ?_⟩
    have : t = 0 ∨ t = 1 ∨ t = 2 := by omega
    rcases this with rfl | rfl | rfl
    · exact ⟨_, in0 (i := 12), rfl⟩
    · exact ⟨_, in0 (i := 13), rfl⟩
    · exact ⟨_, in0 (i := 14), rfl⟩
theorem ci_row {u t : Int} (h0 : 0 ≤ u) (h1 : u < 2) (t0 : 0 ≤ t) (t1 : t < 2 + u) : ∃ r : Row, r ∈ tab0 ∧ r.2 = ([sd "circle", .int (2 + u), .int t], 1) := by
  have : u = 0 ∨ u = 1 := by omega
  rcases this with rfl | rfl
  · have : t = 0 ∨ t = 1 := by omega
    rcases this with rfl | rfl
    · exact ⟨_, in0 (i := 15), rfl⟩
    · exact ⟨_, in0 (i := 16), rfl⟩
  · have : t = 0 ∨ t = 1 ∨ t = 2 := by omega
    rcases this with rfl | rfl | rfl
    · exact ⟨_, in0 (i := 17), rfl⟩
    · exact ⟨_, in0 (i := 18), rfl⟩
    · exact ⟨_, in0 (i := 19), rfl⟩
def words8 : List V := [V.str "less", V.str "same", V.str "since", V.str "among", V.str "since", V.str "among", V.str "less", V.str "same"]
theorem bi_row {v : Int} (h0 : 8 ≤ v) (h1 : v < 16) : ∃ (s : Str) (r : Row), atI words8 (v % 8) = some (.str s) ∧ r ∈ tab0 ∧ r.2 = ([.str s], 2) := by
  have : v = 8 ∨ v = 9 ∨ v = 10 ∨ v = 11 ∨ v = 12 ∨ v = 13 ∨ v = 14 ∨ v = 15 := by omega
  rcases this with rfl | rfl | rfl | rfl | rfl | rfl | rfl | rfl
  · exact ⟨"less", _, rfl, in0 (i := 2), rfl⟩
  · exact ⟨"same", _, rfl, in0 (i := 3), rfl⟩
  · exact ⟨"since", _, rfl, in0 (i := 20), rfl⟩
  · exact ⟨"among", _, rfl, in0 (i := 21), rfl⟩
  · exact ⟨"since", _, rfl, in0 (i := 20), rfl⟩
  · exact ⟨"among", _, rfl, in0 (i := 21), rfl⟩
  · exact ⟨"less", _, rfl, in0 (i := 2), rfl⟩
  · exact ⟨"same", _, rfl, in0 (i := 3), rfl⟩
theorem prL_app {tb : List Row} : ∀ {ds ds' : List PyData} {a a' : List Row}, PrL tb ds a → PrL tb ds' a' → PrL tb (ds ++ ds') (a ++ a')
  | _, _, _, _, .nil, h => h
  | _, _, _, _, .cons (a := a) (b := b) h t, h' => by
    rw [List.append_assoc]
    exact .cons h (prL_app t h')
theorem row_eta {r : Row} {fs : List PyData} {c : Nat} (h : r.2 = (fs, c)) : r.2.1 = fs ∧ r.2.2 = c := by rw [h]; exact ⟨rfl, rfl⟩
section
variable {P : Program} {w : World} {K : PySem.W.Frag} {mg : Str → Option Value} {base : Heap}
/-! ### _law_tree -/
def sp_law_tree (K : PySem.W.Frag) (j : Nat) : Sp := fun vs H Q _ => ∃ (st nm : Addr) (n : Nat) (ns : List Str) (room : Nat), vs = [.ref st, .ref nm, .int (room : Int)] ∧ St H st n ∧ n + 6 * room + 100 < 2 ^ 40 ∧ SqT K H nm (ns.map V.str) ∧ NsOk ns ∧ 1 ≤ room ∧ room ≤ j ∧ room ≤ 100 ∧
  ∀ p t a n' H', SX st H H' → St H' st n' → n' ≤ n + 6 * a.length → Dp K H' (.ref p) t → Pr UT t a → (∀ r ∈ a, r ∈ tabN ns) → a.length ≤ room → Q (.ref p) H'
theorem ptu {t : PyData} {a : List Row} (h : Pr UT t a) : tr t = true := pr_tr h
theorem step_law_tree (T : Top K mg w) (j k : Nat) (hk : 3 ≤ k) (G_law_tree : ∀ m, m + 1 = j → FnOk P w K mg base CX0 k T.a_law_tree T.d_law_tree ["state", "names", "room"] (sp_law_tree K m)) : FnOk P w K mg base CX0 (k + 1) T.a_law_tree T.d_law_tree ["state", "names", "room"] (sp_law_tree K j) := by
  have no0 : FnOk P w K mg base CX0 k T.a_law_tree T.d_law_tree ["state", "names", "room"] (fun _ _ _ _ => False) := ⟨fun vs H Q E h => h.elim, fun A outer s H args us vs Q E _ _ _ _ h => h.elim⟩
  have G_law_tree : FnOk P w K mg base CX0 k T.a_law_tree T.d_law_tree ["state", "names", "room"] (fun vs H Q E => ∃ m, m + 1 = j ∧ sp_law_tree K m vs H Q E) := by
    cases j with
    | zero => exact no0.imp fun vs H Q E ⟨m, h, _⟩ => by omega
    | succ n =>
      refine (G_law_tree n rfl).imp fun vs H Q E h => ?_
      obtain ⟨m, h, q⟩ := h
      have e : m = n := by omega
      subst e
      exact q
  have G_law_take : FnOk P w K mg base CX0 k T.a_law_take T.d_law_take ["state", "many"] sp_law_take := (ok_law_take T).mono (by omega)
  have G_law_leaf : FnOk P w K mg base CX0 k T.a_law_leaf T.d_law_leaf ["state", "names"] (sp_law_leaf K) := (ok_law_leaf T).mono hk
  refine T.F_law_tree.ok sc_law_tree (fun vs H Q E h => ?_) (fun cdv A outer s H vs Q E hr h => ?_)
  · obtain ⟨st, nm, n, ns, room, rfl, _⟩ := h
    rfl
  obtain ⟨st, nm, n, ns, room, rfl, hs, hn, hN, hno, h1, hj, h100, q⟩ := h
  refine ⟨_, (pss_cons (ps_set (i := 3) sc_law_tree.nd rfl (Or.inl rfl) (pe_call G_law_take hr (by rfl) T.m_law_take T.F_law_take.kp T.b_law_take .nil pass0 (pa_cons (pv 0) (pa_cons pe_int pa_nil))))
      (pss_cons (ps_if (PW.pt (pw_or (pt_cmpR op_lt (pv 2) pe_int (nomark _)) (pw_or1 (pt_cmpR op_eq (pv 3) pe_int (nomark _)))))
        (pss_one (ps_ret (pe_call G_law_leaf hr (by rfl) T.m_law_leaf T.F_law_leaf.kp T.b_law_leaf .nil pass0 (pa_cons (pv 0) (pa_cons (pv 1) pa_nil)))))
        pss_nil)
      (pss_cons (ps_if (pt_cmpR op_lt (pv 3) pe_int (nomark _))
        (pss_one (ps_ret (pe_tup (pa_cons (pe_ix ix_list (pe_lst (pa_cons pe_str (pa_cons pe_str (pa_cons pe_str pa_nil)))) (pe_op op_sub (pv 3) pe_int) (fun _ _ => rfl)) (pa_cons (pe_call G_law_tree hr (by rfl) T.m_law_tree T.F_law_tree.kp T.b_law_tree .nil pass0 (pa_cons (pv 0) (pa_cons (pv 1) (pa_cons (pe_op op_sub (pv 2) pe_int) pa_nil)))) pa_nil)))))
        pss_nil)
      (pss_cons (ps_if (pt_cmpR op_lt (pv 3) pe_int (nomark _))
        (pss_cons (ps_set (i := 4) sc_law_tree.nd rfl (Or.inl rfl) (pe_ix ix_list (pe_lst (pa_cons pe_int (pa_cons pe_int (pa_cons pe_int pa_nil)))) (pe_op op_sub (pv 3) pe_int) (fun _ _ => rfl)))
      (pss_one (ps_ret (pe_tup (pa_cons (pe_ix ix_list (pe_lst (pa_cons pe_str (pa_cons pe_str (pa_cons pe_str pa_nil)))) (pe_op op_sub (pv 3) pe_int) (fun _ _ => rfl)) (pa_cons (pe_op op_add pe_int (pe_call G_law_take hr (by rfl) T.m_law_take T.F_law_take.kp T.b_law_take .nil pass0 (pa_cons (pv 0) (pa_cons (pv 4) pa_nil)))) (pa_cons (pe_call G_law_tree hr (by rfl) T.m_law_tree T.F_law_tree.kp T.b_law_tree .nil pass0 (pa_cons (pv 0) (pa_cons (pv 1) (pa_cons (pe_op op_sub (pv 2) pe_int) pa_nil)))) pa_nil)))))))
        pss_nil)
      (pss_cons (ps_if (pt_cmpR op_eq (pv 3) pe_int (nomark _))
        (pss_cons (ps_set (i := 4) sc_law_tree.nd rfl (Or.inl rfl) (pe_op op_add pe_int (pe_call G_law_take hr (by rfl) T.m_law_take T.F_law_take.kp T.b_law_take .nil pass0 (pa_cons (pv 0) (pa_cons pe_int pa_nil)))))
      (pss_one (ps_ret (pe_tup (pa_cons pe_str (pa_cons (pv 4) (pa_cons (pe_call G_law_take hr (by rfl) T.m_law_take T.F_law_take.kp T.b_law_take .nil pass0 (pa_cons (pv 0) (pa_cons (pv 4) pa_nil))) (pa_cons (pe_call G_law_tree hr (by rfl) T.m_law_tree T.F_law_tree.kp T.b_law_tree .nil pass0 (pa_cons (pv 0) (pa_cons (pv 1) (pa_cons (pe_op op_sub (pv 2) pe_int) pa_nil)))) pa_nil))))))))
        pss_nil)
      (pss_cons (ps_if (PW.pt (pw_and (pt_cmpR op_lt (pv 3) pe_int (nomark _)) (pw_and1 (pt_cmpR op_gt (pv 2) pe_int (nomark _)))))
        (pss_cons (ps_setLc (i := 5) (own := [("k", 8)]) (g := gName 8) (by rfl) sc_law_tree.nd rfl rfl (sw_true rfl rfl rfl (by decide +kernel)) (pi_range1 (by rfl) T.z_range (pa_cons pe_int pa_nil)) (blkOk_by (own := [("k", 8)]) (N := ["state", "names", "room", "pick", "many", "kids", "first", "word", "k"]) (sc := defScope s_law_tree) (by decide +kernel)) (fun _ _ _ _ _ => (pg_name (i := 8) sc_law_tree.nd rfl (Or.inl rfl))) (fun _ _ _ _ _ => pts_nil) (fun _ _ _ _ _ => (pe_call G_law_tree hr (by rfl) T.m_law_tree T.F_law_tree.kp T.b_law_tree .nil pass0 (pa_cons (pv 0) (pa_cons (pv 1) (pa_cons (pe_op op_fdiv (pe_op op_sub (pv 2) pe_int) pe_int) pa_nil))))))
      (pss_one (ps_ret (pe_tup (pa_cons pe_str (pa_cons (pe_ix ix_list (pv 5) pe_int (fun _ _ => rfl)) (pa_cons (pe_ix ix_list (pv 5) pe_int (fun _ _ => rfl)) (pa_cons (pe_ix ix_list (pv 5) pe_int (fun _ _ => rfl)) pa_nil))))))))
        pss_nil)
      (pss_cons (ps_if (pt_cmpR op_lt (pv 2) pe_int (nomark _))
        (pss_one (ps_ret (pe_tup (pa_cons pe_str (pa_cons (pe_call G_law_leaf hr (by rfl) T.m_law_leaf T.F_law_leaf.kp T.b_law_leaf .nil pass0 (pa_cons (pv 0) (pa_cons (pv 1) pa_nil))) pa_nil)))))
        pss_nil)
      (pss_cons (ps_set (i := 6) sc_law_tree.nd rfl (Or.inl rfl) (pe_op op_add pe_int (pe_call G_law_take hr (by rfl) T.m_law_take T.F_law_take.kp T.b_law_take .nil pass0 (pa_cons (pv 0) (pa_cons (pe_op op_sub (pv 2) pe_int) pa_nil)))))
      (pss_cons (ps_set (i := 7) sc_law_tree.nd rfl (Or.inl rfl) (pe_ix ix_list (pe_lst (pa_cons pe_str (pa_cons pe_str (pa_cons pe_str (pa_cons pe_str (pa_cons pe_str (pa_cons pe_str (pa_cons pe_str (pa_cons pe_str pa_nil))))))))) (pe_op op_mod (pe_callTy call_int1 (by rfl) T.z_int (by decide +kernel) (pa_cons (pv 3) pa_nil)) pe_int) (fun _ _ => rfl)))
      (pss_one (ps_ret (pe_tup (pa_cons (pv 7) (pa_cons (pe_call G_law_tree hr (by rfl) T.m_law_tree T.F_law_tree.kp T.b_law_tree .nil pass0 (pa_cons (pv 0) (pa_cons (pv 1) (pa_cons (pv 6) pa_nil)))) (pa_cons (pe_call G_law_tree hr (by rfl) T.m_law_tree T.F_law_tree.kp T.b_law_tree .nil pass0 (pa_cons (pv 0) (pa_cons (pv 1) (pa_cons (pe_op op_sub (pe_op op_sub (pv 2) pe_int) (pv 6)) pa_nil)))) pa_nil))))))))))))))), ?_⟩
  (repeat (first
      | refine ⟨_, rfl, ?_⟩
      | refine ⟨_, _, rfl, rfl, ?_⟩
      | refine Or.inl ⟨_, rfl, ?_⟩
      | refine Or.inr ⟨_, rfl, ?_⟩
      | refine ⟨Or.inl ⟨by decide, by decide⟩, ?_⟩
      | refine ⟨Or.inr ⟨by decide, by decide⟩, ?_⟩
      | refine ⟨⟨by decide, by decide⟩, ?_⟩
      | refine ⟨⟨by decide, by decide, by decide⟩, ?_⟩
      | refine ⟨by decide, ?_⟩
      | refine ⟨(by show (0 : Int) < _; decide), ?_⟩
      | refine ⟨rfl, ?_⟩
      | refine ⟨⟨_, rfl⟩, ?_⟩
      | refine ⟨_, rfl, rfl, trivial, ?_⟩
      | refine ⟨_, _, rfl, ?_⟩))
  refine ⟨st, n, 16, rfl, hs, by omega, by decide, fun v H1 v0 v1 x1 s1 => ?_⟩
  have hN1 := x1.seqT hN
  (repeat (first
      | refine ⟨_, rfl, ?_⟩
      | refine ⟨_, _, rfl, rfl, ?_⟩
      | refine Or.inl ⟨_, rfl, ?_⟩
      | refine Or.inr ⟨_, rfl, ?_⟩
      | refine ⟨Or.inl ⟨by decide, by decide⟩, ?_⟩
      | refine ⟨Or.inr ⟨by decide, by decide⟩, ?_⟩
      | refine ⟨⟨by decide, by decide⟩, ?_⟩
      | refine ⟨⟨by decide, by decide, by decide⟩, ?_⟩
      | refine ⟨by decide, ?_⟩
      | refine ⟨(by show (0 : Int) < _; decide), ?_⟩
      | refine ⟨rfl, ?_⟩
      | refine ⟨⟨_, rfl⟩, ?_⟩
      | refine ⟨_, rfl, rfl, trivial, ?_⟩
      | refine ⟨_, _, rfl, ?_⟩))
  refine ite_dec (fun c => ?_) (fun c => ?_)
  · refine ifT ?_
    (repeat (first
      | refine ⟨_, rfl, ?_⟩
      | refine ⟨_, _, rfl, rfl, ?_⟩
      | refine Or.inl ⟨_, rfl, ?_⟩
      | refine Or.inr ⟨_, rfl, ?_⟩
      | refine ⟨Or.inl ⟨by decide, by decide⟩, ?_⟩
      | refine ⟨Or.inr ⟨by decide, by decide⟩, ?_⟩
      | refine ⟨⟨by decide, by decide⟩, ?_⟩
      | refine ⟨⟨by decide, by decide, by decide⟩, ?_⟩
      | refine ⟨by decide, ?_⟩
      | refine ⟨(by show (0 : Int) < _; decide), ?_⟩
      | refine ⟨rfl, ?_⟩
      | refine ⟨⟨_, rfl⟩, ?_⟩
      | refine ⟨_, rfl, rfl, trivial, ?_⟩
      | refine ⟨_, _, rfl, ?_⟩))
    refine ⟨st, nm, n + 1, ns, rfl, s1, by omega, hN1, hno, fun p t a n' H2 x2 s2 hn2 hd hp hr' ha => ?_⟩
    exact q p t a n' H2 (x1.trans x2) s2 (by omega) hd hp hr' (by omega)
  (repeat (first
      | refine ⟨_, rfl, ?_⟩
      | refine ⟨_, _, rfl, rfl, ?_⟩
      | refine Or.inl ⟨_, rfl, ?_⟩
      | refine Or.inr ⟨_, rfl, ?_⟩
      | refine ⟨Or.inl ⟨by decide, by decide⟩, ?_⟩
      | refine ⟨Or.inr ⟨by decide, by decide⟩, ?_⟩
      | refine ⟨⟨by decide, by decide⟩, ?_⟩
      | refine ⟨⟨by decide, by decide, by decide⟩, ?_⟩
      | refine ⟨by decide, ?_⟩
      | refine ⟨(by show (0 : Int) < _; decide), ?_⟩
      | refine ⟨rfl, ?_⟩
      | refine ⟨⟨_, rfl⟩, ?_⟩
      | refine ⟨_, rfl, rfl, trivial, ?_⟩
      | refine ⟨_, _, rfl, ?_⟩))
  refine ite_dec (fun c0 => ?_) (fun c0 => ?_)
  ·
    (repeat (first
      | refine ⟨_, rfl, ?_⟩
      | refine ⟨_, _, rfl, rfl, ?_⟩
      | refine Or.inl ⟨_, rfl, ?_⟩
      | refine Or.inr ⟨_, rfl, ?_⟩
      | refine ⟨Or.inl ⟨by decide, by decide⟩, ?_⟩
      | refine ⟨Or.inr ⟨by decide, by decide⟩, ?_⟩
      | refine ⟨⟨by decide, by decide⟩, ?_⟩
      | refine ⟨⟨by decide, by decide, by decide⟩, ?_⟩
      | refine ⟨by decide, ?_⟩
      | refine ⟨(by show (0 : Int) < _; decide), ?_⟩
      | refine ⟨rfl, ?_⟩
      | refine ⟨⟨_, rfl⟩, ?_⟩
      | refine ⟨_, rfl, rfl, trivial, ?_⟩
      | refine ⟨_, _, rfl, ?_⟩))
    refine ⟨st, nm, n + 1, ns, rfl, s1, by omega, hN1, hno, fun p t a n' H2 x2 s2 hn2 hd hp hr' ha => ?_⟩
    exact q p t a n' H2 (x1.trans x2) s2 (by omega) hd hp hr' (by omega)
  have hv0 : v ≠ 0 := fun e => c0 (by rw [e])
  have hr2 : 2 ≤ room := by omega
  have cast1 : (room : Int) - 1 = ((room - 1 : Nat) : Int) := by omega
  have cpf : [V.ref st, V.ref nm, V.int ((room : Int) - 1)] = [V.ref st, V.ref nm, V.int ((room - 1 : Nat) : Int)] := by rw [cast1]
  (repeat (first
      | refine ⟨_, rfl, ?_⟩
      | refine ⟨_, _, rfl, rfl, ?_⟩
      | refine Or.inl ⟨_, rfl, ?_⟩
      | refine Or.inr ⟨_, rfl, ?_⟩
      | refine ⟨Or.inl ⟨by decide, by decide⟩, ?_⟩
      | refine ⟨Or.inr ⟨by decide, by decide⟩, ?_⟩
      | refine ⟨⟨by decide, by decide⟩, ?_⟩
      | refine ⟨⟨by decide, by decide, by decide⟩, ?_⟩
      | refine ⟨by decide, ?_⟩
      | refine ⟨(by show (0 : Int) < _; decide), ?_⟩
      | refine ⟨rfl, ?_⟩
      | refine ⟨⟨_, rfl⟩, ?_⟩
      | refine ⟨_, rfl, rfl, trivial, ?_⟩
      | refine ⟨_, _, rfl, ?_⟩))
  refine ite_dec (fun c4 => ?_) (fun c4 => ?_)
  · obtain ⟨sw, r, hat, hrm, hre⟩ := un_row (v := v) (by omega) c4
    obtain ⟨re1, re2⟩ := row_eta hre
    refine ⟨by show 3 ≤ sizeLine; decide, fun l hl => ?_⟩
    (repeat (first
      | refine ⟨_, rfl, ?_⟩
      | refine ⟨_, _, rfl, rfl, ?_⟩
      | refine Or.inl ⟨_, rfl, ?_⟩
      | refine Or.inr ⟨_, rfl, ?_⟩
      | refine ⟨Or.inl ⟨by decide, by decide⟩, ?_⟩
      | refine ⟨Or.inr ⟨by decide, by decide⟩, ?_⟩
      | refine ⟨⟨by decide, by decide⟩, ?_⟩
      | refine ⟨⟨by decide, by decide, by decide⟩, ?_⟩
      | refine ⟨by decide, ?_⟩
      | refine ⟨(by show (0 : Int) < _; decide), ?_⟩
      | refine ⟨rfl, ?_⟩
      | refine ⟨⟨_, rfl⟩, ?_⟩
      | refine ⟨_, rfl, rfl, trivial, ?_⟩
      | refine ⟨_, _, rfl, ?_⟩))
    refine ⟨l, _, _, _, rfl, rfl, SqL.of upd_same, hat, ?_⟩
    (repeat (first
      | refine ⟨_, rfl, ?_⟩
      | refine ⟨_, _, rfl, rfl, ?_⟩
      | refine Or.inl ⟨_, rfl, ?_⟩
      | refine Or.inr ⟨_, rfl, ?_⟩
      | refine ⟨Or.inl ⟨by decide, by decide⟩, ?_⟩
      | refine ⟨Or.inr ⟨by decide, by decide⟩, ?_⟩
      | refine ⟨⟨by decide, by decide⟩, ?_⟩
      | refine ⟨⟨by decide, by decide, by decide⟩, ?_⟩
      | refine ⟨by decide, ?_⟩
      | refine ⟨(by show (0 : Int) < _; decide), ?_⟩
      | refine ⟨rfl, ?_⟩
      | refine ⟨⟨_, rfl⟩, ?_⟩
      | refine ⟨_, rfl, rfl, trivial, ?_⟩
      | refine ⟨_, _, rfl, ?_⟩))
    refine ⟨j - 1, by omega, st, nm, n + 1, ns, room - 1, cpf, s1.new hl, by omega, My.Same.sqT (same_upd hl) hN1, hno, by omega, by omega, by omega, fun p t a n' H2 x2 s2 hn2 hd hp hr' ha => ?_⟩
    refine ⟨by show 2 ≤ sizeLine; decide, fun p2 hp2 => ?_⟩
    refine q p2 _ _ _ _ (((x1.trans (SX.new hl)).trans x2).trans (SX.new hp2)) (s2.new hp2) ?_ ?_ (pr2 (r := r) (UT_tab0 hrm) re2 hp) (fun x hx => ?_) ?_
    · show n' ≤ n + 6 * (a.length + 1); omega
    · rw [re1]
      exact .tup (SqT.of upd_same) (.cons (.str _) (.cons (Dp.tx (TX.new hp2) hd (ptu hp)) .nil))
    · rcases List.mem_cons.mp hx with rfl | hx
      · exact tabN_tab0 hrm
      · exact hr' x hx
    · show a.length + 1 ≤ room; omega
  (repeat (first
      | refine ⟨_, rfl, ?_⟩
      | refine ⟨_, _, rfl, rfl, ?_⟩
      | refine Or.inl ⟨_, rfl, ?_⟩
      | refine Or.inr ⟨_, rfl, ?_⟩
      | refine ⟨Or.inl ⟨by decide, by decide⟩, ?_⟩
      | refine ⟨Or.inr ⟨by decide, by decide⟩, ?_⟩
      | refine ⟨⟨by decide, by decide⟩, ?_⟩
      | refine ⟨⟨by decide, by decide, by decide⟩, ?_⟩
      | refine ⟨by decide, ?_⟩
      | refine ⟨(by show (0 : Int) < _; decide), ?_⟩
      | refine ⟨rfl, ?_⟩
      | refine ⟨⟨_, rfl⟩, ?_⟩
      | refine ⟨_, rfl, rfl, trivial, ?_⟩
      | refine ⟨_, _, rfl, ?_⟩))
  refine ite_dec (fun c7 => ?_) (fun c7 => ?_)
  · obtain ⟨sw, m, hatm, hm0, hats, hrow⟩ := nu_row (v := v) (by omega) c7
    refine ⟨by show 3 ≤ sizeLine; decide, fun l hl => ?_⟩
    (repeat (first
      | refine ⟨_, rfl, ?_⟩
      | refine ⟨_, _, rfl, rfl, ?_⟩
      | refine Or.inl ⟨_, rfl, ?_⟩
      | refine Or.inr ⟨_, rfl, ?_⟩
      | refine ⟨Or.inl ⟨by decide, by decide⟩, ?_⟩
      | refine ⟨Or.inr ⟨by decide, by decide⟩, ?_⟩
      | refine ⟨⟨by decide, by decide⟩, ?_⟩
      | refine ⟨⟨by decide, by decide, by decide⟩, ?_⟩
      | refine ⟨by decide, ?_⟩
      | refine ⟨(by show (0 : Int) < _; decide), ?_⟩
      | refine ⟨rfl, ?_⟩
      | refine ⟨⟨_, rfl⟩, ?_⟩
      | refine ⟨_, rfl, rfl, trivial, ?_⟩
      | refine ⟨_, _, rfl, ?_⟩))
    refine ⟨l, _, _, _, rfl, rfl, SqL.of upd_same, hatm, ?_⟩
    (repeat (first
      | refine ⟨_, rfl, ?_⟩
      | refine ⟨_, _, rfl, rfl, ?_⟩
      | refine Or.inl ⟨_, rfl, ?_⟩
      | refine Or.inr ⟨_, rfl, ?_⟩
      | refine ⟨Or.inl ⟨by decide, by decide⟩, ?_⟩
      | refine ⟨Or.inr ⟨by decide, by decide⟩, ?_⟩
      | refine ⟨⟨by decide, by decide⟩, ?_⟩
      | refine ⟨⟨by decide, by decide, by decide⟩, ?_⟩
      | refine ⟨by decide, ?_⟩
      | refine ⟨(by show (0 : Int) < _; decide), ?_⟩
      | refine ⟨rfl, ?_⟩
      | refine ⟨⟨_, rfl⟩, ?_⟩
      | refine ⟨_, rfl, rfl, trivial, ?_⟩
      | refine ⟨_, _, rfl, ?_⟩))
    refine fun l2 hl2 => ?_
    (repeat (first
      | refine ⟨_, rfl, ?_⟩
      | refine ⟨_, _, rfl, rfl, ?_⟩
      | refine Or.inl ⟨_, rfl, ?_⟩
      | refine Or.inr ⟨_, rfl, ?_⟩
      | refine ⟨Or.inl ⟨by decide, by decide⟩, ?_⟩
      | refine ⟨Or.inr ⟨by decide, by decide⟩, ?_⟩
      | refine ⟨⟨by decide, by decide⟩, ?_⟩
      | refine ⟨⟨by decide, by decide, by decide⟩, ?_⟩
      | refine ⟨by decide, ?_⟩
      | refine ⟨(by show (0 : Int) < _; decide), ?_⟩
      | refine ⟨rfl, ?_⟩
      | refine ⟨⟨_, rfl⟩, ?_⟩
      | refine ⟨_, rfl, rfl, trivial, ?_⟩
      | refine ⟨_, _, rfl, ?_⟩))
    refine ⟨l2, _, _, _, rfl, rfl, SqL.of upd_same, hats, ?_⟩
    (repeat (first
      | refine ⟨_, rfl, ?_⟩
      | refine ⟨_, _, rfl, rfl, ?_⟩
      | refine Or.inl ⟨_, rfl, ?_⟩
      | refine Or.inr ⟨_, rfl, ?_⟩
      | refine ⟨Or.inl ⟨by decide, by decide⟩, ?_⟩
      | refine ⟨Or.inr ⟨by decide, by decide⟩, ?_⟩
      | refine ⟨⟨by decide, by decide⟩, ?_⟩
      | refine ⟨⟨by decide, by decide, by decide⟩, ?_⟩
      | refine ⟨by decide, ?_⟩
      | refine ⟨(by show (0 : Int) < _; decide), ?_⟩
      | refine ⟨rfl, ?_⟩
      | refine ⟨⟨_, rfl⟩, ?_⟩
      | refine ⟨_, rfl, rfl, trivial, ?_⟩
      | refine ⟨_, _, rfl, ?_⟩))
    refine ⟨st, n + 1, m, rfl, (s1.new hl).new hl2, by omega, hm0, fun t H2 t0 t1 x2 s2 => ?_⟩
    obtain ⟨r, hrm, hre⟩ := hrow t t0 t1
    obtain ⟨re1, re2⟩ := row_eta hre
    (repeat (first
      | refine ⟨_, rfl, ?_⟩
      | refine ⟨_, _, rfl, rfl, ?_⟩
      | refine Or.inl ⟨_, rfl, ?_⟩
      | refine Or.inr ⟨_, rfl, ?_⟩
      | refine ⟨Or.inl ⟨by decide, by decide⟩, ?_⟩
      | refine ⟨Or.inr ⟨by decide, by decide⟩, ?_⟩
      | refine ⟨⟨by decide, by decide⟩, ?_⟩
      | refine ⟨⟨by decide, by decide, by decide⟩, ?_⟩
      | refine ⟨by decide, ?_⟩
      | refine ⟨(by show (0 : Int) < _; decide), ?_⟩
      | refine ⟨rfl, ?_⟩
      | refine ⟨⟨_, rfl⟩, ?_⟩
      | refine ⟨_, rfl, rfl, trivial, ?_⟩
      | refine ⟨_, _, rfl, ?_⟩))
    refine ⟨j - 1, by omega, st, nm, n + 2, ns, room - 1, cpf, s2, by omega, x2.seqT (My.Same.sqT ((same_upd hl).trans (same_upd hl2)) hN1), hno, by omega, by omega, by omega, fun p t' a n' H3 x3 s3 hn2 hd hp hr' ha => ?_⟩
    refine ⟨by show 3 ≤ sizeLine; decide, fun p2 hp2 => ?_⟩
    refine q p2 _ _ _ _ (((((x1.trans (SX.new hl)).trans (SX.new hl2)).trans x2).trans x3).trans (SX.new hp2)) (s3.new hp2) ?_ ?_ (pr2 (r := r) (UT_tab0 hrm) re2 hp) (fun x hx => ?_) ?_
    · show n' ≤ n + 6 * (a.length + 1); omega
    · rw [re1]
      exact .tup (SqT.of upd_same) (.cons (.str _) (.cons (.int _) (.cons (Dp.tx (TX.new hp2) hd (ptu hp)) .nil)))
    · rcases List.mem_cons.mp hx with rfl | hx
      · exact tabN_tab0 hrm
      · exact hr' x hx
    · show a.length + 1 ≤ room; omega
  (repeat (first
      | refine ⟨_, rfl, ?_⟩
      | refine ⟨_, _, rfl, rfl, ?_⟩
      | refine Or.inl ⟨_, rfl, ?_⟩
      | refine Or.inr ⟨_, rfl, ?_⟩
      | refine ⟨Or.inl ⟨by decide, by decide⟩, ?_⟩
      | refine ⟨Or.inr ⟨by decide, by decide⟩, ?_⟩
      | refine ⟨⟨by decide, by decide⟩, ?_⟩
      | refine ⟨⟨by decide, by decide, by decide⟩, ?_⟩
      | refine ⟨by decide, ?_⟩
      | refine ⟨(by show (0 : Int) < _; decide), ?_⟩
      | refine ⟨rfl, ?_⟩
      | refine ⟨⟨_, rfl⟩, ?_⟩
      | refine ⟨_, rfl, rfl, trivial, ?_⟩
      | refine ⟨_, _, rfl, ?_⟩))
  refine ite_dec (fun c8 => ?_) (fun c8 => ?_)
  · (repeat (first
      | refine ⟨_, rfl, ?_⟩
      | refine ⟨_, _, rfl, rfl, ?_⟩
      | refine Or.inl ⟨_, rfl, ?_⟩
      | refine Or.inr ⟨_, rfl, ?_⟩
      | refine ⟨Or.inl ⟨by decide, by decide⟩, ?_⟩
      | refine ⟨Or.inr ⟨by decide, by decide⟩, ?_⟩
      | refine ⟨⟨by decide, by decide⟩, ?_⟩
      | refine ⟨⟨by decide, by decide, by decide⟩, ?_⟩
      | refine ⟨by decide, ?_⟩
      | refine ⟨(by show (0 : Int) < _; decide), ?_⟩
      | refine ⟨rfl, ?_⟩
      | refine ⟨⟨_, rfl⟩, ?_⟩
      | refine ⟨_, rfl, rfl, trivial, ?_⟩
      | refine ⟨_, _, rfl, ?_⟩))
    refine ⟨st, n + 1, 2, rfl, s1, by omega, by decide, fun u H2 u0 u1 x2 s2 => ?_⟩
    (repeat (first
      | refine ⟨_, rfl, ?_⟩
      | refine ⟨_, _, rfl, rfl, ?_⟩
      | refine Or.inl ⟨_, rfl, ?_⟩
      | refine Or.inr ⟨_, rfl, ?_⟩
      | refine ⟨Or.inl ⟨by decide, by decide⟩, ?_⟩
      | refine ⟨Or.inr ⟨by decide, by decide⟩, ?_⟩
      | refine ⟨⟨by decide, by decide⟩, ?_⟩
      | refine ⟨⟨by decide, by decide, by decide⟩, ?_⟩
      | refine ⟨by decide, ?_⟩
      | refine ⟨(by show (0 : Int) < _; decide), ?_⟩
      | refine ⟨rfl, ?_⟩
      | refine ⟨⟨_, rfl⟩, ?_⟩
      | refine ⟨_, rfl, rfl, trivial, ?_⟩
      | refine ⟨_, _, rfl, ?_⟩))
    refine ⟨st, n + 2, 2 + u, rfl, s2, by omega, by omega, fun t H3 t0 t1 x3 s3 => ?_⟩
    obtain ⟨r, hrm, hre⟩ := ci_row u0 u1 t0 t1
    obtain ⟨re1, re2⟩ := row_eta hre
    (repeat (first
      | refine ⟨_, rfl, ?_⟩
      | refine ⟨_, _, rfl, rfl, ?_⟩
      | refine Or.inl ⟨_, rfl, ?_⟩
      | refine Or.inr ⟨_, rfl, ?_⟩
      | refine ⟨Or.inl ⟨by decide, by decide⟩, ?_⟩
      | refine ⟨Or.inr ⟨by decide, by decide⟩, ?_⟩
      | refine ⟨⟨by decide, by decide⟩, ?_⟩
      | refine ⟨⟨by decide, by decide, by decide⟩, ?_⟩
      | refine ⟨by decide, ?_⟩
      | refine ⟨(by show (0 : Int) < _; decide), ?_⟩
      | refine ⟨rfl, ?_⟩
      | refine ⟨⟨_, rfl⟩, ?_⟩
      | refine ⟨_, rfl, rfl, trivial, ?_⟩
      | refine ⟨_, _, rfl, ?_⟩))
    refine ⟨j - 1, by omega, st, nm, n + 3, ns, room - 1, cpf, s3, by omega, x3.seqT (x2.seqT hN1), hno, by omega, by omega, by omega, fun p t' a n' H4 x4 s4 hn2 hd hp hr' ha => ?_⟩
    refine ⟨by show 4 ≤ sizeLine; decide, fun p2 hp2 => ?_⟩
    refine q p2 _ _ _ _ ((((x1.trans x2).trans x3).trans x4).trans (SX.new hp2)) (s4.new hp2) ?_ ?_ (pr2 (r := r) (UT_tab0 hrm) re2 hp) (fun x hx => ?_) ?_
    · show n' ≤ n + 6 * (a.length + 1); omega
    · rw [re1]
      exact .tup (SqT.of upd_same) (.cons (.str _) (.cons (.int _) (.cons (.int _) (.cons (Dp.tx (TX.new hp2) hd (ptu hp)) .nil))))
    · rcases List.mem_cons.mp hx with rfl | hx
      · exact tabN_tab0 hrm
      · exact hr' x hx
    · show a.length + 1 ≤ room; omega
  have hv8 : 8 ≤ v := by
    have : v ≠ 7 := fun e => c8 (by rw [e])
    omega
  (repeat (first
      | refine ⟨_, rfl, ?_⟩
      | refine ⟨_, _, rfl, rfl, ?_⟩
      | refine Or.inl ⟨_, rfl, ?_⟩
      | refine Or.inr ⟨_, rfl, ?_⟩
      | refine ⟨Or.inl ⟨by decide, by decide⟩, ?_⟩
      | refine ⟨Or.inr ⟨by decide, by decide⟩, ?_⟩
      | refine ⟨⟨by decide, by decide⟩, ?_⟩
      | refine ⟨⟨by decide, by decide, by decide⟩, ?_⟩
      | refine ⟨by decide, ?_⟩
      | refine ⟨(by show (0 : Int) < _; decide), ?_⟩
      | refine ⟨rfl, ?_⟩
      | refine ⟨⟨_, rfl⟩, ?_⟩
      | refine ⟨_, rfl, rfl, trivial, ?_⟩
      | refine ⟨_, _, rfl, ?_⟩))
  refine ite_dec (fun c10 => ?_) (fun c10 => ?_)
  · (repeat (first
      | refine ⟨_, rfl, ?_⟩
      | refine ⟨_, _, rfl, rfl, ?_⟩
      | refine Or.inl ⟨_, rfl, ?_⟩
      | refine Or.inr ⟨_, rfl, ?_⟩
      | refine ⟨Or.inl ⟨by decide, by decide⟩, ?_⟩
      | refine ⟨Or.inr ⟨by decide, by decide⟩, ?_⟩
      | refine ⟨⟨by decide, by decide⟩, ?_⟩
      | refine ⟨⟨by decide, by decide, by decide⟩, ?_⟩
      | refine ⟨by decide, ?_⟩
      | refine ⟨(by show (0 : Int) < _; decide), ?_⟩
      | refine ⟨rfl, ?_⟩
      | refine ⟨⟨_, rfl⟩, ?_⟩
      | refine ⟨_, rfl, rfl, trivial, ?_⟩
      | refine ⟨_, _, rfl, ?_⟩))
    refine ite_dec (fun cr => ?_) (fun cr => ?_)
    · have castd : ((room : Int) - 1) / 3 = (((room - 1) / 3 : Nat) : Int) := by omega
      have cpd : [V.ref st, V.ref nm, V.int (((room : Int) - 1) / 3)] = [V.ref st, V.ref nm, V.int (((room - 1) / 3 : Nat) : Int)] := by rw [castd]
      (repeat (first
      | refine ⟨_, rfl, ?_⟩
      | refine ⟨_, _, rfl, rfl, ?_⟩
      | refine Or.inl ⟨_, rfl, ?_⟩
      | refine Or.inr ⟨_, rfl, ?_⟩
      | refine ⟨Or.inl ⟨by decide, by decide⟩, ?_⟩
      | refine ⟨Or.inr ⟨by decide, by decide⟩, ?_⟩
      | refine ⟨⟨by decide, by decide⟩, ?_⟩
      | refine ⟨⟨by decide, by decide, by decide⟩, ?_⟩
      | refine ⟨by decide, ?_⟩
      | refine ⟨(by show (0 : Int) < _; decide), ?_⟩
      | refine ⟨rfl, ?_⟩
      | refine ⟨⟨_, rfl⟩, ?_⟩
      | refine ⟨_, rfl, rfl, trivial, ?_⟩
      | refine ⟨_, _, rfl, ?_⟩))
      refine fun D hD => ?_
      have hDst : D ≠ st := fun e => by
        obtain ⟨xs, hx⟩ := s1.isL
        rw [e, hx] at hD
        cases hD
      refine lc_range (lo := 0) (n := 3) (fun i H' => ∃ (vs' : List V) (ts : List PyData) (a : List Row) (n' : Nat), H' D = some (.lst vs') ∧ DpAll K H' vs' ts ∧ PrL UT ts a ∧ (∀ r ∈ a, r ∈ tabN ns) ∧ SX st H1 H' ∧ St H' st n' ∧ n' ≤ n + 1 + 6 * a.length ∧ a.length ≤ i * ((room - 1) / 3) ∧ vs'.length = i) ?_ ?_ ?_
      · exact ⟨[], [], [], n + 1, upd_same, .nil, .nil, (fun _ h => by cases h), SX.new hD, s1.new hD, by show n + 1 ≤ n + 1 + 6 * 0; omega, by show 0 ≤ _; omega, rfl⟩
      · rintro i H' hi ⟨vs', ts, a, n', hDl, hdd, hpl, hrl, sx, hs', hn', hal, hvl⟩
        refine ⟨rfl, ?_⟩
        have hmul : i * ((room - 1) / 3) ≤ 2 * ((room - 1) / 3) := Nat.mul_le_mul_right _ (by omega)
        (repeat (first
      | refine ⟨_, rfl, ?_⟩
      | refine ⟨_, _, rfl, rfl, ?_⟩
      | refine Or.inl ⟨_, rfl, ?_⟩
      | refine Or.inr ⟨_, rfl, ?_⟩
      | refine ⟨Or.inl ⟨by decide, by decide⟩, ?_⟩
      | refine ⟨Or.inr ⟨by decide, by decide⟩, ?_⟩
      | refine ⟨⟨by decide, by decide⟩, ?_⟩
      | refine ⟨⟨by decide, by decide, by decide⟩, ?_⟩
      | refine ⟨by decide, ?_⟩
      | refine ⟨(by show (0 : Int) < _; decide), ?_⟩
      | refine ⟨rfl, ?_⟩
      | refine ⟨⟨_, rfl⟩, ?_⟩
      | refine ⟨_, rfl, rfl, trivial, ?_⟩
      | refine ⟨_, _, rfl, ?_⟩))
        refine ⟨j - 1, by omega, st, nm, n', ns, (room - 1) / 3, cpd, hs', by omega, sx.seqT hN1, hno, by omega, by omega, by omega, fun p t a2 n2 H2 x2 s2 hn2 hd hp hr' ha => ?_⟩
        have hD2 := x2.lst hDst hDl
        refine ⟨_, hD2, smallL (by omega), vs' ++ [.ref p], ts ++ [t], a ++ a2, n2, upd_same, ?_, ?_, fun r hr => ?_, ?_, ?_, ?_, ?_, ?_⟩
        · exact DpAll.app (DpAll.tx ((TX.sx x2).trans (TX.lst hD2)) hdd (prL_tr hpl)) (.cons (Dp.tx (TX.lst hD2) hd (ptu hp)) .nil)
        · have h1 : PrL UT [t] a2 := by
            have := PrL.cons hp .nil
            rwa [List.append_nil] at this
          exact prL_app hpl h1
        · rcases List.mem_append.mp hr with h | h
          · exact hrl r h
          · exact hr' r h
        · exact SX.new2 hD (sx.trans x2)
        · exact St.upd s1 hD (sx.trans x2) s2
        · rw [List.length_append]; omega
        · rw [List.length_append, Nat.add_mul]; omega
        · rw [List.length_append, hvl]; rfl
      rintro H' ⟨vs', ts, a, n', hDl, hdd, hpl, hrl, sx, hs', hn', hal, hvl⟩
      have lts := DpAll.len hdd
      match vs', ts, hvl, lts, hdd, hpl, hDl with
      | [y0, y1, y2], [t0, t1, t2], _, _, hdd, hpl, hDl =>
      (repeat (first
      | refine ⟨_, rfl, ?_⟩
      | refine ⟨_, _, rfl, rfl, ?_⟩
      | refine Or.inl ⟨_, rfl, ?_⟩
      | refine Or.inr ⟨_, rfl, ?_⟩
      | refine ⟨Or.inl ⟨by decide, by decide⟩, ?_⟩
      | refine ⟨Or.inr ⟨by decide, by decide⟩, ?_⟩
      | refine ⟨⟨by decide, by decide⟩, ?_⟩
      | refine ⟨⟨by decide, by decide, by decide⟩, ?_⟩
      | refine ⟨by decide, ?_⟩
      | refine ⟨(by show (0 : Int) < _; decide), ?_⟩
      | refine ⟨rfl, ?_⟩
      | refine ⟨⟨_, rfl⟩, ?_⟩
      | refine ⟨_, rfl, rfl, trivial, ?_⟩
      | refine ⟨_, _, rfl, ?_⟩))
      refine ⟨D, _, 0, _, rfl, rfl, SqL.of hDl, atI_nat (j := 0) rfl, ?_⟩
      (repeat (first
      | refine ⟨_, rfl, ?_⟩
      | refine ⟨_, _, rfl, rfl, ?_⟩
      | refine Or.inl ⟨_, rfl, ?_⟩
      | refine Or.inr ⟨_, rfl, ?_⟩
      | refine ⟨Or.inl ⟨by decide, by decide⟩, ?_⟩
      | refine ⟨Or.inr ⟨by decide, by decide⟩, ?_⟩
      | refine ⟨⟨by decide, by decide⟩, ?_⟩
      | refine ⟨⟨by decide, by decide, by decide⟩, ?_⟩
      | refine ⟨by decide, ?_⟩
      | refine ⟨(by show (0 : Int) < _; decide), ?_⟩
      | refine ⟨rfl, ?_⟩
      | refine ⟨⟨_, rfl⟩, ?_⟩
      | refine ⟨_, rfl, rfl, trivial, ?_⟩
      | refine ⟨_, _, rfl, ?_⟩))
      refine ⟨D, _, 1, _, rfl, rfl, SqL.of hDl, atI_nat (j := 1) rfl, ?_⟩
      (repeat (first
      | refine ⟨_, rfl, ?_⟩
      | refine ⟨_, _, rfl, rfl, ?_⟩
      | refine Or.inl ⟨_, rfl, ?_⟩
      | refine Or.inr ⟨_, rfl, ?_⟩
      | refine ⟨Or.inl ⟨by decide, by decide⟩, ?_⟩
      | refine ⟨Or.inr ⟨by decide, by decide⟩, ?_⟩
      | refine ⟨⟨by decide, by decide⟩, ?_⟩
      | refine ⟨⟨by decide, by decide, by decide⟩, ?_⟩
      | refine ⟨by decide, ?_⟩
      | refine ⟨(by show (0 : Int) < _; decide), ?_⟩
      | refine ⟨rfl, ?_⟩
      | refine ⟨⟨_, rfl⟩, ?_⟩
      | refine ⟨_, rfl, rfl, trivial, ?_⟩
      | refine ⟨_, _, rfl, ?_⟩))
      refine ⟨D, _, 2, _, rfl, rfl, SqL.of hDl, atI_nat (j := 2) rfl, ?_⟩
      refine ⟨by show 4 ≤ sizeLine; decide, fun p2 hp2 => ?_⟩
      refine q p2 _ _ _ _ ((x1.trans sx).trans (SX.new hp2)) (hs'.new hp2) ?_ (.tup (SqT.of upd_same) (.cons (.str _) (DpAll.tx (TX.new hp2) hdd (prL_tr hpl)))) (Pr.mk (r := ("if(", [sd "if"], 3)) (UT_tab0 (in0 (i := 4))) rfl hpl) (fun x hx => ?_) ?_
      · show n' ≤ n + 6 * (a.length + 1); omega
      · rcases List.mem_cons.mp hx with rfl | hx
        · exact tabN_tab0 (in0 (i := 4))
        · exact hrl x hx
      · show a.length + 1 ≤ room; omega
    ·
      (repeat (first
      | refine ⟨_, rfl, ?_⟩
      | refine ⟨_, _, rfl, rfl, ?_⟩
      | refine Or.inl ⟨_, rfl, ?_⟩
      | refine Or.inr ⟨_, rfl, ?_⟩
      | refine ⟨Or.inl ⟨by decide, by decide⟩, ?_⟩
      | refine ⟨Or.inr ⟨by decide, by decide⟩, ?_⟩
      | refine ⟨⟨by decide, by decide⟩, ?_⟩
      | refine ⟨⟨by decide, by decide, by decide⟩, ?_⟩
      | refine ⟨by decide, ?_⟩
      | refine ⟨(by show (0 : Int) < _; decide), ?_⟩
      | refine ⟨rfl, ?_⟩
      | refine ⟨⟨_, rfl⟩, ?_⟩
      | refine ⟨_, rfl, rfl, trivial, ?_⟩
      | refine ⟨_, _, rfl, ?_⟩))
      refine ite_dec (fun c3 => ?_) (fun c3 => ?_)
      · (repeat (first
      | refine ⟨_, rfl, ?_⟩
      | refine ⟨_, _, rfl, rfl, ?_⟩
      | refine Or.inl ⟨_, rfl, ?_⟩
      | refine Or.inr ⟨_, rfl, ?_⟩
      | refine ⟨Or.inl ⟨by decide, by decide⟩, ?_⟩
      | refine ⟨Or.inr ⟨by decide, by decide⟩, ?_⟩
      | refine ⟨⟨by decide, by decide⟩, ?_⟩
      | refine ⟨⟨by decide, by decide, by decide⟩, ?_⟩
      | refine ⟨by decide, ?_⟩
      | refine ⟨(by show (0 : Int) < _; decide), ?_⟩
      | refine ⟨rfl, ?_⟩
      | refine ⟨⟨_, rfl⟩, ?_⟩
      | refine ⟨_, rfl, rfl, trivial, ?_⟩
      | refine ⟨_, _, rfl, ?_⟩))
        refine ⟨st, nm, n + 1, ns, rfl, s1, by omega, hN1, hno, fun p t a n' H2 x2 s2 hn2 hd hp hr' ha => ?_⟩
        refine ⟨by show 2 ≤ sizeLine; decide, fun p2 hp2 => ?_⟩
        refine q p2 _ _ _ _ ((x1.trans x2).trans (SX.new hp2)) (s2.new hp2) ?_ (.tup (SqT.of upd_same) (.cons (.str _) (.cons (Dp.tx (TX.new hp2) hd (ptu hp)) .nil))) (pr2 (r := ("last(", [sd "last"], 1)) (UT_tab0 (in0 (i := 5))) rfl hp) (fun x hx => ?_) ?_
        · show n' ≤ n + 6 * (a.length + 1); omega
        · rcases List.mem_cons.mp hx with rfl | hx
          · exact tabN_tab0 (in0 (i := 5))
          · exact hr' x hx
        · show a.length + 1 ≤ room; omega
      · (repeat (first
      | refine ⟨_, rfl, ?_⟩
      | refine ⟨_, _, rfl, rfl, ?_⟩
      | refine Or.inl ⟨_, rfl, ?_⟩
      | refine Or.inr ⟨_, rfl, ?_⟩
      | refine ⟨Or.inl ⟨by decide, by decide⟩, ?_⟩
      | refine ⟨Or.inr ⟨by decide, by decide⟩, ?_⟩
      | refine ⟨⟨by decide, by decide⟩, ?_⟩
      | refine ⟨⟨by decide, by decide, by decide⟩, ?_⟩
      | refine ⟨by decide, ?_⟩
      | refine ⟨(by show (0 : Int) < _; decide), ?_⟩
      | refine ⟨rfl, ?_⟩
      | refine ⟨⟨_, rfl⟩, ?_⟩
      | refine ⟨_, rfl, rfl, trivial, ?_⟩
      | refine ⟨_, _, rfl, ?_⟩))
        refine ⟨st, n + 1, (room : Int) - 2, rfl, s1, by omega, by omega, fun f H2 f0 f1 x2 s2 => ?_⟩
        obtain ⟨sw, r, hat, hrm, hre⟩ := bi_row hv8 v1
        obtain ⟨re1, re2⟩ := row_eta hre
        obtain ⟨fn, hfn⟩ : ∃ fn : Nat, 1 + f = (fn : Int) := ⟨(1 + f).toNat, by omega⟩
        (repeat (first
      | refine ⟨_, rfl, ?_⟩
      | refine ⟨_, _, rfl, rfl, ?_⟩
      | refine Or.inl ⟨_, rfl, ?_⟩
      | refine Or.inr ⟨_, rfl, ?_⟩
      | refine ⟨Or.inl ⟨by decide, by decide⟩, ?_⟩
      | refine ⟨Or.inr ⟨by decide, by decide⟩, ?_⟩
      | refine ⟨⟨by decide, by decide⟩, ?_⟩
      | refine ⟨⟨by decide, by decide, by decide⟩, ?_⟩
      | refine ⟨by decide, ?_⟩
      | refine ⟨(by show (0 : Int) < _; decide), ?_⟩
      | refine ⟨rfl, ?_⟩
      | refine ⟨⟨_, rfl⟩, ?_⟩
      | refine ⟨_, rfl, rfl, trivial, ?_⟩
      | refine ⟨_, _, rfl, ?_⟩))
        refine fun l hl => ?_
        (repeat (first
      | refine ⟨_, rfl, ?_⟩
      | refine ⟨_, _, rfl, rfl, ?_⟩
      | refine Or.inl ⟨_, rfl, ?_⟩
      | refine Or.inr ⟨_, rfl, ?_⟩
      | refine ⟨Or.inl ⟨by decide, by decide⟩, ?_⟩
      | refine ⟨Or.inr ⟨by decide, by decide⟩, ?_⟩
      | refine ⟨⟨by decide, by decide⟩, ?_⟩
      | refine ⟨⟨by decide, by decide, by decide⟩, ?_⟩
      | refine ⟨by decide, ?_⟩
      | refine ⟨(by show (0 : Int) < _; decide), ?_⟩
      | refine ⟨rfl, ?_⟩
      | refine ⟨⟨_, rfl⟩, ?_⟩
      | refine ⟨_, rfl, rfl, trivial, ?_⟩
      | refine ⟨_, _, rfl, ?_⟩))
        refine ⟨l, words8, _, _, rfl, rfl, SqL.of upd_same, hat, ?_⟩
        (repeat (first
      | refine ⟨_, rfl, ?_⟩
      | refine ⟨_, _, rfl, rfl, ?_⟩
      | refine Or.inl ⟨_, rfl, ?_⟩
      | refine Or.inr ⟨_, rfl, ?_⟩
      | refine ⟨Or.inl ⟨by decide, by decide⟩, ?_⟩
      | refine ⟨Or.inr ⟨by decide, by decide⟩, ?_⟩
      | refine ⟨⟨by decide, by decide⟩, ?_⟩
      | refine ⟨⟨by decide, by decide, by decide⟩, ?_⟩
      | refine ⟨by decide, ?_⟩
      | refine ⟨(by show (0 : Int) < _; decide), ?_⟩
      | refine ⟨rfl, ?_⟩
      | refine ⟨⟨_, rfl⟩, ?_⟩
      | refine ⟨_, rfl, rfl, trivial, ?_⟩
      | refine ⟨_, _, rfl, ?_⟩))
        refine ⟨j - 1, by omega, st, nm, n + 2, ns, fn, by rw [← hfn]; rfl, s2.new hl, by omega, (x2.trans (SX.new hl)).seqT hN1, hno, by omega, by omega, by omega, fun p t a n' H3 x3 s3 hn2 hd hp hr' ha => ?_⟩
        (repeat (first
      | refine ⟨_, rfl, ?_⟩
      | refine ⟨_, _, rfl, rfl, ?_⟩
      | refine Or.inl ⟨_, rfl, ?_⟩
      | refine Or.inr ⟨_, rfl, ?_⟩
      | refine ⟨Or.inl ⟨by decide, by decide⟩, ?_⟩
      | refine ⟨Or.inr ⟨by decide, by decide⟩, ?_⟩
      | refine ⟨⟨by decide, by decide⟩, ?_⟩
      | refine ⟨⟨by decide, by decide, by decide⟩, ?_⟩
      | refine ⟨by decide, ?_⟩
      | refine ⟨(by show (0 : Int) < _; decide), ?_⟩
      | refine ⟨rfl, ?_⟩
      | refine ⟨⟨_, rfl⟩, ?_⟩
      | refine ⟨_, rfl, rfl, trivial, ?_⟩
      | refine ⟨_, _, rfl, ?_⟩))
        refine ⟨j - 1, by omega, st, nm, n', ns, room - 1 - fn, by rw [show (((room - 1 - fn : Nat)) : Int) = (room : Int) - 1 - (1 + f) by omega]; rfl, s3, by omega, x3.seqT ((x2.trans (SX.new hl)).seqT hN1), hno, by omega, by omega, by omega, fun p' t' a' n'' H4 x4 s4 hn3 hd' hp' hr'' ha' => ?_⟩
        refine ⟨by show 3 ≤ sizeLine; decide, fun p2 hp2 => ?_⟩
        refine q p2 _ _ _ _ (((((x1.trans x2).trans (SX.new hl)).trans x3).trans x4).trans (SX.new hp2)) (s4.new hp2) ?_ ?_ (pr3 (r := r) (UT_tab0 hrm) re2 hp hp') (fun x hx => ?_) ?_
        · show n'' ≤ n + 6 * ((a ++ a').length + 1)
          rw [List.length_append]
          omega
        · rw [re1]
          exact .tup (SqT.of upd_same) (.cons (.str _) (.cons (Dp.tx ((TX.sx x4).trans (TX.new hp2)) hd (ptu hp)) (.cons (Dp.tx (TX.new hp2) hd' (ptu hp')) .nil)))
        · rcases List.mem_cons.mp hx with rfl | hx
          · exact tabN_tab0 hrm
          · rcases List.mem_append.mp hx with hx | hx
            · exact hr' x hx
            · exact hr'' x hx
        · show (a ++ a').length + 1 ≤ room
          rw [List.length_append]
          omega
  ·
    (repeat (first
      | refine ⟨_, rfl, ?_⟩
      | refine ⟨_, _, rfl, rfl, ?_⟩
      | refine Or.inl ⟨_, rfl, ?_⟩
      | refine Or.inr ⟨_, rfl, ?_⟩
      | refine ⟨Or.inl ⟨by decide, by decide⟩, ?_⟩
      | refine ⟨Or.inr ⟨by decide, by decide⟩, ?_⟩
      | refine ⟨⟨by decide, by decide⟩, ?_⟩
      | refine ⟨⟨by decide, by decide, by decide⟩, ?_⟩
      | refine ⟨by decide, ?_⟩
      | refine ⟨(by show (0 : Int) < _; decide), ?_⟩
      | refine ⟨rfl, ?_⟩
      | refine ⟨⟨_, rfl⟩, ?_⟩
      | refine ⟨_, rfl, rfl, trivial, ?_⟩
      | refine ⟨_, _, rfl, ?_⟩))
    refine ite_dec (fun c3 => ?_) (fun c3 => ?_)
    · (repeat (first
      | refine ⟨_, rfl, ?_⟩
      | refine ⟨_, _, rfl, rfl, ?_⟩
      | refine Or.inl ⟨_, rfl, ?_⟩
      | refine Or.inr ⟨_, rfl, ?_⟩
      | refine ⟨Or.inl ⟨by decide, by decide⟩, ?_⟩
      | refine ⟨Or.inr ⟨by decide, by decide⟩, ?_⟩
      | refine ⟨⟨by decide, by decide⟩, ?_⟩
      | refine ⟨⟨by decide, by decide, by decide⟩, ?_⟩
      | refine ⟨by decide, ?_⟩
      | refine ⟨(by show (0 : Int) < _; decide), ?_⟩
      | refine ⟨rfl, ?_⟩
      | refine ⟨⟨_, rfl⟩, ?_⟩
      | refine ⟨_, rfl, rfl, trivial, ?_⟩
      | refine ⟨_, _, rfl, ?_⟩))
      refine ⟨st, nm, n + 1, ns, rfl, s1, by omega, hN1, hno, fun p t a n' H2 x2 s2 hn2 hd hp hr' ha => ?_⟩
      refine ⟨by show 2 ≤ sizeLine; decide, fun p2 hp2 => ?_⟩
      refine q p2 _ _ _ _ ((x1.trans x2).trans (SX.new hp2)) (s2.new hp2) ?_ (.tup (SqT.of upd_same) (.cons (.str _) (.cons (Dp.tx (TX.new hp2) hd (ptu hp)) .nil))) (pr2 (r := ("last(", [sd "last"], 1)) (UT_tab0 (in0 (i := 5))) rfl hp) (fun x hx => ?_) ?_
      · show n' ≤ n + 6 * (a.length + 1); omega
      · rcases List.mem_cons.mp hx with rfl | hx
        · exact tabN_tab0 (in0 (i := 5))
        · exact hr' x hx
      · show a.length + 1 ≤ room; omega
    · (repeat (first
      | refine ⟨_, rfl, ?_⟩
      | refine ⟨_, _, rfl, rfl, ?_⟩
      | refine Or.inl ⟨_, rfl, ?_⟩
      | refine Or.inr ⟨_, rfl, ?_⟩
      | refine ⟨Or.inl ⟨by decide, by decide⟩, ?_⟩
      | refine ⟨Or.inr ⟨by decide, by decide⟩, ?_⟩
      | refine ⟨⟨by decide, by decide⟩, ?_⟩
      | refine ⟨⟨by decide, by decide, by decide⟩, ?_⟩
      | refine ⟨by decide, ?_⟩
      | refine ⟨(by show (0 : Int) < _; decide), ?_⟩
      | refine ⟨rfl, ?_⟩
      | refine ⟨⟨_, rfl⟩, ?_⟩
      | refine ⟨_, rfl, rfl, trivial, ?_⟩
      | refine ⟨_, _, rfl, ?_⟩))
      refine ⟨st, n + 1, (room : Int) - 2, rfl, s1, by omega, by omega, fun f H2 f0 f1 x2 s2 => ?_⟩
      obtain ⟨sw, r, hat, hrm, hre⟩ := bi_row hv8 v1
      obtain ⟨re1, re2⟩ := row_eta hre
      obtain ⟨fn, hfn⟩ : ∃ fn : Nat, 1 + f = (fn : Int) := ⟨(1 + f).toNat, by omega⟩
      (repeat (first
      | refine ⟨_, rfl, ?_⟩
      | refine ⟨_, _, rfl, rfl, ?_⟩
      | refine Or.inl ⟨_, rfl, ?_⟩
      | refine Or.inr ⟨_, rfl, ?_⟩
      | refine ⟨Or.inl ⟨by decide, by decide⟩, ?_⟩
      | refine ⟨Or.inr ⟨by decide, by decide⟩, ?_⟩
      | refine ⟨⟨by decide, by decide⟩, ?_⟩
      | refine ⟨⟨by decide, by decide, by decide⟩, ?_⟩
      | refine ⟨by decide, ?_⟩
      | refine ⟨(by show (0 : Int) < _; decide), ?_⟩
      | refine ⟨rfl, ?_⟩
      | refine ⟨⟨_, rfl⟩, ?_⟩
      | refine ⟨_, rfl, rfl, trivial, ?_⟩
      | refine ⟨_, _, rfl, ?_⟩))
      refine fun l hl => ?_
      (repeat (first
      | refine ⟨_, rfl, ?_⟩
      | refine ⟨_, _, rfl, rfl, ?_⟩
      | refine Or.inl ⟨_, rfl, ?_⟩
      | refine Or.inr ⟨_, rfl, ?_⟩
      | refine ⟨Or.inl ⟨by decide, by decide⟩, ?_⟩
      | refine ⟨Or.inr ⟨by decide, by decide⟩, ?_⟩
      | refine ⟨⟨by decide, by decide⟩, ?_⟩
      | refine ⟨⟨by decide, by decide, by decide⟩, ?_⟩
      | refine ⟨by decide, ?_⟩
      | refine ⟨(by show (0 : Int) < _; decide), ?_⟩
      | refine ⟨rfl, ?_⟩
      | refine ⟨⟨_, rfl⟩, ?_⟩
      | refine ⟨_, rfl, rfl, trivial, ?_⟩
      | refine ⟨_, _, rfl, ?_⟩))
      refine ⟨l, words8, _, _, rfl, rfl, SqL.of upd_same, hat, ?_⟩
      (repeat (first
      | refine ⟨_, rfl, ?_⟩
      | refine ⟨_, _, rfl, rfl, ?_⟩
      | refine Or.inl ⟨_, rfl, ?_⟩
      | refine Or.inr ⟨_, rfl, ?_⟩
      | refine ⟨Or.inl ⟨by decide, by decide⟩, ?_⟩
      | refine ⟨Or.inr ⟨by decide, by decide⟩, ?_⟩
      | refine ⟨⟨by decide, by decide⟩, ?_⟩
      | refine ⟨⟨by decide, by decide, by decide⟩, ?_⟩
      | refine ⟨by decide, ?_⟩
      | refine ⟨(by show (0 : Int) < _; decide), ?_⟩
      | refine ⟨rfl, ?_⟩
      | refine ⟨⟨_, rfl⟩, ?_⟩
      | refine ⟨_, rfl, rfl, trivial, ?_⟩
      | refine ⟨_, _, rfl, ?_⟩))
      refine ⟨j - 1, by omega, st, nm, n + 2, ns, fn, by rw [← hfn]; rfl, s2.new hl, by omega, (x2.trans (SX.new hl)).seqT hN1, hno, by omega, by omega, by omega, fun p t a n' H3 x3 s3 hn2 hd hp hr' ha => ?_⟩
      (repeat (first
      | refine ⟨_, rfl, ?_⟩
      | refine ⟨_, _, rfl, rfl, ?_⟩
      | refine Or.inl ⟨_, rfl, ?_⟩
      | refine Or.inr ⟨_, rfl, ?_⟩
      | refine ⟨Or.inl ⟨by decide, by decide⟩, ?_⟩
      | refine ⟨Or.inr ⟨by decide, by decide⟩, ?_⟩
      | refine ⟨⟨by decide, by decide⟩, ?_⟩
      | refine ⟨⟨by decide, by decide, by decide⟩, ?_⟩
      | refine ⟨by decide, ?_⟩
      | refine ⟨(by show (0 : Int) < _; decide), ?_⟩
      | refine ⟨rfl, ?_⟩
      | refine ⟨⟨_, rfl⟩, ?_⟩
      | refine ⟨_, rfl, rfl, trivial, ?_⟩
      | refine ⟨_, _, rfl, ?_⟩))
      refine ⟨j - 1, by omega, st, nm, n', ns, room - 1 - fn, by rw [show (((room - 1 - fn : Nat)) : Int) = (room : Int) - 1 - (1 + f) by omega]; rfl, s3, by omega, x3.seqT ((x2.trans (SX.new hl)).seqT hN1), hno, by omega, by omega, by omega, fun p' t' a' n'' H4 x4 s4 hn3 hd' hp' hr'' ha' => ?_⟩
      refine ⟨by show 3 ≤ sizeLine; decide, fun p2 hp2 => ?_⟩
      refine q p2 _ _ _ _ (((((x1.trans x2).trans (SX.new hl)).trans x3).trans x4).trans (SX.new hp2)) (s4.new hp2) ?_ ?_ (pr3 (r := r) (UT_tab0 hrm) re2 hp hp') (fun x hx => ?_) ?_
      · show n'' ≤ n + 6 * ((a ++ a').length + 1)
        rw [List.length_append]
        omega
      · rw [re1]
        exact .tup (SqT.of upd_same) (.cons (.str _) (.cons (Dp.tx ((TX.sx x4).trans (TX.new hp2)) hd (ptu hp)) (.cons (Dp.tx (TX.new hp2) hd' (ptu hp')) .nil)))
      · rcases List.mem_cons.mp hx with rfl | hx
        · exact tabN_tab0 hrm
        · rcases List.mem_append.mp hx with hx | hx
          · exact hr' x hx
          · exact hr'' x hx
      · show (a ++ a').length + 1 ≤ room
        rw [List.length_append]
        omega
theorem ok_law_tree (T : Top K mg w) : ∀ j : Nat, FnOk P w K mg base CX0 (j + 4) T.a_law_tree T.d_law_tree ["state", "names", "room"] (sp_law_tree K j)
  | 0 => step_law_tree T 0 3 (by decide) fun m h => by omega
  | j + 1 => step_law_tree T (j + 1) (j + 4) (by omega) fun m h => by
    have e : m = j := by omega
    subst e
    exact ok_law_tree T m
end
end My

namespace My
open PySem PySem.Spec PyProof.Rows L2
section
variable {P : Program} {w : World} {K : PySem.W.Frag} {mg : Str → Option Value} {base : Heap}
theorem absN {n : Nat} : ((n : Nat) : Int).toNat = n := rfl
theorem bits_lt (n : Nat) : n < 2 ^ (Builtin.Int.intBits (n : Int)) := by
  unfold Builtin.Int.intBits
  split
  · rename_i h
    have e : n = 0 := by simpa using h
    omega
  · exact Nat.lt_log2_self
/-! ### _law_common -/
def sp_law_common : Sp := fun vs H Q _ => ∃ (a b : Nat), vs = [.int (a : Int), .int (b : Int)] ∧ b < 2 ^ 10000 ∧ Q (.int ((Nat.gcd a b : Nat) : Int)) H
theorem ok_law_common (T : Top K mg w) : FnOk P w K mg base CX0 1 T.a_law_common T.d_law_common ["one", "other"] sp_law_common := by
  refine T.F_law_common.ok sc_law_common (fun vs H Q E h => ?_) (fun cdv A outer s H vs Q E hr h => ?_)
  · obtain ⟨a, b, rfl, _⟩ := h
    rfl
  obtain ⟨a, b, rfl, hbd, q⟩ := h
  have hk : Builtin.Int.intBits (b : Int) ≤ 10000 := by
    unfold Builtin.Int.intBits
    split
    · omega
    · rename_i h
      have h0 : b ≠ 0 := by simpa using h
      have := (Nat.log2_lt h0).mpr hbd
      show b.log2 + 1 ≤ _
      omega
  have hlt := bits_lt b
  refine ⟨_, (pss_cons (ps_for PassesOwn.never rfl (pi_range1 (by rfl) T.z_range (pa_cons (pe_op op_add (pe_op op_mul pe_int (pe_bits (pv 1))) pe_int) pa_nil)) (pg_name (i := 2) sc_law_common.nd rfl (Or.inl rfl))
        (pss_cons (ps_if (pt_cmpR op_eq (pv 1) pe_int (nomark _))
        (pss_one ps_break)
        pss_nil)
      (pss_cons (ps_set (i := 3) sc_law_common.nd rfl (Or.inl rfl) (pe_op op_mod (pe_callTy call_int1 (by rfl) T.z_int (by decide +kernel) (pa_cons (pv 0) pa_nil)) (pv 1)))
      (pss_cons (ps_set (i := 0) sc_law_common.nd rfl (Or.inl rfl) (pv 1))
      (pss_one (ps_set (i := 1) sc_law_common.nd rfl (Or.inl rfl) (pv 3)))))))
      (pss_one (ps_ret (pv 0)))), ?_⟩
  (repeat (first
      | refine ⟨_, rfl, ?_⟩
      | refine ⟨_, _, rfl, rfl, ?_⟩
      | refine Or.inl ⟨_, rfl, ?_⟩
      | refine Or.inr ⟨_, rfl, ?_⟩
      | refine ⟨Or.inl ⟨by decide, by decide⟩, ?_⟩
      | refine ⟨Or.inr ⟨by decide, by decide⟩, ?_⟩
      | refine ⟨⟨by decide, by decide⟩, ?_⟩
      | refine ⟨⟨by decide, by decide, by decide⟩, ?_⟩
      | refine ⟨by decide, ?_⟩
      | refine ⟨(by show (0 : Int) < _; decide), ?_⟩
      | refine ⟨rfl, ?_⟩
      | refine ⟨⟨_, rfl⟩, ?_⟩
      | refine ⟨_, rfl, rfl, trivial, ?_⟩
      | refine ⟨_, _, rfl, ?_⟩))
  generalize hK : Builtin.Int.intBits (b : Int) = k at *
  refine ⟨by omega, by omega, ?_⟩
  have en : (2 * ((k : Nat) : Int) + 3).toNat = 2 * k + 3 := by omega
  rw [en]
  refine for_range (lo := 0) (n := 2 * k + 3) (fun j σ H' => ∃ (y2 y3 : Option V) (a' b' : Nat), σ = [some (.int (a' : Int)), some (.int (b' : Int)), y2, y3] ∧ H' = H ∧ Nat.gcd a' b' = Nat.gcd a b ∧ Euc a' b' (2 * k + 3 - j) ∧ j ≤ 2 * k + 3) ?_ ?_ ?_
  · exact ⟨_, _, a, b, rfl, rfl, rfl, Euc.start hlt (by omega), by omega⟩
  · rintro j σ H' hj ⟨y2, y3, a', b', rfl, rfl, hg, he, _⟩
    (repeat (first
      | refine ⟨_, rfl, ?_⟩
      | refine ⟨_, _, rfl, rfl, ?_⟩
      | refine Or.inl ⟨_, rfl, ?_⟩
      | refine Or.inr ⟨_, rfl, ?_⟩
      | refine ⟨Or.inl ⟨by decide, by decide⟩, ?_⟩
      | refine ⟨Or.inr ⟨by decide, by decide⟩, ?_⟩
      | refine ⟨⟨by decide, by decide⟩, ?_⟩
      | refine ⟨⟨by decide, by decide, by decide⟩, ?_⟩
      | refine ⟨by decide, ?_⟩
      | refine ⟨(by show (0 : Int) < _; decide), ?_⟩
      | refine ⟨rfl, ?_⟩
      | refine ⟨⟨_, rfl⟩, ?_⟩
      | refine ⟨_, rfl, rfl, trivial, ?_⟩
      | refine ⟨_, _, rfl, ?_⟩))
    refine ite_dec (fun c => ?_) (fun c => ?_)
    · have e0 : b' = 0 := by have := V.int.inj c; omega
      subst e0
      (repeat (first
      | refine ⟨_, rfl, ?_⟩
      | refine ⟨_, _, rfl, rfl, ?_⟩
      | refine Or.inl ⟨_, rfl, ?_⟩
      | refine Or.inr ⟨_, rfl, ?_⟩
      | refine ⟨Or.inl ⟨by decide, by decide⟩, ?_⟩
      | refine ⟨Or.inr ⟨by decide, by decide⟩, ?_⟩
      | refine ⟨⟨by decide, by decide⟩, ?_⟩
      | refine ⟨⟨by decide, by decide, by decide⟩, ?_⟩
      | refine ⟨by decide, ?_⟩
      | refine ⟨(by show (0 : Int) < _; decide), ?_⟩
      | refine ⟨rfl, ?_⟩
      | refine ⟨⟨_, rfl⟩, ?_⟩
      | refine ⟨_, rfl, rfl, trivial, ?_⟩
      | refine ⟨_, _, rfl, ?_⟩))
      rw [Nat.gcd_zero_right] at hg
      rw [hg]
      exact q
    · have e0 : b' ≠ 0 := fun z => c (by rw [z]; rfl)
      (repeat (first
      | refine ⟨_, rfl, ?_⟩
      | refine ⟨_, _, rfl, rfl, ?_⟩
      | refine Or.inl ⟨_, rfl, ?_⟩
      | refine Or.inr ⟨_, rfl, ?_⟩
      | refine ⟨Or.inl ⟨by decide, by decide⟩, ?_⟩
      | refine ⟨Or.inr ⟨by decide, by decide⟩, ?_⟩
      | refine ⟨⟨by decide, by decide⟩, ?_⟩
      | refine ⟨⟨by decide, by decide, by decide⟩, ?_⟩
      | refine ⟨by decide, ?_⟩
      | refine ⟨(by show (0 : Int) < _; decide), ?_⟩
      | refine ⟨rfl, ?_⟩
      | refine ⟨⟨_, rfl⟩, ?_⟩
      | refine ⟨_, rfl, rfl, trivial, ?_⟩
      | refine ⟨_, _, rfl, ?_⟩))
      refine ⟨by show (0 : Int) < _; omega, ?_⟩
      (repeat (first
      | refine ⟨_, rfl, ?_⟩
      | refine ⟨_, _, rfl, rfl, ?_⟩
      | refine Or.inl ⟨_, rfl, ?_⟩
      | refine Or.inr ⟨_, rfl, ?_⟩
      | refine ⟨Or.inl ⟨by decide, by decide⟩, ?_⟩
      | refine ⟨Or.inr ⟨by decide, by decide⟩, ?_⟩
      | refine ⟨⟨by decide, by decide⟩, ?_⟩
      | refine ⟨⟨by decide, by decide, by decide⟩, ?_⟩
      | refine ⟨by decide, ?_⟩
      | refine ⟨(by show (0 : Int) < _; decide), ?_⟩
      | refine ⟨rfl, ?_⟩
      | refine ⟨⟨_, rfl⟩, ?_⟩
      | refine ⟨_, rfl, rfl, trivial, ?_⟩
      | refine ⟨_, _, rfl, ?_⟩))
      refine ⟨_, _, b', a' % b', rfl, rfl, ?_, ?_, by omega⟩
      · rw [← hg, Nat.gcd_comm a' b', Nat.gcd_rec b' a', Nat.gcd_comm]
      · have e1 : 2 * k + 3 - j = (2 * k + 3 - (j + 1)) + 1 := by omega
        rw [e1] at he
        exact he.next e0
  · rintro σ H' ⟨y2, y3, a', b', rfl, rfl, hg, he, _⟩
    exfalso
    rcases he.pos with z | z
    · omega
    · exact z
/-! ### _law_pair -/
def sp_law_pair : Sp := fun vs H Q _ => ∃ (t b : Int), vs = [.int t, .int b] ∧ 0 < b ∧ b.natAbs < 2 ^ 8000 ∧ ∀ p, H p = none → Q (.ref p) (upd H p (.tup [.int (red t b).1, .int (red t b).2]))
theorem ok_law_pair (T : Top K mg w) : FnOk P w K mg base CX0 2 T.a_law_pair T.d_law_pair ["top", "bottom"] sp_law_pair := by
  refine T.F_law_pair.ok sc_law_pair (fun vs H Q E h => ?_) (fun cdv A outer s H vs Q E hr h => ?_)
  · obtain ⟨t, b, rfl, _⟩ := h
    rfl
  obtain ⟨t, b, rfl, h0, hb, q⟩ := h
  refine ⟨_, (pss_cons (ps_set (i := 2) sc_law_pair.nd rfl (Or.inl rfl) (pe_call ((ok_law_common T).mono (by decide)) hr (by rfl) T.m_law_common T.F_law_common.kp T.b_law_common .nil pass0 (pa_cons (pe_callB call_abs (by rfl) T.z_abs (by decide +kernel) (pa_cons (pv 0) pa_nil)) (pa_cons (pv 1) pa_nil))))
      (pss_one (ps_ret (pe_tup (pa_cons (pe_op op_fdivW (pv 0) (pv 2)) (pa_cons (pe_op op_fdivW (pv 1) (pv 2)) pa_nil)))))), ?_⟩
  have ea : (if t < 0 then -t else t) = (t.natAbs : Int) := by split <;> omega
  have eb : b = (b.natAbs : Int) := by omega
  have g0 : 0 < Nat.gcd t.natAbs b.natAbs := gcd_pos h0
  have g1 : Nat.gcd t.natAbs b.natAbs < 2 ^ 8000 := Nat.lt_of_le_of_lt (Nat.gcd_le_right _ (by omega)) hb
  have gc : ∀ x : Int, CDivW x ((Nat.gcd t.natAbs b.natAbs : Nat) : Int) := fun x => wide_div (b := 8000) (by omega) (by rw [Int.natAbs_natCast]; exact g1) (by decide) (by decide)
  (repeat (first
      | refine ⟨_, rfl, ?_⟩
      | refine ⟨_, _, rfl, rfl, ?_⟩
      | refine Or.inl ⟨_, rfl, ?_⟩
      | refine Or.inr ⟨_, rfl, ?_⟩
      | refine ⟨Or.inl ⟨by decide, by decide⟩, ?_⟩
      | refine ⟨Or.inr ⟨by decide, by decide⟩, ?_⟩
      | refine ⟨⟨by decide, by decide⟩, ?_⟩
      | refine ⟨⟨by decide, by decide, by decide⟩, ?_⟩
      | refine ⟨by decide, ?_⟩
      | refine ⟨(by show (0 : Int) < _; decide), ?_⟩
      | refine ⟨rfl, ?_⟩
      | refine ⟨⟨_, rfl⟩, ?_⟩
      | refine ⟨_, rfl, rfl, trivial, ?_⟩
      | refine ⟨_, _, rfl, ?_⟩))
  rw [ea]
  refine ⟨t.natAbs, b.natAbs, by rw [← eb]; rfl, Nat.lt_of_lt_of_le hb (Nat.pow_le_pow_right (by decide) (by decide)), ?_⟩
  (repeat (first
      | refine ⟨_, rfl, ?_⟩
      | refine ⟨_, _, rfl, rfl, ?_⟩
      | refine Or.inl ⟨_, rfl, ?_⟩
      | refine Or.inr ⟨_, rfl, ?_⟩
      | refine ⟨Or.inl ⟨by decide, by decide⟩, ?_⟩
      | refine ⟨Or.inr ⟨by decide, by decide⟩, ?_⟩
      | refine ⟨⟨by decide, by decide⟩, ?_⟩
      | refine ⟨⟨by decide, by decide, by decide⟩, ?_⟩
      | refine ⟨by decide, ?_⟩
      | refine ⟨(by show (0 : Int) < _; decide), ?_⟩
      | refine ⟨rfl, ?_⟩
      | refine ⟨⟨_, rfl⟩, ?_⟩
      | refine ⟨_, rfl, rfl, trivial, ?_⟩
      | refine ⟨_, _, rfl, ?_⟩))
  refine ⟨gc _, ?_⟩
  (repeat (first
      | refine ⟨_, rfl, ?_⟩
      | refine ⟨_, _, rfl, rfl, ?_⟩
      | refine Or.inl ⟨_, rfl, ?_⟩
      | refine Or.inr ⟨_, rfl, ?_⟩
      | refine ⟨Or.inl ⟨by decide, by decide⟩, ?_⟩
      | refine ⟨Or.inr ⟨by decide, by decide⟩, ?_⟩
      | refine ⟨⟨by decide, by decide⟩, ?_⟩
      | refine ⟨⟨by decide, by decide, by decide⟩, ?_⟩
      | refine ⟨by decide, ?_⟩
      | refine ⟨(by show (0 : Int) < _; decide), ?_⟩
      | refine ⟨rfl, ?_⟩
      | refine ⟨⟨_, rfl⟩, ?_⟩
      | refine ⟨_, rfl, rfl, trivial, ?_⟩
      | refine ⟨_, _, rfl, ?_⟩))
  refine ⟨gc _, ?_⟩
  exact ⟨(by show 2 ≤ sizeLine; decide), q⟩
end
end My

namespace My
open PySem PySem.Spec PyProof.Rows L2
section
variable {P : Program} {w : World} {K : PySem.W.Frag} {mg : Str → Option Value} {base : Heap}
/-! ### numbers -/
def Nm (K : PySem.W.Frag) (H : Hp) (p : Addr) (x : Q2) : Prop := SqT K H p [.int x.1, .int x.2]
theorem Nm.new {H : Hp} {p : Addr} {x : Q2} (h : H p = some (.tup [.int x.1, .int x.2])) : Nm K H p x := SqT.of h
theorem Nm.sx {st : Addr} {H H' : Hp} {p : Addr} {x : Q2} (e : SX st H H') (h : Nm K H p x) : Nm K H' p x := e.seqT h
theorem Nm.same {H H' : Hp} {p : Addr} {x : Q2} (e : Same H H') (h : Nm K H p x) : Nm K H' p x := My.Same.sqT e h
theorem Nm.dp {H : Hp} {p : Addr} {x : Q2} (h : Nm K H p x) : Dp K H (.ref p) (.tuple [.int x.1, .int x.2]) := .tup h (.cons (.int _) (.cons (.int _) .nil))
theorem sh_pair {x y : Int} : Sh 1 (.tuple [.int x, .int y]) := ⟨by show 2 ≤ 1000000; decide, fun d hd => by
  simp only [List.mem_cons, List.not_mem_nil, or_false] at hd
  rcases hd with rfl | rfl <;> exact True.intro⟩
end
end My

namespace My
open PySem PySem.Spec PyProof.Rows L2
section
variable {P : Program} {w : World} {K : PySem.W.Frag} {mg : Str → Option Value} {base : Heap}
def gd2 (x : Q2) : Prop := ok2 x ∧ bd2 60 x
theorem pow_bd {a : Int} (h0 : 0 ≤ a) (h1 : a < 1000) (k : Nat) : 0 ≤ a ^ k ∧ a ^ k ≤ 999 ^ k := by
  obtain ⟨n, rfl⟩ : ∃ n : Nat, a = n := ⟨a.toNat, by omega⟩
  have h : n ^ k ≤ 999 ^ k := Nat.pow_le_pow_left (by omega) k
  exact ⟨by exact_mod_cast Nat.zero_le _, by exact_mod_cast h⟩
def sp_law_number (K : PySem.W.Frag) : Sp := fun vs H Q _ => ∃ (st : Addr) (n : Nat), vs = [.ref st] ∧ St H st n ∧ n < 2 ^ 40 ∧ ∀ p x n' H', SX st H H' → St H' st n' → n' ≤ n + 4 → Nm K H' p x → gd2 x → Q (.ref p) H'
theorem ok_law_number (T : Top K mg w) : FnOk P w K mg base CX0 3 T.a_law_number T.d_law_number ["state"] (sp_law_number K) := by
  refine T.F_law_number.ok sc_law_number (fun vs H Q E h => ?_) (fun cdv A outer s H vs Q E hr h => ?_)
  · obtain ⟨st, n, rfl, _⟩ := h
    rfl
  obtain ⟨st, n, rfl, hs, hn, q⟩ := h
  refine ⟨_, (pss_cons (ps_if (pt_cmpR op_eq (pe_call ((ok_law_take T).mono (by decide)) hr (by rfl) T.m_law_take T.F_law_take.kp T.b_law_take .nil pass0 (pa_cons (pv 0) (pa_cons pe_int pa_nil))) pe_int (nomark _))
        (pss_one (ps_ret (pe_call ((ok_law_pair T).mono (by decide)) hr (by rfl) T.m_law_pair T.F_law_pair.kp T.b_law_pair .nil pass0 (pa_cons (pe_op op_sub (pe_op op_pow (pe_call ((ok_law_take T).mono (by decide)) hr (by rfl) T.m_law_take T.F_law_take.kp T.b_law_take .nil pass0 (pa_cons (pv 0) (pa_cons pe_int pa_nil))) pe_int) (pe_op op_pow (pe_call ((ok_law_take T).mono (by decide)) hr (by rfl) T.m_law_take T.F_law_take.kp T.b_law_take .nil pass0 (pa_cons (pv 0) (pa_cons pe_int pa_nil))) pe_int)) (pa_cons (pe_op op_add pe_int (pe_op op_pow (pe_call ((ok_law_take T).mono (by decide)) hr (by rfl) T.m_law_take T.F_law_take.kp T.b_law_take .nil pass0 (pa_cons (pv 0) (pa_cons pe_int pa_nil))) pe_int)) pa_nil)))))
        pss_nil)
      (pss_one (ps_ret (pe_call ((ok_law_pair T).mono (by decide)) hr (by rfl) T.m_law_pair T.F_law_pair.kp T.b_law_pair .nil pass0 (pa_cons (pe_op op_sub (pe_call ((ok_law_take T).mono (by decide)) hr (by rfl) T.m_law_take T.F_law_take.kp T.b_law_take .nil pass0 (pa_cons (pv 0) (pa_cons pe_int pa_nil))) pe_int) (pa_cons (pe_op op_add pe_int (pe_call ((ok_law_take T).mono (by decide)) hr (by rfl) T.m_law_take T.F_law_take.kp T.b_law_take .nil pass0 (pa_cons (pv 0) (pa_cons pe_int pa_nil)))) pa_nil)))))), ?_⟩
  (repeat (first
      | refine ⟨_, rfl, ?_⟩
      | refine ⟨_, _, rfl, rfl, ?_⟩
      | refine Or.inl ⟨_, rfl, ?_⟩
      | refine Or.inr ⟨_, rfl, ?_⟩
      | refine ⟨Or.inl ⟨by decide, by decide⟩, ?_⟩
      | refine ⟨Or.inr ⟨by decide, by decide⟩, ?_⟩
      | refine ⟨⟨by decide, by decide⟩, ?_⟩
      | refine ⟨⟨by decide, by decide, by decide⟩, ?_⟩
      | refine ⟨by decide, ?_⟩
      | refine ⟨(by show (0 : Int) < _; decide), ?_⟩
      | refine ⟨rfl, ?_⟩
      | refine ⟨⟨_, rfl⟩, ?_⟩
      | refine ⟨_, rfl, rfl, trivial, ?_⟩
      | refine ⟨_, _, rfl, ?_⟩))
  refine ⟨st, n, 14, rfl, hs, by omega, by decide, fun v H1 h0 h1 x1 s1 => ?_⟩
  (repeat (first
      | refine ⟨_, rfl, ?_⟩
      | refine ⟨_, _, rfl, rfl, ?_⟩
      | refine Or.inl ⟨_, rfl, ?_⟩
      | refine Or.inr ⟨_, rfl, ?_⟩
      | refine ⟨Or.inl ⟨by decide, by decide⟩, ?_⟩
      | refine ⟨Or.inr ⟨by decide, by decide⟩, ?_⟩
      | refine ⟨⟨by decide, by decide⟩, ?_⟩
      | refine ⟨⟨by decide, by decide, by decide⟩, ?_⟩
      | refine ⟨by decide, ?_⟩
      | refine ⟨(by show (0 : Int) < _; decide), ?_⟩
      | refine ⟨rfl, ?_⟩
      | refine ⟨⟨_, rfl⟩, ?_⟩
      | refine ⟨_, rfl, rfl, trivial, ?_⟩
      | refine ⟨_, _, rfl, ?_⟩))
  refine ite_dec (fun c => ?_) (fun c => ?_)
  · (repeat (first
      | refine ⟨_, rfl, ?_⟩
      | refine ⟨_, _, rfl, rfl, ?_⟩
      | refine Or.inl ⟨_, rfl, ?_⟩
      | refine Or.inr ⟨_, rfl, ?_⟩
      | refine ⟨Or.inl ⟨by decide, by decide⟩, ?_⟩
      | refine ⟨Or.inr ⟨by decide, by decide⟩, ?_⟩
      | refine ⟨⟨by decide, by decide⟩, ?_⟩
      | refine ⟨⟨by decide, by decide, by decide⟩, ?_⟩
      | refine ⟨by decide, ?_⟩
      | refine ⟨(by show (0 : Int) < _; decide), ?_⟩
      | refine ⟨rfl, ?_⟩
      | refine ⟨⟨_, rfl⟩, ?_⟩
      | refine ⟨_, rfl, rfl, trivial, ?_⟩
      | refine ⟨_, _, rfl, ?_⟩))
    refine ⟨st, _, 1000, rfl, s1, by omega, by decide, fun a H2 a0 a1 x2 s2 => ?_⟩
    (repeat (first
      | refine ⟨_, rfl, ?_⟩
      | refine ⟨_, _, rfl, rfl, ?_⟩
      | refine Or.inl ⟨_, rfl, ?_⟩
      | refine Or.inr ⟨_, rfl, ?_⟩
      | refine ⟨Or.inl ⟨by decide, by decide⟩, ?_⟩
      | refine ⟨Or.inr ⟨by decide, by decide⟩, ?_⟩
      | refine ⟨⟨by decide, by decide⟩, ?_⟩
      | refine ⟨⟨by decide, by decide, by decide⟩, ?_⟩
      | refine ⟨by decide, ?_⟩
      | refine ⟨(by show (0 : Int) < _; decide), ?_⟩
      | refine ⟨rfl, ?_⟩
      | refine ⟨⟨_, rfl⟩, ?_⟩
      | refine ⟨_, rfl, rfl, trivial, ?_⟩
      | refine ⟨_, _, rfl, ?_⟩))
    refine ⟨⟨by decide, by decide, by omega⟩, ?_⟩
    (repeat (first
      | refine ⟨_, rfl, ?_⟩
      | refine ⟨_, _, rfl, rfl, ?_⟩
      | refine Or.inl ⟨_, rfl, ?_⟩
      | refine Or.inr ⟨_, rfl, ?_⟩
      | refine ⟨Or.inl ⟨by decide, by decide⟩, ?_⟩
      | refine ⟨Or.inr ⟨by decide, by decide⟩, ?_⟩
      | refine ⟨⟨by decide, by decide⟩, ?_⟩
      | refine ⟨⟨by decide, by decide, by decide⟩, ?_⟩
      | refine ⟨by decide, ?_⟩
      | refine ⟨(by show (0 : Int) < _; decide), ?_⟩
      | refine ⟨rfl, ?_⟩
      | refine ⟨⟨_, rfl⟩, ?_⟩
      | refine ⟨_, rfl, rfl, trivial, ?_⟩
      | refine ⟨_, _, rfl, ?_⟩))
    refine ⟨st, _, 1000, rfl, s2, by omega, by decide, fun b H3 b0 b1 x3 s3 => ?_⟩
    (repeat (first
      | refine ⟨_, rfl, ?_⟩
      | refine ⟨_, _, rfl, rfl, ?_⟩
      | refine Or.inl ⟨_, rfl, ?_⟩
      | refine Or.inr ⟨_, rfl, ?_⟩
      | refine ⟨Or.inl ⟨by decide, by decide⟩, ?_⟩
      | refine ⟨Or.inr ⟨by decide, by decide⟩, ?_⟩
      | refine ⟨⟨by decide, by decide⟩, ?_⟩
      | refine ⟨⟨by decide, by decide, by decide⟩, ?_⟩
      | refine ⟨by decide, ?_⟩
      | refine ⟨(by show (0 : Int) < _; decide), ?_⟩
      | refine ⟨rfl, ?_⟩
      | refine ⟨⟨_, rfl⟩, ?_⟩
      | refine ⟨_, rfl, rfl, trivial, ?_⟩
      | refine ⟨_, _, rfl, ?_⟩))
    refine ⟨⟨by decide, by decide, by omega⟩, ?_⟩
    (repeat (first
      | refine ⟨_, rfl, ?_⟩
      | refine ⟨_, _, rfl, rfl, ?_⟩
      | refine Or.inl ⟨_, rfl, ?_⟩
      | refine Or.inr ⟨_, rfl, ?_⟩
      | refine ⟨Or.inl ⟨by decide, by decide⟩, ?_⟩
      | refine ⟨Or.inr ⟨by decide, by decide⟩, ?_⟩
      | refine ⟨⟨by decide, by decide⟩, ?_⟩
      | refine ⟨⟨by decide, by decide, by decide⟩, ?_⟩
      | refine ⟨by decide, ?_⟩
      | refine ⟨(by show (0 : Int) < _; decide), ?_⟩
      | refine ⟨rfl, ?_⟩
      | refine ⟨⟨_, rfl⟩, ?_⟩
      | refine ⟨_, rfl, rfl, trivial, ?_⟩
      | refine ⟨_, _, rfl, ?_⟩))
    refine ⟨st, _, 1000, rfl, s3, by omega, by decide, fun c H4 c0 c1 x4 s4 => ?_⟩
    (repeat (first
      | refine ⟨_, rfl, ?_⟩
      | refine ⟨_, _, rfl, rfl, ?_⟩
      | refine Or.inl ⟨_, rfl, ?_⟩
      | refine Or.inr ⟨_, rfl, ?_⟩
      | refine ⟨Or.inl ⟨by decide, by decide⟩, ?_⟩
      | refine ⟨Or.inr ⟨by decide, by decide⟩, ?_⟩
      | refine ⟨⟨by decide, by decide⟩, ?_⟩
      | refine ⟨⟨by decide, by decide, by decide⟩, ?_⟩
      | refine ⟨by decide, ?_⟩
      | refine ⟨(by show (0 : Int) < _; decide), ?_⟩
      | refine ⟨rfl, ?_⟩
      | refine ⟨⟨_, rfl⟩, ?_⟩
      | refine ⟨_, rfl, rfl, trivial, ?_⟩
      | refine ⟨_, _, rfl, ?_⟩))
    refine ⟨⟨by decide, by decide, by omega⟩, ?_⟩
    (repeat (first
      | refine ⟨_, rfl, ?_⟩
      | refine ⟨_, _, rfl, rfl, ?_⟩
      | refine Or.inl ⟨_, rfl, ?_⟩
      | refine Or.inr ⟨_, rfl, ?_⟩
      | refine ⟨Or.inl ⟨by decide, by decide⟩, ?_⟩
      | refine ⟨Or.inr ⟨by decide, by decide⟩, ?_⟩
      | refine ⟨⟨by decide, by decide⟩, ?_⟩
      | refine ⟨⟨by decide, by decide, by decide⟩, ?_⟩
      | refine ⟨by decide, ?_⟩
      | refine ⟨(by show (0 : Int) < _; decide), ?_⟩
      | refine ⟨rfl, ?_⟩
      | refine ⟨⟨_, rfl⟩, ?_⟩
      | refine ⟨_, rfl, rfl, trivial, ?_⟩
      | refine ⟨_, _, rfl, ?_⟩))
    have ba := pow_bd a0 a1 4
    have bb := pow_bd b0 b1 3
    have bc := pow_bd c0 c1 3
    have hb0 : 0 < 1 + c ^ 3 := by omega
    refine ⟨hb0, Nat.lt_of_lt_of_le (show (1 + c ^ 3 : Int).natAbs < 2 ^ 60 by omega) (Nat.pow_le_pow_right (by decide) (by decide)), fun p hp => ?_⟩
    have s5 := s4.new (o := .tup [.int (red (a ^ 4 - b ^ 3) (1 + c ^ 3)).1, .int (red (a ^ 4 - b ^ 3) (1 + c ^ 3)).2]) hp
    exact q p (red (a ^ 4 - b ^ 3) (1 + c ^ 3)) _ _ ((((x1.trans x2).trans x3).trans x4).trans (SX.new hp)) s5 (by omega) (Nm.new upd_same) ⟨red_ok hb0, red_bd hb0 (by omega) (by omega)⟩
  · (repeat (first
      | refine ⟨_, rfl, ?_⟩
      | refine ⟨_, _, rfl, rfl, ?_⟩
      | refine Or.inl ⟨_, rfl, ?_⟩
      | refine Or.inr ⟨_, rfl, ?_⟩
      | refine ⟨Or.inl ⟨by decide, by decide⟩, ?_⟩
      | refine ⟨Or.inr ⟨by decide, by decide⟩, ?_⟩
      | refine ⟨⟨by decide, by decide⟩, ?_⟩
      | refine ⟨⟨by decide, by decide, by decide⟩, ?_⟩
      | refine ⟨by decide, ?_⟩
      | refine ⟨(by show (0 : Int) < _; decide), ?_⟩
      | refine ⟨rfl, ?_⟩
      | refine ⟨⟨_, rfl⟩, ?_⟩
      | refine ⟨_, rfl, rfl, trivial, ?_⟩
      | refine ⟨_, _, rfl, ?_⟩))
    refine ⟨st, _, 9, rfl, s1, by omega, by decide, fun a H2 a0 a1 x2 s2 => ?_⟩
    (repeat (first
      | refine ⟨_, rfl, ?_⟩
      | refine ⟨_, _, rfl, rfl, ?_⟩
      | refine Or.inl ⟨_, rfl, ?_⟩
      | refine Or.inr ⟨_, rfl, ?_⟩
      | refine ⟨Or.inl ⟨by decide, by decide⟩, ?_⟩
      | refine ⟨Or.inr ⟨by decide, by decide⟩, ?_⟩
      | refine ⟨⟨by decide, by decide⟩, ?_⟩
      | refine ⟨⟨by decide, by decide, by decide⟩, ?_⟩
      | refine ⟨by decide, ?_⟩
      | refine ⟨(by show (0 : Int) < _; decide), ?_⟩
      | refine ⟨rfl, ?_⟩
      | refine ⟨⟨_, rfl⟩, ?_⟩
      | refine ⟨_, rfl, rfl, trivial, ?_⟩
      | refine ⟨_, _, rfl, ?_⟩))
    refine ⟨st, _, 3, rfl, s2, by omega, by decide, fun b H3 b0 b1 x3 s3 => ?_⟩
    (repeat (first
      | refine ⟨_, rfl, ?_⟩
      | refine ⟨_, _, rfl, rfl, ?_⟩
      | refine Or.inl ⟨_, rfl, ?_⟩
      | refine Or.inr ⟨_, rfl, ?_⟩
      | refine ⟨Or.inl ⟨by decide, by decide⟩, ?_⟩
      | refine ⟨Or.inr ⟨by decide, by decide⟩, ?_⟩
      | refine ⟨⟨by decide, by decide⟩, ?_⟩
      | refine ⟨⟨by decide, by decide, by decide⟩, ?_⟩
      | refine ⟨by decide, ?_⟩
      | refine ⟨(by show (0 : Int) < _; decide), ?_⟩
      | refine ⟨rfl, ?_⟩
      | refine ⟨⟨_, rfl⟩, ?_⟩
      | refine ⟨_, rfl, rfl, trivial, ?_⟩
      | refine ⟨_, _, rfl, ?_⟩))
    have hb0 : 0 < 1 + b := by omega
    refine ⟨hb0, Nat.lt_of_lt_of_le (show (1 + b : Int).natAbs < 2 ^ 60 by omega) (Nat.pow_le_pow_right (by decide) (by decide)), fun p hp => ?_⟩
    have s5 := s3.new (o := .tup [.int (red (a - 4) (1 + b)).1, .int (red (a - 4) (1 + b)).2]) hp
    exact q p (red (a - 4) (1 + b)) _ _ (((x1.trans x2).trans x3).trans (SX.new hp)) s5 (by omega) (Nm.new upd_same) ⟨red_ok hb0, red_bd hb0 (by omega) (by omega)⟩
end
end My

namespace My
open PySem PySem.Spec PyProof.Rows L2
theorem mulW {x y : Int} (hx : x.natAbs < 2 ^ 1000) (hy : y.natAbs < 2 ^ 1000) : CMulW x y := wide_mul (a := 1000) (b := 1000) hx hy (by decide) (by decide) (by decide)
theorem bd2_mono {n m : Nat} {x : Q2} (h : bd2 n x) (hm : n ≤ m) : bd2 m x := ⟨Nat.lt_of_lt_of_le h.1 (Nat.pow_le_pow_right (by decide) hm), Nat.lt_of_lt_of_le h.2 (Nat.pow_le_pow_right (by decide) hm)⟩
/-! ### lists of numbers -/
def selA (f : Q2 → Bool) : List Addr → List Q2 → List Addr
  | p :: ps, x :: xs => if f x = true then p :: selA f ps xs else selA f ps xs
  | _, _ => []
theorem selA_paired {R : Addr → Q2 → Prop} (f : Q2 → Bool) : ∀ {ps : List Addr} {xs : List Q2}, Paired R ps xs → Paired R (selA f ps xs) (xs.filter f)
  | _, _, .nil => .nil
  | _, _, .cons (a := p) (b := x) r t => by
    unfold selA
    rw [List.filter_cons]
    by_cases h : f x = true
    · rw [if_pos h, if_pos h]
      exact .cons r (selA_paired f t)
    · rw [if_neg h, if_neg h]
      exact selA_paired f t
theorem selA_step (f : Q2 → Bool) : ∀ {ps : List Addr} {xs : List Q2} {i : Nat} {p : Addr} {x : Q2}, ps[i]? = some p → xs[i]? = some x →
    selA f (ps.take (i + 1)) (xs.take (i + 1)) = selA f (ps.take i) (xs.take i) ++ (if f x = true then [p] else [])
  | [], _, _, _, _, h, _ => by simp at h
  | _ :: _, [], _, _, _, _, h => by simp at h
  | q :: ps, y :: xs, 0, p, x, h1, h2 => by
    simp at h1 h2
    subst h1 h2
    simp only [List.take, selA]
    split <;> rfl
  | q :: ps, y :: xs, i + 1, p, x, h1, h2 => by
    have ih := selA_step f (ps := ps) (xs := xs) (i := i) (by simpa using h1) (by simpa using h2)
    simp only [List.take_succ_cons, selA]
    rw [ih]
    split <;> rfl
theorem selA_all (f : Q2 → Bool) {ps : List Addr} {xs : List Q2} {n : Nat} (h1 : ps.length = n) (h2 : xs.length = n) : selA f (ps.take n) (xs.take n) = selA f ps xs := by
  rw [List.take_of_length_le (by omega), List.take_of_length_le (by omega)]
theorem selA_le (f : Q2 → Bool) : ∀ (ps : List Addr) (xs : List Q2), (selA f ps xs).length ≤ ps.length
  | [], _ => by simp [selA]
  | _ :: _, [] => by simp [selA]
  | p :: ps, x :: xs => by
    have ih := selA_le f ps xs
    unfold selA
    split <;> simp <;> omega
section
variable {P : Program} {w : World} {K : PySem.W.Frag} {mg : Str → Option Value} {base : Heap}
theorem Paired.at {R : Addr → Q2 → Prop} : ∀ {ps : List Addr} {xs : List Q2} {i : Nat} {p : Addr}, Paired R ps xs → ps[i]? = some p → ∃ x, xs[i]? = some x ∧ R p x
  | _, _, _, _, .nil, h => by simp at h
  | _, _, 0, _, .cons r _, h => by simp at h; subst h; exact ⟨_, rfl, r⟩
  | _, _, i + 1, p, .cons _ t, h => by
    obtain ⟨x, e, r⟩ := Paired.at (i := i) (p := p) t (by simpa using h)
    exact ⟨x, by simpa using e, r⟩
theorem Paired.at' {R : Addr → Q2 → Prop} {ps : List Addr} {xs : List Q2} {i : Nat} {x : Q2} (r : Paired R ps xs) (h : xs[i]? = some x) : ∃ p, ps[i]? = some p ∧ R p x := by
  have hl := Paired.length r
  have hi := (List.getElem?_eq_some_iff.mp h).1
  have e : ps[i]? = some ps[i] := List.getElem?_eq_getElem (by omega)
  obtain ⟨y, ey, ry⟩ := Paired.at r e
  rw [h] at ey
  cases ey
  exact ⟨_, e, ry⟩
theorem Paired.mono {R R' : Addr → Q2 → Prop} (f : ∀ p x, R p x → R' p x) : ∀ {ps : List Addr} {xs : List Q2}, Paired R ps xs → Paired R' ps xs
  | _, _, .nil => .nil
  | _, _, .cons r t => .cons (f _ _ r) (Paired.mono f t)
theorem Paired.app {R : Addr → Q2 → Prop} : ∀ {ps ps' : List Addr} {xs xs' : List Q2}, Paired R ps xs → Paired R ps' xs' → Paired R (ps ++ ps') (xs ++ xs')
  | _, _, _, _, .nil, s => s
  | _, _, _, _, .cons r t, s => .cons r (Paired.app t s)
def Am (K : PySem.W.Frag) (H : Hp) (t : Addr) (xs : List Q2) : Prop := ∃ ps : List Addr, SqT K H t (ps.map V.ref) ∧ Paired (Nm K H) ps xs
theorem Am.sx {st : Addr} {H H' : Hp} {t : Addr} {xs : List Q2} (e : SX st H H') (h : Am K H t xs) : Am K H' t xs := by
  obtain ⟨ps, h1, h2⟩ := h
  exact ⟨ps, e.seqT h1, Paired.mono (fun _ _ q => Nm.sx e q) h2⟩
theorem Am.same {H H' : Hp} {t : Addr} {xs : List Q2} (e : L2.Same H H') (h : Am K H t xs) : Am K H' t xs := by
  obtain ⟨ps, h1, h2⟩ := h
  exact ⟨ps, My.Same.sqT e h1, Paired.mono (fun _ _ q => Nm.same e q) h2⟩
theorem ref_at {ps : List Addr} {i : Nat} {x : V} (h : (ps.map V.ref)[i]? = some x) : ∃ p, x = .ref p ∧ ps[i]? = some p := by
  rw [List.getElem?_map] at h
  cases e : ps[i]? with
  | none => rw [e] at h; cases h
  | some p => rw [e] at h; exact ⟨p, (Option.some.inj h).symm, rfl⟩
/-! ### _law_less, less -/
def sp_less2 (K : PySem.W.Frag) : Sp := fun vs H Q _ => ∃ (p q : Addr) (x y : Q2), vs = [.ref p, .ref q] ∧ Nm K H p x ∧ Nm K H q y ∧ bd2 1000 x ∧ bd2 1000 y ∧ Q (.bl (decide (lt2 x y))) H
theorem ok_law_less (T : Top K mg w) : FnOk P w K mg base CX0 1 T.a_law_less T.d_law_less ["one", "other"] (sp_less2 K) := by
  refine T.F_law_less.ok sc_law_less (fun vs H Q E h => ?_) (fun cdv A outer s H vs Q E hr h => ?_)
  · obtain ⟨p, q, x, y, rfl, _⟩ := h
    rfl
  obtain ⟨p, q, x, y, rfl, hx, hy, bx, b_y, k⟩ := h
  refine ⟨_, (pss_one (ps_ret (pe_cmpR op_lt (pe_op op_mulW (pe_ix ix_tup (pv 0) pe_int (fun _ _ => rfl)) (pe_ix ix_tup (pv 1) pe_int (fun _ _ => rfl))) (pe_op op_mulW (pe_ix ix_tup (pv 1) pe_int (fun _ _ => rfl)) (pe_ix ix_tup (pv 0) pe_int (fun _ _ => rfl))) (nomark _)))), ?_⟩
  refine ⟨_, rfl, p, _, 0, _, rfl, rfl, hx, atI_nat (j := 0) rfl, ?_⟩
  refine ⟨_, rfl, q, _, 1, _, rfl, rfl, hy, atI_nat (j := 1) rfl, ?_⟩
  refine ⟨_, _, rfl, rfl, mulW bx.1 b_y.2, ?_⟩
  refine ⟨_, rfl, q, _, 0, _, rfl, rfl, hy, atI_nat (j := 0) rfl, ?_⟩
  refine ⟨_, rfl, p, _, 1, _, rfl, rfl, hx, atI_nat (j := 1) rfl, ?_⟩
  refine ⟨_, _, rfl, rfl, mulW b_y.1 bx.2, ?_⟩
  refine ⟨_, _, rfl, rfl, ?_⟩
  exact k
theorem ok_less (T : Top K mg w) : FnOk P w K mg base CX0 1 T.a_less T.d_less ["a", "b"] (sp_less2 K) := by
  refine T.F_less.ok sc_less (fun vs H Q E h => ?_) (fun cdv A outer s H vs Q E hr h => ?_)
  · obtain ⟨p, q, x, y, rfl, _⟩ := h
    rfl
  obtain ⟨p, q, x, y, rfl, hx, hy, bx, b_y, k⟩ := h
  refine ⟨_, (pss_one (ps_ret (pe_cmpR op_lt (pe_op op_mulW (pe_ix ix_tup (pv 0) pe_int (fun _ _ => rfl)) (pe_ix ix_tup (pv 1) pe_int (fun _ _ => rfl))) (pe_op op_mulW (pe_ix ix_tup (pv 1) pe_int (fun _ _ => rfl)) (pe_ix ix_tup (pv 0) pe_int (fun _ _ => rfl))) (nomark _)))), ?_⟩
  refine ⟨_, rfl, p, _, 0, _, rfl, rfl, hx, atI_nat (j := 0) rfl, ?_⟩
  refine ⟨_, rfl, q, _, 1, _, rfl, rfl, hy, atI_nat (j := 1) rfl, ?_⟩
  refine ⟨_, _, rfl, rfl, mulW bx.1 b_y.2, ?_⟩
  refine ⟨_, rfl, q, _, 0, _, rfl, rfl, hy, atI_nat (j := 0) rfl, ?_⟩
  refine ⟨_, rfl, p, _, 1, _, rfl, rfl, hx, atI_nat (j := 1) rfl, ?_⟩
  refine ⟨_, _, rfl, rfl, mulW b_y.1 bx.2, ?_⟩
  refine ⟨_, _, rfl, rfl, ?_⟩
  exact k
/-! ### _law_with -/
def BdL (n : Nat) (xs : List Q2) : Prop := ∀ x ∈ xs, bd2 n x
def sp_law_with (K : PySem.W.Frag) : Sp := fun vs H Q _ => ∃ (t q : Addr) (xs : List Q2) (y : Q2), vs = [.ref t, .ref q] ∧ Am K H t xs ∧ Nm K H q y ∧ BdL 1000 xs ∧ bd2 1000 y ∧ xs.length ≤ 1000 ∧ ∀ p H', L2.Same H H' → Am K H' p (with2 xs y) → Q (.ref p) H'
theorem ok_law_with (T : Top K mg w) : FnOk P w K mg base CX0 2 T.a_law_with T.d_law_with ["among", "number"] (sp_law_with K) := by
  refine T.F_law_with.ok sc_law_with (fun vs H Q E h => ?_) (fun cdv A outer s H vs Q E hr h => ?_)
  · obtain ⟨t, q, x, y, rfl, _⟩ := h
    rfl
  obtain ⟨t, q, xs, y, rfl, ⟨ps, hT, hP⟩, hy, bx, b_y, hl, k⟩ := h
  have el := Paired.length hP
  refine ⟨_, (pss_cons (ps_setLc (i := 2) (own := [("one", 4)]) (g := gName 4) (by rfl) sc_law_with.nd rfl rfl (sw_true rfl rfl rfl (by decide +kernel)) (pi_tup (pv 0)) (blkOk_by (own := [("one", 4)]) (N := ["among", "number", "lower", "higher", "one"]) (sc := defScope s_law_with) (by decide +kernel)) (fun _ _ _ _ _ => (pg_name (i := 4) sc_law_with.nd rfl (Or.inl rfl))) (fun _ _ _ _ _ => pts_one (pt_val (pe_call ((ok_law_less T).mono (by decide)) hr (by rfl) T.m_law_less T.F_law_less.kp T.b_law_less .nil pass0 (pa_cons (pv 4) (pa_cons (pv 1) pa_nil))))) (fun _ _ _ _ _ => (pv 4)))
      (pss_cons (ps_setLc (i := 3) (own := [("one", 4)]) (g := gName 4) (by rfl) sc_law_with.nd rfl rfl (sw_true rfl rfl rfl (by decide +kernel)) (pi_tup (pv 0)) (blkOk_by (own := [("one", 4)]) (N := ["among", "number", "lower", "higher", "one"]) (sc := defScope s_law_with) (by decide +kernel)) (fun _ _ _ _ _ => (pg_name (i := 4) sc_law_with.nd rfl (Or.inl rfl))) (fun _ _ _ _ _ => pts_one (pt_val (pe_call ((ok_law_less T).mono (by decide)) hr (by rfl) T.m_law_less T.F_law_less.kp T.b_law_less .nil pass0 (pa_cons (pv 1) (pa_cons (pv 4) pa_nil))))) (fun _ _ _ _ _ => (pv 4)))
      (pss_one (ps_ret (pe_callTy call_tuple_of (by rfl) T.z_tuple (by decide +kernel) (pa_cons (pe_op op_cat (pe_op op_cat (pv 2) (pe_lst (pa_cons (pv 1) pa_nil))) (pv 3)) pa_nil)))))), ?_⟩
  refine ⟨_, rfl, t, rfl, ⟨_, hT⟩, fun D hD => ?_⟩
  have sD : ∀ o, L2.Same H (upd H D o) := fun o => same_upd hD
  refine lc_tup (xs := ps.map V.ref) (fun i H' => H' = upd H D (.lst ((selA (fun z => decide (lt2 z y)) (ps.take i) (xs.take i)).map V.ref))) rfl ?_ ?_ ?_
  · rintro i H' _ rfl
    exact My.Same.sqT (sD _) hT
  · rintro i x H' hx rfl
    obtain ⟨p, rfl, hp⟩ := ref_at hx
    obtain ⟨z, hz, nz⟩ := Paired.at hP hp
    refine ⟨rfl, ?_⟩
    (repeat (first
      | refine ⟨_, rfl, ?_⟩
      | refine ⟨_, _, rfl, rfl, ?_⟩
      | refine Or.inl ⟨_, rfl, ?_⟩
      | refine Or.inr ⟨_, rfl, ?_⟩
      | refine ⟨Or.inl ⟨by decide, by decide⟩, ?_⟩
      | refine ⟨Or.inr ⟨by decide, by decide⟩, ?_⟩
      | refine ⟨⟨by decide, by decide⟩, ?_⟩
      | refine ⟨⟨by decide, by decide, by decide⟩, ?_⟩
      | refine ⟨by decide, ?_⟩
      | refine ⟨(by show (0 : Int) < _; decide), ?_⟩
      | refine ⟨rfl, ?_⟩
      | refine ⟨⟨_, rfl⟩, ?_⟩
      | refine ⟨_, rfl, rfl, trivial, ?_⟩
      | refine ⟨_, _, rfl, ?_⟩))
    refine ⟨p, q, z, y, rfl, Nm.same (sD _) nz, Nm.same (sD _) hy, bx z (List.mem_of_getElem? hz), b_y, ?_⟩
    (repeat (first
      | refine ⟨_, rfl, ?_⟩
      | refine ⟨_, _, rfl, rfl, ?_⟩
      | refine Or.inl ⟨_, rfl, ?_⟩
      | refine Or.inr ⟨_, rfl, ?_⟩
      | refine ⟨Or.inl ⟨by decide, by decide⟩, ?_⟩
      | refine ⟨Or.inr ⟨by decide, by decide⟩, ?_⟩
      | refine ⟨⟨by decide, by decide⟩, ?_⟩
      | refine ⟨⟨by decide, by decide, by decide⟩, ?_⟩
      | refine ⟨by decide, ?_⟩
      | refine ⟨(by show (0 : Int) < _; decide), ?_⟩
      | refine ⟨rfl, ?_⟩
      | refine ⟨⟨_, rfl⟩, ?_⟩
      | refine ⟨_, rfl, rfl, trivial, ?_⟩
      | refine ⟨_, _, rfl, ?_⟩))
    refine ite_dec (fun c => ?_) (fun c => ?_)
    · (repeat (first
      | refine ⟨_, rfl, ?_⟩
      | refine ⟨_, _, rfl, rfl, ?_⟩
      | refine Or.inl ⟨_, rfl, ?_⟩
      | refine Or.inr ⟨_, rfl, ?_⟩
      | refine ⟨Or.inl ⟨by decide, by decide⟩, ?_⟩
      | refine ⟨Or.inr ⟨by decide, by decide⟩, ?_⟩
      | refine ⟨⟨by decide, by decide⟩, ?_⟩
      | refine ⟨⟨by decide, by decide, by decide⟩, ?_⟩
      | refine ⟨by decide, ?_⟩
      | refine ⟨(by show (0 : Int) < _; decide), ?_⟩
      | refine ⟨rfl, ?_⟩
      | refine ⟨⟨_, rfl⟩, ?_⟩
      | refine ⟨_, rfl, rfl, trivial, ?_⟩
      | refine ⟨_, _, rfl, ?_⟩))
      refine ⟨_, upd_same, smallL (by rw [List.length_map]; have := selA_le (fun z => decide (lt2 z y)) (ps.take i) (xs.take i); rw [List.length_take] at this; omega), ?_⟩
      rw [upd_upd, selA_step _ hp hz, if_pos (decide_eq_true c), List.map_append]
      rfl
    · show upd H D _ = upd H D _
      rw [selA_step _ hp hz, if_neg (fun q => c (of_decide_eq_true q)), List.append_nil]
  rintro _ rfl
  rw [List.length_map, selA_all _ rfl el.symm]
  have pl := selA_paired (fun z => decide (lt2 z y)) hP
  have ll := selA_le (fun z => decide (lt2 z y)) ps xs
  generalize hL : selA (fun z => decide (lt2 z y)) ps xs = lo at *
  generalize hH1 : upd H D (.lst (lo.map V.ref)) = H1
  have s1 : L2.Same H H1 := by rw [← hH1]; exact sD _
  have eD : H1 D = some (.lst (lo.map V.ref)) := by rw [← hH1]; exact upd_same
  have hT1 := My.Same.sqT s1 hT
  refine ⟨_, rfl, t, rfl, ⟨_, hT1⟩, fun D2 hD2 => ?_⟩
  have sD2 : ∀ o, L2.Same H1 (upd H1 D2 o) := fun o => same_upd hD2
  refine lc_tup (xs := ps.map V.ref) (fun i H' => H' = upd H1 D2 (.lst ((selA (fun z => decide (lt2 y z)) (ps.take i) (xs.take i)).map V.ref))) rfl ?_ ?_ ?_
  · rintro i H' _ rfl
    exact My.Same.sqT (sD2 _) hT1
  · rintro i x H' hx rfl
    obtain ⟨p, rfl, hp⟩ := ref_at hx
    obtain ⟨z, hz, nz⟩ := Paired.at hP hp
    refine ⟨rfl, ?_⟩
    (repeat (first
      | refine ⟨_, rfl, ?_⟩
      | refine ⟨_, _, rfl, rfl, ?_⟩
      | refine Or.inl ⟨_, rfl, ?_⟩
      | refine Or.inr ⟨_, rfl, ?_⟩
      | refine ⟨Or.inl ⟨by decide, by decide⟩, ?_⟩
      | refine ⟨Or.inr ⟨by decide, by decide⟩, ?_⟩
      | refine ⟨⟨by decide, by decide⟩, ?_⟩
      | refine ⟨⟨by decide, by decide, by decide⟩, ?_⟩
      | refine ⟨by decide, ?_⟩
      | refine ⟨(by show (0 : Int) < _; decide), ?_⟩
      | refine ⟨rfl, ?_⟩
      | refine ⟨⟨_, rfl⟩, ?_⟩
      | refine ⟨_, rfl, rfl, trivial, ?_⟩
      | refine ⟨_, _, rfl, ?_⟩))
    refine ⟨q, p, y, z, rfl, Nm.same (sD2 _) (Nm.same s1 hy), Nm.same (sD2 _) (Nm.same s1 nz), b_y, bx z (List.mem_of_getElem? hz), ?_⟩
    (repeat (first
      | refine ⟨_, rfl, ?_⟩
      | refine ⟨_, _, rfl, rfl, ?_⟩
      | refine Or.inl ⟨_, rfl, ?_⟩
      | refine Or.inr ⟨_, rfl, ?_⟩
      | refine ⟨Or.inl ⟨by decide, by decide⟩, ?_⟩
      | refine ⟨Or.inr ⟨by decide, by decide⟩, ?_⟩
      | refine ⟨⟨by decide, by decide⟩, ?_⟩
      | refine ⟨⟨by decide, by decide, by decide⟩, ?_⟩
      | refine ⟨by decide, ?_⟩
      | refine ⟨(by show (0 : Int) < _; decide), ?_⟩
      | refine ⟨rfl, ?_⟩
      | refine ⟨⟨_, rfl⟩, ?_⟩
      | refine ⟨_, rfl, rfl, trivial, ?_⟩
      | refine ⟨_, _, rfl, ?_⟩))
    refine ite_dec (fun c => ?_) (fun c => ?_)
    · (repeat (first
      | refine ⟨_, rfl, ?_⟩
      | refine ⟨_, _, rfl, rfl, ?_⟩
      | refine Or.inl ⟨_, rfl, ?_⟩
      | refine Or.inr ⟨_, rfl, ?_⟩
      | refine ⟨Or.inl ⟨by decide, by decide⟩, ?_⟩
      | refine ⟨Or.inr ⟨by decide, by decide⟩, ?_⟩
      | refine ⟨⟨by decide, by decide⟩, ?_⟩
      | refine ⟨⟨by decide, by decide, by decide⟩, ?_⟩
      | refine ⟨by decide, ?_⟩
      | refine ⟨(by show (0 : Int) < _; decide), ?_⟩
      | refine ⟨rfl, ?_⟩
      | refine ⟨⟨_, rfl⟩, ?_⟩
      | refine ⟨_, rfl, rfl, trivial, ?_⟩
      | refine ⟨_, _, rfl, ?_⟩))
      refine ⟨_, upd_same, smallL (by rw [List.length_map]; have := selA_le (fun z => decide (lt2 y z)) (ps.take i) (xs.take i); rw [List.length_take] at this; omega), ?_⟩
      rw [upd_upd, selA_step _ hp hz, if_pos (decide_eq_true c), List.map_append]
      rfl
    · show upd H1 D2 _ = upd H1 D2 _
      rw [selA_step _ hp hz, if_neg (fun q => c (of_decide_eq_true q)), List.append_nil]
  rintro _ rfl
  rw [List.length_map, selA_all _ rfl el.symm]
  have ph := selA_paired (fun z => decide (lt2 y z)) hP
  have lh := selA_le (fun z => decide (lt2 y z)) ps xs
  generalize hL2 : selA (fun z => decide (lt2 y z)) ps xs = hi at *
  generalize hH2 : upd H1 D2 (.lst (hi.map V.ref)) = H2
  have s2 : L2.Same H1 H2 := by rw [← hH2]; exact sD2 _
  have eD2 : H2 D2 = some (.lst (hi.map V.ref)) := by rw [← hH2]; exact upd_same
  (repeat (first
      | refine ⟨_, rfl, ?_⟩
      | refine ⟨_, _, rfl, rfl, ?_⟩
      | refine Or.inl ⟨_, rfl, ?_⟩
      | refine Or.inr ⟨_, rfl, ?_⟩
      | refine ⟨Or.inl ⟨by decide, by decide⟩, ?_⟩
      | refine ⟨Or.inr ⟨by decide, by decide⟩, ?_⟩
      | refine ⟨⟨by decide, by decide⟩, ?_⟩
      | refine ⟨⟨by decide, by decide, by decide⟩, ?_⟩
      | refine ⟨by decide, ?_⟩
      | refine ⟨(by show (0 : Int) < _; decide), ?_⟩
      | refine ⟨rfl, ?_⟩
      | refine ⟨⟨_, rfl⟩, ?_⟩
      | refine ⟨_, rfl, rfl, trivial, ?_⟩
      | refine ⟨_, _, rfl, ?_⟩))
  refine ⟨by show 1 ≤ sizeLine; decide, fun p3 h3 => ?_⟩
  refine ⟨D, p3, _, _, rfl, rfl, same_upd h3 _ _ (s2 _ _ eD), upd_same, small (by rw [List.length_map]; show lo.length + 1 ≤ _; omega), fun p4 h4 => ?_⟩
  refine ⟨_, rfl, p4, D2, _, _, rfl, rfl, upd_same, same_upd h4 _ _ (same_upd h3 _ _ eD2), small (by rw [List.length_append, List.length_map, List.length_map]; show lo.length + 1 + hi.length ≤ _; omega), fun p5 h5 => ?_⟩
  refine ⟨p5, _, rfl, .inl ⟨SqL.of upd_same, fun p6 h6 => ?_⟩⟩
  have sf := ((((s1.trans s2).trans (same_upd (o := .lst [.ref q]) h3)).trans (same_upd (o := .lst (lo.map V.ref ++ [.ref q])) h4)).trans (same_upd (o := .lst (lo.map V.ref ++ [.ref q] ++ hi.map V.ref)) h5)).trans (same_upd (o := .tup (lo.map V.ref ++ [.ref q] ++ hi.map V.ref)) h6)
  refine k p6 _ sf ⟨lo ++ [q] ++ hi, ?_, ?_⟩
  · rw [List.map_append, List.map_append]
    exact SqT.of upd_same
  · exact Paired.mono (fun _ _ r => Nm.same sf r) (Paired.app (Paired.app pl (.cons hy .nil)) ph)
end
end My

namespace My
open PySem PySem.Spec PyProof.Rows L2
theorem u65 {k : Nat} {A : Around} (r : Room k A) : A.units + 65 < cLine := by have := r.un; omega
/-! ### in, a tuple of data -/
def rInDT (K : PySem.W.Frag) : R2 := fun x y H Q => ∃ d ds, Dp K H x d ∧ Dp K H y (.tuple ds) ∧ SeqAt.shaped d = true ∧ SeqAt.shaped (.tuple ds) = true ∧ Q (.bl (ds.any fun z => PyData.eqv z d)) H
theorem op_inDT {X : Cx} (hu : X.A.units + 65 < cLine) : OpR X (compareOp .In) (rInDT X.K) := by
  intro pins s σ H x y v u Q I rx ry h
  obtain ⟨d, ds, hd, he, sd, se, q⟩ := h
  obtain ⟨as, r1⟩ := Dp.reads I d x v hd rx
  obtain ⟨bs, r2⟩ := Dp.reads I (.tuple ds) y u he ry
  exact SeqAt.in_tuple_reads r2 r1 (SeqAt.canLay_of_shaped se) (SeqAt.canLay_of_shaped sd) (room_in_shaped sd hu) ⟨.bl _, H, I, rfl, q⟩
def qD (z : Q2) : PyData := .tuple [.int z.1, .int z.2]
theorem qD_lay (z : Q2) : (qD z).canLay0 = true := by simp [qD, PyData.canLay0, PyData.canLayAll0]
theorem qD_depth (z : Q2) : (qD z).depth = 1 := by simp [qD, PyData.depth, PyData.depthAll]
theorem qDs_lay : ∀ zs : List Q2, PyData.canLayAll0 (zs.map qD) = true
  | [] => by simp [PyData.canLayAll0]
  | z :: zs => by
    rw [List.map_cons]
    simp only [PyData.canLayAll0]
    rw [qD_lay, qDs_lay zs]
    rfl
theorem qDs_depth : ∀ zs : List Q2, PyData.depthAll (zs.map qD) ≤ 1
  | [] => by simp [PyData.depthAll]
  | z :: zs => by
    rw [List.map_cons]
    simp only [PyData.depthAll]
    rw [qD_depth]
    have := qDs_depth zs
    omega
theorem qD_shaped (z : Q2) : SeqAt.shaped (qD z) = true := by
  have h := qD_depth z
  show ((qD z).canLay0 && decide ((qD z).depth ≤ 64)) = true
  rw [Bool.and_eq_true]
  exact ⟨qD_lay z, decide_eq_true (by omega)⟩
theorem qDs_shaped (zs : List Q2) : SeqAt.shaped (.tuple (zs.map qD)) = true := by
  have h1 := qDs_depth zs
  have h2 : PyData.depth (.tuple (zs.map qD)) ≤ 64 := by
    simp only [PyData.depth]
    omega
  show (PyData.canLay0 (.tuple (zs.map qD)) && decide (PyData.depth (.tuple (zs.map qD)) ≤ 64)) = true
  rw [Bool.and_eq_true]
  exact ⟨by simp only [PyData.canLay0]; exact qDs_lay zs, decide_eq_true h2⟩
theorem qD_eqv (z w : Q2) : PyData.eqv (qD z) (qD w) = decide (z = w) := by
  obtain ⟨a, b⟩ := z
  obtain ⟨a', b'⟩ := w
  have e : PyData.eqv (qD (a, b)) (qD (a', b')) = ((a == a') && ((b == b') && true)) := by simp only [qD, PyData.eqv, PyData.eqvAll]
  rw [e]
  by_cases h1 : a = a' <;> by_cases h2 : b = b' <;> simp [h1, h2]
theorem any_qD (xs : List Q2) (y : Q2) : ((xs.map qD).any fun z => PyData.eqv z (qD y)) = decide (y ∈ xs) := by
  induction xs with
  | nil => rfl
  | cons x r ih =>
    rw [List.map_cons, List.any_cons, ih, qD_eqv]
    by_cases h : x = y
    · subst h
      simp
    · have h' : ¬ y = x := fun e => h e.symm
      simp [h, h']
section
variable {P : Program} {w : World} {K : PySem.W.Frag} {mg : Str → Option Value} {base : Heap}
theorem Paired.dps {H : Hp} : ∀ {ps : List Addr} {xs : List Q2}, Paired (Nm K H) ps xs → DpAll K H (ps.map V.ref) (xs.map qD)
  | _, _, .nil => .nil
  | _, _, .cons r t => .cons (Nm.dp r) (Paired.dps t)
theorem Am.dp {H : Hp} {t : Addr} {xs : List Q2} (h : Am K H t xs) : Dp K H (.ref t) (.tuple (xs.map qD)) := by
  obtain ⟨ps, h1, h2⟩ := h
  exact .tup h1 (Paired.dps h2)
end
end My

namespace My
open PySem PySem.Spec PyProof.Rows L2
section
variable {P : Program} {w : World} {K : PySem.W.Frag} {mg : Str → Option Value} {base : Heap}
/-! ### position, by halves -/
theorem pos2_cut {xs : List Q2} {y : Q2} {r : Nat} (h : r ≤ xs.length) (h1 : ∀ j (h : j < xs.length), j < r → lt2 xs[j] y) (h2 : ∀ j (h : j < xs.length), r ≤ j → ¬ lt2 xs[j] y) : pos2 y xs = if r < xs.length ∧ ¬ lt2 y (xs.getD r (0, 1)) then 2 * r + 1 else 2 * r := by
  unfold pos2
  rw [rk_cut h h1 h2]
def sp_pos (K : PySem.W.Frag) : Sp := fun vs H Q _ => ∃ (q t : Addr) (y : Q2) (xs : List Q2), vs = [.ref q, .ref t] ∧ Am K H t xs ∧ Nm K H q y ∧ BdL 1000 xs ∧ bd2 1000 y ∧ Srt xs ∧ ok2 y ∧ xs.length ≤ 1000 ∧ Q (.int (pos2 y xs : Nat)) H
theorem ok_position (T : Top K mg w) : FnOk P w K mg base CX0 2 T.a_position T.d_position ["number", "among"] (sp_pos K) := by
  refine T.F_position.ok sc_position (fun vs H Q E h => ?_) (fun cdv A outer s H vs Q E hr h => ?_)
  · obtain ⟨t, q, x, y, rfl, _⟩ := h
    rfl
  obtain ⟨q, t, y, xs, rfl, hA, hy, bx, b_y, sx, oy, hl, k⟩ := h
  have hA' := hA
  obtain ⟨ps, hT, hP⟩ := hA'
  have el := Paired.length hP
  refine ⟨_, (pss_cons (ps_set (i := 2) sc_position.nd rfl (Or.inl rfl) pe_int)
      (pss_cons (ps_set (i := 3) sc_position.nd rfl (Or.inl rfl) (pe_callB call_len_seq (by rfl) T.z_len (by decide +kernel) (pa_cons (pv 1) pa_nil)))
      (pss_cons (ps_while PassesOwn.never (pt_cmpR op_lt (pv 2) (pv 3) (nomark _))
        (pss_cons (ps_set (i := 4) sc_position.nd rfl (Or.inl rfl) (pe_op op_fdiv (pe_op op_add (pv 2) (pv 3)) pe_int))
      (pss_one (ps_if (pt_val (pe_call ((ok_less T).mono (by decide)) hr (by rfl) T.m_less T.F_less.kp T.b_less .nil pass0 (pa_cons (pe_ix ix_tup (pv 1) (pv 4) (fun _ _ => rfl)) (pa_cons (pv 0) pa_nil))))
        (pss_one (ps_set (i := 2) sc_position.nd rfl (Or.inl rfl) (pe_op op_add (pv 4) pe_int)))
        (pss_one (ps_set (i := 3) sc_position.nd rfl (Or.inl rfl) (pv 4)))))))
      (pss_cons (ps_if (PW.pt (pw_and (pt_cmpR op_lt (pv 2) (pe_callB call_len_seq (by rfl) T.z_len (by decide +kernel) (pa_cons (pv 1) pa_nil)) (nomark _)) (pw_and1 (pt_not (pt_val (pe_call ((ok_less T).mono (by decide)) hr (by rfl) T.m_less T.F_less.kp T.b_less .nil pass0 (pa_cons (pv 0) (pa_cons (pe_ix ix_tup (pv 1) (pv 2) (fun _ _ => rfl)) pa_nil))))))))
        (pss_one (ps_ret (pe_op op_add (pe_op op_mul pe_int (pv 2)) pe_int)))
        pss_nil)
      (pss_one (ps_ret (pe_op op_mul pe_int (pv 2)))))))), ?_⟩
  (repeat (first
      | refine ⟨_, rfl, ?_⟩
      | refine ⟨_, _, rfl, rfl, ?_⟩
      | refine Or.inl ⟨_, rfl, ?_⟩
      | refine Or.inr ⟨_, rfl, ?_⟩
      | refine ⟨Or.inl ⟨by decide, by decide⟩, ?_⟩
      | refine ⟨Or.inr ⟨by decide, by decide⟩, ?_⟩
      | refine ⟨⟨by decide, by decide⟩, ?_⟩
      | refine ⟨⟨by decide, by decide, by decide⟩, ?_⟩
      | refine ⟨by decide, ?_⟩
      | refine ⟨(by show (0 : Int) < _; decide), ?_⟩
      | refine ⟨rfl, ?_⟩
      | refine ⟨⟨_, rfl⟩, ?_⟩
      | refine ⟨_, rfl, rfl, trivial, ?_⟩
      | refine ⟨_, _, rfl, ?_⟩))
  refine ⟨t, _, rfl, .inr hT, ?_⟩
  (repeat (first
      | refine ⟨_, rfl, ?_⟩
      | refine ⟨_, _, rfl, rfl, ?_⟩
      | refine Or.inl ⟨_, rfl, ?_⟩
      | refine Or.inr ⟨_, rfl, ?_⟩
      | refine ⟨Or.inl ⟨by decide, by decide⟩, ?_⟩
      | refine ⟨Or.inr ⟨by decide, by decide⟩, ?_⟩
      | refine ⟨⟨by decide, by decide⟩, ?_⟩
      | refine ⟨⟨by decide, by decide, by decide⟩, ?_⟩
      | refine ⟨by decide, ?_⟩
      | refine ⟨(by show (0 : Int) < _; decide), ?_⟩
      | refine ⟨rfl, ?_⟩
      | refine ⟨⟨_, rfl⟩, ?_⟩
      | refine ⟨_, rfl, rfl, trivial, ?_⟩
      | refine ⟨_, _, rfl, ?_⟩))
  rw [List.length_map, el]
  have sx' := fun (i j : Nat) (hi : i < xs.length) (hj : j < xs.length) (h : i < j) => sx.lt hi hj h
  have inv0 : (∀ j (h : j < xs.length), j < 0 → lt2 xs[j] y) ∧ (∀ j (h : j < xs.length), xs.length ≤ j → ¬ lt2 xs[j] y) := ⟨fun j _ h => absurd h (Nat.not_lt_zero _), fun j h h2 => by omega⟩
  refine ⟨fun m σ H' => ∃ (r e : Nat) (y4 : Option V), σ = [some (.ref q), some (.ref t), some (.int (r : Int)), some (.int (e : Int)), y4] ∧ H' = H ∧ r ≤ e ∧ e ≤ xs.length ∧ m = e - r ∧ (∀ j (h : j < xs.length), j < r → lt2 xs[j] y) ∧ (∀ j (h : j < xs.length), e ≤ j → ¬ lt2 xs[j] y), ⟨_, 0, xs.length, none, rfl, rfl, Nat.zero_le _, Nat.le_refl _, rfl, inv0.1, inv0.2⟩, ?_⟩
  rintro m σ H' ⟨r, e, y4, rfl, rfl, h1, h2, rfl, hlo, hhi⟩
  (repeat (first
      | refine ⟨_, rfl, ?_⟩
      | refine ⟨_, _, rfl, rfl, ?_⟩
      | refine Or.inl ⟨_, rfl, ?_⟩
      | refine Or.inr ⟨_, rfl, ?_⟩
      | refine ⟨Or.inl ⟨by decide, by decide⟩, ?_⟩
      | refine ⟨Or.inr ⟨by decide, by decide⟩, ?_⟩
      | refine ⟨⟨by decide, by decide⟩, ?_⟩
      | refine ⟨⟨by decide, by decide, by decide⟩, ?_⟩
      | refine ⟨by decide, ?_⟩
      | refine ⟨(by show (0 : Int) < _; decide), ?_⟩
      | refine ⟨rfl, ?_⟩
      | refine ⟨⟨_, rfl⟩, ?_⟩
      | refine ⟨_, rfl, rfl, trivial, ?_⟩
      | refine ⟨_, _, rfl, ?_⟩))
  refine ite_dec (fun c => ?_) (fun c => ?_)
  · have c' : r < e := by omega
    have em : ((r : Int) + (e : Int)) / 2 = (((r + e) / 2 : Nat) : Int) := by omega
    have hm : (r + e) / 2 < xs.length := by omega
    obtain ⟨p, hp, np⟩ := Paired.at' hP (List.getElem?_eq_getElem hm)
    refine ⟨fun σ' H'' => ∃ m', m' < e - r ∧ ∃ (r e : Nat) (y4 : Option V), σ' = [some (.ref q), some (.ref t), some (.int (r : Int)), some (.int (e : Int)), y4] ∧ H'' = H' ∧ r ≤ e ∧ e ≤ xs.length ∧ m' = e - r ∧ (∀ j (h : j < xs.length), j < r → lt2 xs[j] y) ∧ (∀ j (h : j < xs.length), e ≤ j → ¬ lt2 xs[j] y), fun σ' H' h => h, ?_⟩
    (repeat (first
      | refine ⟨_, rfl, ?_⟩
      | refine ⟨_, _, rfl, rfl, ?_⟩
      | refine Or.inl ⟨_, rfl, ?_⟩
      | refine Or.inr ⟨_, rfl, ?_⟩
      | refine ⟨Or.inl ⟨by decide, by decide⟩, ?_⟩
      | refine ⟨Or.inr ⟨by decide, by decide⟩, ?_⟩
      | refine ⟨⟨by decide, by decide⟩, ?_⟩
      | refine ⟨⟨by decide, by decide, by decide⟩, ?_⟩
      | refine ⟨by decide, ?_⟩
      | refine ⟨(by show (0 : Int) < _; decide), ?_⟩
      | refine ⟨rfl, ?_⟩
      | refine ⟨⟨_, rfl⟩, ?_⟩
      | refine ⟨_, rfl, rfl, trivial, ?_⟩
      | refine ⟨_, _, rfl, ?_⟩))
    refine ⟨t, _, _, _, rfl, rfl, hT, by show atI _ (((r : Int) + (e : Int)) / 2) = _; rw [em]; exact atI_nat (j := (r + e) / 2) (by rw [List.getElem?_map, hp]; rfl), ?_⟩
    (repeat (first
      | refine ⟨_, rfl, ?_⟩
      | refine ⟨_, _, rfl, rfl, ?_⟩
      | refine Or.inl ⟨_, rfl, ?_⟩
      | refine Or.inr ⟨_, rfl, ?_⟩
      | refine ⟨Or.inl ⟨by decide, by decide⟩, ?_⟩
      | refine ⟨Or.inr ⟨by decide, by decide⟩, ?_⟩
      | refine ⟨⟨by decide, by decide⟩, ?_⟩
      | refine ⟨⟨by decide, by decide, by decide⟩, ?_⟩
      | refine ⟨by decide, ?_⟩
      | refine ⟨(by show (0 : Int) < _; decide), ?_⟩
      | refine ⟨rfl, ?_⟩
      | refine ⟨⟨_, rfl⟩, ?_⟩
      | refine ⟨_, rfl, rfl, trivial, ?_⟩
      | refine ⟨_, _, rfl, ?_⟩))
    refine ⟨p, q, xs[(r + e) / 2], y, rfl, np, hy, bx _ (List.getElem_mem hm), b_y, ?_⟩
    (repeat (first
      | refine ⟨_, rfl, ?_⟩
      | refine ⟨_, _, rfl, rfl, ?_⟩
      | refine Or.inl ⟨_, rfl, ?_⟩
      | refine Or.inr ⟨_, rfl, ?_⟩
      | refine ⟨Or.inl ⟨by decide, by decide⟩, ?_⟩
      | refine ⟨Or.inr ⟨by decide, by decide⟩, ?_⟩
      | refine ⟨⟨by decide, by decide⟩, ?_⟩
      | refine ⟨⟨by decide, by decide, by decide⟩, ?_⟩
      | refine ⟨by decide, ?_⟩
      | refine ⟨(by show (0 : Int) < _; decide), ?_⟩
      | refine ⟨rfl, ?_⟩
      | refine ⟨⟨_, rfl⟩, ?_⟩
      | refine ⟨_, rfl, rfl, trivial, ?_⟩
      | refine ⟨_, _, rfl, ?_⟩))
    refine ite_dec (fun c2 => ?_) (fun c2 => ?_)
    · (repeat (first
      | refine ⟨_, rfl, ?_⟩
      | refine ⟨_, _, rfl, rfl, ?_⟩
      | refine Or.inl ⟨_, rfl, ?_⟩
      | refine Or.inr ⟨_, rfl, ?_⟩
      | refine ⟨Or.inl ⟨by decide, by decide⟩, ?_⟩
      | refine ⟨Or.inr ⟨by decide, by decide⟩, ?_⟩
      | refine ⟨⟨by decide, by decide⟩, ?_⟩
      | refine ⟨⟨by decide, by decide, by decide⟩, ?_⟩
      | refine ⟨by decide, ?_⟩
      | refine ⟨(by show (0 : Int) < _; decide), ?_⟩
      | refine ⟨rfl, ?_⟩
      | refine ⟨⟨_, rfl⟩, ?_⟩
      | refine ⟨_, rfl, rfl, trivial, ?_⟩
      | refine ⟨_, _, rfl, ?_⟩))
      rw [show (fun i j : Int => V.int (i / j)) ((r : Int) + (e : Int)) 2 = V.int (((r + e) / 2 : Nat) : Int) from congrArg V.int em]
      refine ⟨e - ((r + e) / 2 + 1), by omega, (r + e) / 2 + 1, e, _, rfl, rfl, by omega, h2, rfl, fun j hj hlt => ?_, hhi⟩
      by_cases ej : j = (r + e) / 2
      · subst ej; exact c2
      · exact lt2_trans (sx.ok hj).1 (sx.ok hm).1 oy.1 (sx' j _ hj hm (by omega)) c2
    · (repeat (first
      | refine ⟨_, rfl, ?_⟩
      | refine ⟨_, _, rfl, rfl, ?_⟩
      | refine Or.inl ⟨_, rfl, ?_⟩
      | refine Or.inr ⟨_, rfl, ?_⟩
      | refine ⟨Or.inl ⟨by decide, by decide⟩, ?_⟩
      | refine ⟨Or.inr ⟨by decide, by decide⟩, ?_⟩
      | refine ⟨⟨by decide, by decide⟩, ?_⟩
      | refine ⟨⟨by decide, by decide, by decide⟩, ?_⟩
      | refine ⟨by decide, ?_⟩
      | refine ⟨(by show (0 : Int) < _; decide), ?_⟩
      | refine ⟨rfl, ?_⟩
      | refine ⟨⟨_, rfl⟩, ?_⟩
      | refine ⟨_, rfl, rfl, trivial, ?_⟩
      | refine ⟨_, _, rfl, ?_⟩))
      refine ⟨(r + e) / 2 - r, by omega, r, (r + e) / 2, _, rfl, rfl, by omega, by omega, rfl, hlo, fun j hj hle hlt => ?_⟩
      by_cases ej : j = (r + e) / 2
      · subst ej; exact c2 hlt
      · exact c2 (lt2_trans (sx.ok hm).1 (sx.ok hj).1 oy.1 (sx' _ j hm hj (by omega)) hlt)
  · have e0 : e = r := by omega
    subst e0
    have ep := pos2_cut (y := y) h2 hlo hhi
    rw [ep] at k
    (repeat (first
      | refine ⟨_, rfl, ?_⟩
      | refine ⟨_, _, rfl, rfl, ?_⟩
      | refine Or.inl ⟨_, rfl, ?_⟩
      | refine Or.inr ⟨_, rfl, ?_⟩
      | refine ⟨Or.inl ⟨by decide, by decide⟩, ?_⟩
      | refine ⟨Or.inr ⟨by decide, by decide⟩, ?_⟩
      | refine ⟨⟨by decide, by decide⟩, ?_⟩
      | refine ⟨⟨by decide, by decide, by decide⟩, ?_⟩
      | refine ⟨by decide, ?_⟩
      | refine ⟨(by show (0 : Int) < _; decide), ?_⟩
      | refine ⟨rfl, ?_⟩
      | refine ⟨⟨_, rfl⟩, ?_⟩
      | refine ⟨_, rfl, rfl, trivial, ?_⟩
      | refine ⟨_, _, rfl, ?_⟩))
    refine ⟨t, _, rfl, .inr hT, ?_⟩
    (repeat (first
      | refine ⟨_, rfl, ?_⟩
      | refine ⟨_, _, rfl, rfl, ?_⟩
      | refine Or.inl ⟨_, rfl, ?_⟩
      | refine Or.inr ⟨_, rfl, ?_⟩
      | refine ⟨Or.inl ⟨by decide, by decide⟩, ?_⟩
      | refine ⟨Or.inr ⟨by decide, by decide⟩, ?_⟩
      | refine ⟨⟨by decide, by decide⟩, ?_⟩
      | refine ⟨⟨by decide, by decide, by decide⟩, ?_⟩
      | refine ⟨by decide, ?_⟩
      | refine ⟨(by show (0 : Int) < _; decide), ?_⟩
      | refine ⟨rfl, ?_⟩
      | refine ⟨⟨_, rfl⟩, ?_⟩
      | refine ⟨_, rfl, rfl, trivial, ?_⟩
      | refine ⟨_, _, rfl, ?_⟩))
    rw [List.length_map, el]
    refine ite_dec (fun c3 => ?_) (fun c3 => ?_)
    · have hi : e < xs.length := by omega
      obtain ⟨p, hp, np⟩ := Paired.at' hP (List.getElem?_eq_getElem hi)
      (repeat (first
      | refine ⟨_, rfl, ?_⟩
      | refine ⟨_, _, rfl, rfl, ?_⟩
      | refine Or.inl ⟨_, rfl, ?_⟩
      | refine Or.inr ⟨_, rfl, ?_⟩
      | refine ⟨Or.inl ⟨by decide, by decide⟩, ?_⟩
      | refine ⟨Or.inr ⟨by decide, by decide⟩, ?_⟩
      | refine ⟨⟨by decide, by decide⟩, ?_⟩
      | refine ⟨⟨by decide, by decide, by decide⟩, ?_⟩
      | refine ⟨by decide, ?_⟩
      | refine ⟨(by show (0 : Int) < _; decide), ?_⟩
      | refine ⟨rfl, ?_⟩
      | refine ⟨⟨_, rfl⟩, ?_⟩
      | refine ⟨_, rfl, rfl, trivial, ?_⟩
      | refine ⟨_, _, rfl, ?_⟩))
      refine ⟨t, _, _, _, rfl, rfl, hT, atI_nat (j := e) (by rw [List.getElem?_map, hp]; rfl), ?_⟩
      (repeat (first
      | refine ⟨_, rfl, ?_⟩
      | refine ⟨_, _, rfl, rfl, ?_⟩
      | refine Or.inl ⟨_, rfl, ?_⟩
      | refine Or.inr ⟨_, rfl, ?_⟩
      | refine ⟨Or.inl ⟨by decide, by decide⟩, ?_⟩
      | refine ⟨Or.inr ⟨by decide, by decide⟩, ?_⟩
      | refine ⟨⟨by decide, by decide⟩, ?_⟩
      | refine ⟨⟨by decide, by decide, by decide⟩, ?_⟩
      | refine ⟨by decide, ?_⟩
      | refine ⟨(by show (0 : Int) < _; decide), ?_⟩
      | refine ⟨rfl, ?_⟩
      | refine ⟨⟨_, rfl⟩, ?_⟩
      | refine ⟨_, rfl, rfl, trivial, ?_⟩
      | refine ⟨_, _, rfl, ?_⟩))
      refine ⟨q, p, y, xs[e], rfl, hy, np, b_y, bx _ (List.getElem_mem hi), ?_⟩
      (repeat (first
      | refine ⟨_, rfl, ?_⟩
      | refine ⟨_, _, rfl, rfl, ?_⟩
      | refine Or.inl ⟨_, rfl, ?_⟩
      | refine Or.inr ⟨_, rfl, ?_⟩
      | refine ⟨Or.inl ⟨by decide, by decide⟩, ?_⟩
      | refine ⟨Or.inr ⟨by decide, by decide⟩, ?_⟩
      | refine ⟨⟨by decide, by decide⟩, ?_⟩
      | refine ⟨⟨by decide, by decide, by decide⟩, ?_⟩
      | refine ⟨by decide, ?_⟩
      | refine ⟨(by show (0 : Int) < _; decide), ?_⟩
      | refine ⟨rfl, ?_⟩
      | refine ⟨⟨_, rfl⟩, ?_⟩
      | refine ⟨_, rfl, rfl, trivial, ?_⟩
      | refine ⟨_, _, rfl, ?_⟩))
      refine ite_nb (fun c2 => ?_) (fun c2 => ?_)
      · (repeat (first
      | refine ⟨_, rfl, ?_⟩
      | refine ⟨_, _, rfl, rfl, ?_⟩
      | refine Or.inl ⟨_, rfl, ?_⟩
      | refine Or.inr ⟨_, rfl, ?_⟩
      | refine ⟨Or.inl ⟨by decide, by decide⟩, ?_⟩
      | refine ⟨Or.inr ⟨by decide, by decide⟩, ?_⟩
      | refine ⟨⟨by decide, by decide⟩, ?_⟩
      | refine ⟨⟨by decide, by decide, by decide⟩, ?_⟩
      | refine ⟨by decide, ?_⟩
      | refine ⟨(by show (0 : Int) < _; decide), ?_⟩
      | refine ⟨rfl, ?_⟩
      | refine ⟨⟨_, rfl⟩, ?_⟩
      | refine ⟨_, rfl, rfl, trivial, ?_⟩
      | refine ⟨_, _, rfl, ?_⟩))
        rw [if_pos ⟨hi, by rw [getD_at hi]; exact of_decide_eq_false c2⟩] at k
        exact k
      · (repeat (first
      | refine ⟨_, rfl, ?_⟩
      | refine ⟨_, _, rfl, rfl, ?_⟩
      | refine Or.inl ⟨_, rfl, ?_⟩
      | refine Or.inr ⟨_, rfl, ?_⟩
      | refine ⟨Or.inl ⟨by decide, by decide⟩, ?_⟩
      | refine ⟨Or.inr ⟨by decide, by decide⟩, ?_⟩
      | refine ⟨⟨by decide, by decide⟩, ?_⟩
      | refine ⟨⟨by decide, by decide, by decide⟩, ?_⟩
      | refine ⟨by decide, ?_⟩
      | refine ⟨(by show (0 : Int) < _; decide), ?_⟩
      | refine ⟨rfl, ?_⟩
      | refine ⟨⟨_, rfl⟩, ?_⟩
      | refine ⟨_, rfl, rfl, trivial, ?_⟩
      | refine ⟨_, _, rfl, ?_⟩))
        rw [if_neg (fun z => z.2 (by rw [getD_at hi]; exact of_decide_eq_true c2))] at k
        exact k
    · rw [if_neg (fun z => c3 (by omega))] at k
      (repeat (first
      | refine ⟨_, rfl, ?_⟩
      | refine ⟨_, _, rfl, rfl, ?_⟩
      | refine Or.inl ⟨_, rfl, ?_⟩
      | refine Or.inr ⟨_, rfl, ?_⟩
      | refine ⟨Or.inl ⟨by decide, by decide⟩, ?_⟩
      | refine ⟨Or.inr ⟨by decide, by decide⟩, ?_⟩
      | refine ⟨⟨by decide, by decide⟩, ?_⟩
      | refine ⟨⟨by decide, by decide, by decide⟩, ?_⟩
      | refine ⟨by decide, ?_⟩
      | refine ⟨(by show (0 : Int) < _; decide), ?_⟩
      | refine ⟨rfl, ?_⟩
      | refine ⟨⟨_, rfl⟩, ?_⟩
      | refine ⟨_, rfl, rfl, trivial, ?_⟩
      | refine ⟨_, _, rfl, ?_⟩))
      exact k
end
end My

namespace My
open PySem PySem.Spec PyProof.Rows L2
theorem srec {α : Type} {p : List α → Prop} (h0 : p []) (h1 : ∀ l a, p l → p (l ++ [a])) (l : List α) : p l := by
  have key : ∀ r : List α, p r.reverse := fun r => by
    induction r with
    | nil => exact h0
    | cons a r ih =>
      rw [List.reverse_cons]
      exact h1 _ _ ih
  have := key l.reverse
  rwa [List.reverse_reverse] at this
/-! ### questions and what they mean -/
abbrev O2 := Option Q2
abbrev Rec := Str × Q2
inductive Qn where
  | now | nothing | is (n : Str)
  | less (a b : Qn) | same (a b : Qn) | iff (a b c : Qn)
  | last (a : Qn) | first (a : Qn) | before (a : Qn)
  | great (k : Nat) (a : Qn) | least (k : Nat) (a : Qn) | times (k : Nat) (a : Qn) | circle (m k : Nat) (a : Qn)
  | since (a b : Qn) | among (a b : Qn)
/-- what a function of beginnings tells at each record -/
def pf {α β : Type} (f : List α → β) (l : List α) : List β := (List.range l.length).map fun k => f (l.take (k + 1))
section
variable {α β γ : Type}
theorem pf_len (f : List α → β) (l : List α) : (pf f l).length = l.length := by unfold pf; simp
theorem pf_nil (f : List α → β) : pf f [] = [] := rfl
theorem pf_get (f : List α → β) {l : List α} {k : Nat} (h : k < l.length) : (pf f l)[k]? = some (f (l.take (k + 1))) := by
  unfold pf
  rw [List.getElem?_map, List.getElem?_range h]
  rfl
theorem pf_ext {f : List α → β} {l : List α} {m : List β} (hl : m.length = l.length) (h : ∀ k, k < l.length → m[k]? = some (f (l.take (k + 1)))) : m = pf f l := by
  refine List.ext_getElem? fun k => ?_
  by_cases hk : k < l.length
  · rw [h k hk, pf_get f hk]
  · rw [List.getElem?_eq_none (by omega), List.getElem?_eq_none (by rw [pf_len]; omega)]
theorem pf_take (f : List α → β) (l : List α) (n : Nat) : (pf f l).take n = pf f (l.take n) := by
  refine pf_ext (by rw [List.length_take, List.length_take, pf_len]) fun k hk => ?_
  rw [List.length_take] at hk
  rw [List.getElem?_take, if_pos (by omega), pf_get f (by omega), List.take_take, Nat.min_eq_left (by omega)]
theorem pf_snoc (f : List α → β) (l : List α) (x : α) : pf f (l ++ [x]) = pf f l ++ [f (l ++ [x])] := by
  symm
  refine pf_ext (by rw [List.length_append, List.length_append, pf_len]; rfl) fun k hk => ?_
  rw [List.length_append, List.length_singleton] at hk
  by_cases h : k < l.length
  · rw [List.getElem?_append_left (by rw [pf_len]; exact h), pf_get f h, List.take_append_of_le_length (by omega)]
  · have e : k = l.length := by omega
    subst e
    rw [List.getElem?_append_right (by rw [pf_len]; exact Nat.le_refl _), pf_len, Nat.sub_self, List.take_of_length_le (by simp)]
    rfl
theorem pf_comp (F : List β → γ) (g : List α → β) (l : List α) : pf F (pf g l) = pf (fun r => F (pf g r)) l := by
  refine pf_ext (by rw [pf_len, pf_len]) fun k hk => ?_
  rw [pf_get F (by rw [pf_len]; exact hk), pf_take]
theorem zip_take' (l : List α) (m : List β) (n : Nat) : (l.zip m).take n = (l.take n).zip (m.take n) := by
  induction l generalizing m n with
  | nil => simp
  | cons a l ih =>
    cases m with
    | nil => simp
    | cons b m =>
      cases n with
      | zero => rfl
      | succ n => rw [List.zip_cons_cons, List.take_succ_cons, List.take_succ_cons, List.take_succ_cons, List.zip_cons_cons, ih]
theorem pf_zip (F : List (α × β) → γ) (g : List α → β) (l : List α) : pf F (l.zip (pf g l)) = pf (fun r => F (r.zip (pf g r))) l := by
  have hl : (l.zip (pf g l)).length = l.length := by rw [List.length_zip, pf_len, Nat.min_self]
  refine pf_ext (by rw [pf_len, hl]) fun k hk => ?_
  rw [pf_get F (by rw [hl]; exact hk), zip_take', pf_take]
theorem take_snoc {l : List α} {k : Nat} (h : k < l.length) : l.take (k + 1) = l.take k ++ [l[k]] := List.take_succ_eq_append_getElem h
end
def lastS (f a : O2) : O2 := if a.isSome then a else f
def firstS (f a : O2) : O2 := if f.isSome then f else a
def lastF (l : List O2) : O2 := l.foldl lastS none
def firstF (l : List O2) : O2 := l.foldl firstS none
def setS (s : List Q2) (a : O2) : List Q2 := match a with | none => s | some x => with2 s x
def setF (l : List O2) : List Q2 := l.foldl setS []
def greatF (k : Nat) (l : List O2) : O2 := if (setF l).length < k then none else (setF l)[(setF l).length - k]?
def leastF (k : Nat) (l : List O2) : O2 := if (setF l).length < k then none else (setF l)[k - 1]?
def cntF (l : List O2) : Nat := (l.filter Option.isSome).length
def sinceS (left : List Rec) (p : Rec × O2) : List Rec := if p.2.isSome then [] else left ++ [p.1]
def sinceF (l : List (Rec × O2)) : List Rec := l.foldl sinceS []
def amongF (l : List (Rec × O2)) : List Rec := (l.filter fun p => p.2.isSome).map (·.1)
def lessO : O2 → O2 → O2
  | some x, some y => if lt2 x y then some x else none
  | _, _ => none
def sameO : O2 → O2 → O2
  | some x, some y => if x = y then some x else none
  | _, _ => none
def numO (row : List Rec) : O2 := row.getLast?.map (·.2)
def mean : Qn → List Rec → O2
  | .now => fun row => numO row
  | .nothing => fun _ => none
  | .is n => fun row => row.getLast?.bind fun r => if r.1 = n then some r.2 else none
  | .less a b => fun row => lessO (mean a row) (mean b row)
  | .same a b => fun row => sameO (mean a row) (mean b row)
  | .iff a b c => fun row => if (mean a row).isSome then mean b row else mean c row
  | .last a => fun row => lastF (pf (mean a) row)
  | .first a => fun row => firstF (pf (mean a) row)
  | .before a => fun row => mean a row.dropLast
  | .great k a => fun row => greatF k (pf (mean a) row)
  | .least k a => fun row => leastF k (pf (mean a) row)
  | .times k a => fun row => if k ≤ cntF (pf (mean a) row) then numO row else none
  | .circle m k a => fun row => if cntF (pf (mean a) row) % m = k then numO row else none
  | .since a b => fun row => mean b (sinceF (row.zip (pf (mean a) row)))
  | .among a b => fun row => mean b (amongF (row.zip (pf (mean a) row)))
def an (q : Qn) (row : List Rec) : List O2 := pf (mean q) row
/-- K is at least 1 where it is asked -/
def Qk : Qn → Prop
  | .now | .nothing | .is _ => True
  | .less a b | .same a b | .since a b | .among a b => Qk a ∧ Qk b
  | .iff a b c => Qk a ∧ Qk b ∧ Qk c
  | .last a | .first a | .before a => Qk a
  | .great k a | .least k a | .times k a => (1 ≤ k ∧ k ≤ 3) ∧ Qk a
  | .circle m k a => (1 ≤ m ∧ m ≤ 3 ∧ k < m) ∧ Qk a
theorem mean_nil : ∀ {q : Qn}, Qk q → mean q [] = none
  | .now, _ => rfl
  | .nothing, _ => rfl
  | .is _, _ => rfl
  | .less a b, h => by
    show lessO (mean a []) (mean b []) = none
    rw [mean_nil h.1]
    rfl
  | .same a b, h => by
    show sameO (mean a []) (mean b []) = none
    rw [mean_nil h.1]
    rfl
  | .iff a b c, h => by
    show (if (mean a []).isSome then mean b [] else mean c []) = none
    rw [mean_nil h.1, mean_nil h.2.2]
    rfl
  | .last _, _ => rfl
  | .first _, _ => rfl
  | .before a, h => mean_nil (q := a) h
  | .great k a, h => by
    show greatF k [] = none
    unfold greatF
    exact if_pos h.1.1
  | .least k a, h => by
    show leastF k [] = none
    unfold leastF
    exact if_pos h.1.1
  | .times k a, h => by
    show (if _ then numO [] else none) = none
    split <;> rfl
  | .circle m k a, h => by
    show (if _ then numO [] else none) = none
    split <;> rfl
  | .since a b, h => mean_nil (q := b) h.2
  | .among a b, h => mean_nil (q := b) h.2
/-! ### how the answers go along a row -/
theorem an_len (q : Qn) (row : List Rec) : (an q row).length = row.length := pf_len _ _
theorem an_last {q : Qn} (h : Qk q) (row : List Rec) : ((none : O2) :: an q row)[row.length]? = some (mean q row) := by
  cases hr : row.length with
  | zero =>
    have e : row = [] := List.length_eq_zero_iff.mp hr
    subst e
    rw [mean_nil h]
    rfl
  | succ n =>
    rw [List.getElem?_cons_succ]
    show (pf (mean q) row)[n]? = _
    rw [pf_get _ (by omega), List.take_of_length_le (by omega)]
theorem an_at {q : Qn} (h : Qk q) {row : List Rec} {c : Nat} (hc : c ≤ row.length) : ((none : O2) :: an q row)[c]? = some (mean q (row.take c)) := by
  have e := an_last h (row.take c)
  have hl : (row.take c).length = c := by rw [List.length_take]; omega
  rw [hl] at e
  rw [← e]
  have e2 : an q (row.take c) = (an q row).take c := (pf_take _ _ _).symm
  rw [e2]
  cases c with
  | zero => rfl
  | succ c => rw [List.getElem?_cons_succ, List.getElem?_cons_succ, List.getElem?_take, if_pos (by omega)]
theorem an_before {a : Qn} (h : Qk a) (row : List Rec) : an (.before a) row = ((none : O2) :: an a row).take row.length := by
  symm
  refine pf_ext (by rw [List.length_take, List.length_cons, an_len]; omega) fun k hk => ?_
  rw [List.getElem?_take, if_pos hk, an_at h (by omega)]
  show _ = some (mean a (row.take (k + 1)).dropLast)
  rw [take_snoc hk, List.dropLast_concat]
theorem an_last_q (a : Qn) (row : List Rec) : an (.last a) row = pf lastF (an a row) := (pf_comp _ _ _).symm
theorem an_first_q (a : Qn) (row : List Rec) : an (.first a) row = pf firstF (an a row) := (pf_comp _ _ _).symm
theorem an_great (k : Nat) (a : Qn) (row : List Rec) : an (.great k a) row = pf (greatF k) (an a row) := (pf_comp _ _ _).symm
theorem an_least (k : Nat) (a : Qn) (row : List Rec) : an (.least k a) row = pf (leastF k) (an a row) := (pf_comp _ _ _).symm
theorem an_since (a b : Qn) (row : List Rec) : an (.since a b) row = pf (fun z => mean b (sinceF z)) (row.zip (an a row)) := (pf_zip (fun z => mean b (sinceF z)) (mean a) row).symm
theorem an_among (a b : Qn) (row : List Rec) : an (.among a b) row = pf (fun z => mean b (amongF z)) (row.zip (an a row)) := (pf_zip (fun z => mean b (amongF z)) (mean a) row).symm
theorem numO_at {row : List Rec} {k : Nat} (h : k < row.length) : numO (row.take (k + 1)) = some row[k].2 := by
  rw [take_snoc h]
  unfold numO
  rw [List.getLast?_concat]
  rfl
theorem lastF_snoc (l : List O2) (a : O2) : lastF (l ++ [a]) = lastS (lastF l) a := by unfold lastF; rw [List.foldl_append]; rfl
theorem firstF_snoc (l : List O2) (a : O2) : firstF (l ++ [a]) = firstS (firstF l) a := by unfold firstF; rw [List.foldl_append]; rfl
theorem setF_snoc (l : List O2) (a : O2) : setF (l ++ [a]) = setS (setF l) a := by unfold setF; rw [List.foldl_append]; rfl
theorem cntF_snoc (l : List O2) (a : O2) : cntF (l ++ [a]) = cntF l + (if a.isSome then 1 else 0) := by
  unfold cntF
  rw [List.filter_append, List.length_append]
  cases a <;> rfl
theorem sinceF_snoc (l : List (Rec × O2)) (p : Rec × O2) : sinceF (l ++ [p]) = sinceS (sinceF l) p := by unfold sinceF; rw [List.foldl_append]; rfl
theorem amongF_snoc (l : List (Rec × O2)) (p : Rec × O2) : amongF (l ++ [p]) = amongF l ++ (if p.2.isSome then [p.1] else []) := by
  unfold amongF
  rw [List.filter_append, List.map_append]
  obtain ⟨r, v⟩ := p
  cases v <;> rfl
theorem cntF_le (l : List O2) : cntF l ≤ l.length := List.length_filter_le _ _
/-- the beginnings of what is left -/
theorem amongF_take : ∀ (row : List Rec) (os : List O2) (k : Nat), os.length = row.length → amongF ((row.zip os).take k) = (amongF (row.zip os)).take (cntF (os.take k)) ∧ cntF (os.take k) ≤ (amongF (row.zip os)).length
  | [], [], k, _ => by simp [amongF, cntF]
  | [], _ :: _, _, h => by cases h
  | _ :: _, [], _, h => by cases h
  | r :: row, o :: os, 0, h => by simp [amongF, cntF]
  | r :: row, o :: os, k + 1, h => by
    obtain ⟨e1, e2⟩ := amongF_take row os k (by simpa using h)
    cases o with
    | none => exact ⟨e1, e2⟩
    | some x =>
      refine ⟨?_, Nat.succ_le_succ e2⟩
      show r :: amongF ((row.zip os).take k) = (r :: amongF (row.zip os)).take (cntF (os.take k) + 1)
      rw [List.take_succ_cons, e1]
theorem an_among_at {a b : Qn} (hb : Qk b) (row : List Rec) {k : Nat} (hk : k < row.length) : ((none : O2) :: an b (amongF (row.zip (an a row))))[cntF ((an a row).take (k + 1))]? = (an (.among a b) row)[k]? := by
  have hl := an_len a row
  obtain ⟨e1, e2⟩ := amongF_take row (an a row) (k + 1) hl
  rw [an_at hb e2, an_among, pf_get _ (by rw [List.length_zip, hl]; omega), e1]
/-! ### sets -/
theorem setF_srt : ∀ {l : List O2}, (∀ x, some x ∈ l → ok2 x) → Srt (setF l) ∧ (∀ x ∈ setF l, some x ∈ l) ∧ (setF l).length ≤ l.length := by
  intro l
  induction l using srec with
  | h0 => exact fun _ => ⟨⟨List.Pairwise.nil, (fun _ h => by cases h)⟩, (fun _ h => by cases h), Nat.le_refl _⟩
  | h1 l a ih =>
    intro h
    obtain ⟨i1, i2, i3⟩ := ih fun x hx => h x (List.mem_append_left _ hx)
    rw [setF_snoc]
    cases a with
    | none => exact ⟨i1, fun x hx => List.mem_append_left _ (i2 x hx), by rw [List.length_append]; exact Nat.le_succ_of_le i3⟩
    | some y =>
      refine ⟨with2_srt i1 (h y (by simp)), fun x hx => ?_, ?_⟩
      · rcases with2_mem hx with rfl | hx
        · simp
        · exact List.mem_append_left _ (i2 x hx)
      · rw [List.length_append]
        exact Nat.le_trans (with2_len _ _) (Nat.succ_le_succ i3)
/-! ### numbers of a row -/
def RowOk (row : List Rec) : Prop := ∀ r ∈ row, gd2 r.2
theorem mean_num : ∀ {q : Qn} {row : List Rec} {x : Q2}, mean q row = some x → ∃ r ∈ row, r.2 = x := by
  intro q
  have numb : ∀ {row : List Rec} {x : Q2}, numO row = some x → ∃ r ∈ row, r.2 = x := by
    intro row x h
    unfold numO at h
    cases e : row.getLast? with
    | none => rw [e] at h; cases h
    | some r =>
      rw [e] at h
      exact ⟨r, List.mem_of_getLast? e, Option.some.inj h⟩
  have pfm : ∀ {a : Qn} {row : List Rec} {x : Q2}, (∀ {row x}, mean a row = some x → ∃ r ∈ row, r.2 = x) → some x ∈ pf (mean a) row → ∃ r ∈ row, r.2 = x := by
    intro a row x ih h
    obtain ⟨k, hk, e⟩ := List.getElem_of_mem h
    rw [pf_len] at hk
    have e2 := pf_get (mean a) hk
    rw [List.getElem?_eq_getElem (by rw [pf_len]; exact hk), e] at e2
    obtain ⟨r, hr, e3⟩ := ih (Option.some.inj e2).symm
    exact ⟨r, List.mem_of_mem_take hr, e3⟩
  have lst : ∀ {l : List O2} {x : Q2}, lastF l = some x → some x ∈ l := by
    intro l
    induction l using srec with
    | h0 => intro x h; cases h
    | h1 l a ih =>
      intro x h
      rw [lastF_snoc] at h
      unfold lastS at h
      split at h
      · rw [h]; simp
      · exact List.mem_append_left _ (ih h)
  have fst' : ∀ {l : List O2} {x : Q2}, firstF l = some x → some x ∈ l := by
    intro l
    induction l using srec with
    | h0 => intro x h; cases h
    | h1 l a ih =>
      intro x h
      rw [firstF_snoc] at h
      unfold firstS at h
      split at h
      · exact List.mem_append_left _ (ih h)
      · rw [h]; simp
  have sets : ∀ {l : List O2} {x : Q2}, x ∈ setF l → some x ∈ l := by
    intro l
    induction l using srec with
    | h0 => intro x h; cases h
    | h1 l a ih =>
      intro x h
      rw [setF_snoc] at h
      cases a with
      | none => exact List.mem_append_left _ (ih h)
      | some y =>
        rcases with2_mem h with rfl | h
        · simp
        · exact List.mem_append_left _ (ih h)
  have sinm : ∀ {l : List (Rec × O2)} {r : Rec}, r ∈ sinceF l → ∃ o, (r, o) ∈ l := by
    intro l
    induction l using srec with
    | h0 => intro x h; cases h
    | h1 l a ih =>
      intro x h
      rw [sinceF_snoc] at h
      unfold sinceS at h
      split at h
      · cases h
      · rcases List.mem_append.mp h with h | h
        · obtain ⟨o, ho⟩ := ih h
          exact ⟨o, List.mem_append_left _ ho⟩
        · rw [List.mem_singleton.mp h]
          exact ⟨a.2, by simp⟩
  have amm : ∀ {l : List (Rec × O2)} {r : Rec}, r ∈ amongF l → ∃ o, (r, o) ∈ l := by
    intro l r h
    unfold amongF at h
    obtain ⟨p, hp, e⟩ := List.mem_map.mp h
    exact ⟨p.2, by rw [← e]; exact (List.mem_filter.mp hp).1⟩
  induction q with
  | now => exact numb
  | nothing => intro row x h; cases h
  | is n =>
    intro row x h
    have h : row.getLast?.bind (fun r => if r.1 = n then some r.2 else none) = some x := h
    cases e : row.getLast? with
    | none => rw [e] at h; cases h
    | some r =>
      rw [e] at h
      have h : (if r.1 = n then some r.2 else none) = some x := h
      split at h
      · exact ⟨r, List.mem_of_getLast? e, Option.some.inj h⟩
      · cases h
  | less a b iha ihb =>
    intro row x h
    have h : lessO (mean a row) (mean b row) = some x := h
    unfold lessO at h
    split at h
    · rename_i u v e1 e2
      split at h
      · cases h; exact iha e1
      · cases h
    · cases h
  | same a b iha ihb =>
    intro row x h
    have h : sameO (mean a row) (mean b row) = some x := h
    unfold sameO at h
    split at h
    · rename_i u v e1 e2
      split at h
      · cases h; exact iha e1
      · cases h
    · cases h
  | iff a b c iha ihb ihc =>
    intro row x h
    have h : (if (mean a row).isSome then mean b row else mean c row) = some x := h
    split at h
    · exact ihb h
    · exact ihc h
  | last a ih => intro row x h; exact pfm ih (lst h)
  | first a ih => intro row x h; exact pfm ih (fst' h)
  | before a ih =>
    intro row x h
    obtain ⟨r, hr, e⟩ := ih (row := row.dropLast) h
    exact ⟨r, (List.dropLast_sublist row).subset hr, e⟩
  | great k a ih =>
    intro row x h
    have h : greatF k (pf (mean a) row) = some x := h
    unfold greatF at h
    split at h
    · cases h
    · exact pfm ih (sets (List.mem_of_getElem? h))
  | least k a ih =>
    intro row x h
    have h : leastF k (pf (mean a) row) = some x := h
    unfold leastF at h
    split at h
    · cases h
    · exact pfm ih (sets (List.mem_of_getElem? h))
  | times k a ih =>
    intro row x h
    have h : (if k ≤ cntF (pf (mean a) row) then numO row else none) = some x := h
    split at h
    · exact numb h
    · cases h
  | circle m k a ih =>
    intro row x h
    have h : (if cntF (pf (mean a) row) % m = k then numO row else none) = some x := h
    split at h
    · exact numb h
    · cases h
  | since a b iha ihb =>
    intro row x h
    obtain ⟨r, hr, e⟩ := ihb (row := sinceF (row.zip (pf (mean a) row))) h
    obtain ⟨o, ho⟩ := sinm hr
    exact ⟨r, (List.of_mem_zip ho).1, e⟩
  | among a b iha ihb =>
    intro row x h
    obtain ⟨r, hr, e⟩ := ihb (row := amongF (row.zip (pf (mean a) row))) h
    obtain ⟨o, ho⟩ := amm hr
    exact ⟨r, (List.of_mem_zip ho).1, e⟩
theorem an_num {q : Qn} {row : List Rec} {x : Q2} (h : some x ∈ an q row) : ∃ r ∈ row, r.2 = x := by
  obtain ⟨k, hk, e⟩ := List.getElem_of_mem h
  rw [an_len] at hk
  have e2 := pf_get (mean q) hk
  have e3 : (an q row)[k]? = some (some x) := by rw [List.getElem?_eq_getElem (by rw [an_len]; exact hk), e]
  rw [show pf (mean q) row = an q row from rfl, e3] at e2
  obtain ⟨r, hr, e4⟩ := mean_num (Option.some.inj e2).symm
  exact ⟨r, List.mem_of_mem_take hr, e4⟩
theorem an_ok {q : Qn} {row : List Rec} (h : RowOk row) : ∀ x, some x ∈ an q row → gd2 x := fun x hx => by
  obtain ⟨r, hr, e⟩ := an_num hx
  rw [← e]
  exact h r hr
end My

namespace My
open PySem PySem.Spec PyProof.Rows L2 NumText TL
/-! ### the law's trees are questions -/
def qt : Qn → PyData
  | .now => .tuple [sd "now"]
  | .nothing => .tuple [sd "nothing"]
  | .is n => .tuple [sd "is", .str n]
  | .less a b => .tuple [sd "less", qt a, qt b]
  | .same a b => .tuple [sd "same", qt a, qt b]
  | .iff a b c => .tuple [sd "if", qt a, qt b, qt c]
  | .last a => .tuple [sd "last", qt a]
  | .first a => .tuple [sd "first", qt a]
  | .before a => .tuple [sd "before", qt a]
  | .great k a => .tuple [sd "great", .int (k : Int), qt a]
  | .least k a => .tuple [sd "least", .int (k : Int), qt a]
  | .times k a => .tuple [sd "times", .int (k : Int), qt a]
  | .circle m k a => .tuple [sd "circle", .int (m : Int), .int (k : Int), qt a]
  | .since a b => .tuple [sd "since", qt a, qt b]
  | .among a b => .tuple [sd "among", qt a, qt b]
def qsz : Qn → Nat
  | .now | .nothing | .is _ => 1
  | .less a b | .same a b | .since a b | .among a b => qsz a + qsz b + 1
  | .iff a b c => qsz a + qsz b + qsz c + 1
  | .last a | .first a | .before a | .great _ a | .least _ a | .times _ a | .circle _ _ a => qsz a + 1
theorem qsz_pos : ∀ q, 1 ≤ qsz q := by intro q; cases q <;> simp [qsz]
theorem qlen1 {qs : List Qn} (h : qs.length = 1) : ∃ a, qs = [a] := List.length_eq_one_iff.mp h
theorem qlen2 {qs : List Qn} (h : qs.length = 2) : ∃ a b, qs = [a, b] := by
  match qs, h with
  | [a, b], _ => exact ⟨a, b, rfl⟩
theorem qlen3 {qs : List Qn} (h : qs.length = 3) : ∃ a b c, qs = [a, b, c] := by
  match qs, h with
  | [a, b, c], _ => exact ⟨a, b, c, rfl⟩
theorem row_qn {r : Row} (hr : r ∈ UT) {qs : List Qn} (hl0 : qs.length = r.2.2) (ok : ∀ q ∈ qs, Qk q) {n : Nat} (sz : (qs.map qsz).sum ≤ n) : ∃ q, qt q = .tuple (r.2.1 ++ qs.map qt) ∧ Qk q ∧ qsz q ≤ n + 1 := by
  rcases List.mem_append.mp hr with hr | hr
  · unfold tab0 at hr
    simp only [List.mem_cons, List.not_mem_nil, or_false] at hr
    rcases hr with rfl | rfl | rfl | rfl | rfl | rfl | rfl | rfl | rfl | rfl | rfl | rfl | rfl | rfl | rfl | rfl | rfl | rfl | rfl | rfl | rfl | rfl
    · exact ⟨.now, by rw [List.length_eq_zero_iff.mp hl0]; rfl, True.intro, by show 1 ≤ _; simp⟩
    · exact ⟨.nothing, by rw [List.length_eq_zero_iff.mp hl0]; rfl, True.intro, by show 1 ≤ _; simp⟩
    · obtain ⟨a, b, rfl⟩ := qlen2 hl0
      exact ⟨.less a b, rfl, ⟨ok a (by simp), ok b (by simp)⟩, by simp [qsz] at sz ⊢; omega⟩
    · obtain ⟨a, b, rfl⟩ := qlen2 hl0
      exact ⟨.same a b, rfl, ⟨ok a (by simp), ok b (by simp)⟩, by simp [qsz] at sz ⊢; omega⟩
    · obtain ⟨a, b, c, rfl⟩ := qlen3 hl0
      exact ⟨.iff a b c, rfl, ⟨ok a (by simp), ok b (by simp), ok c (by simp)⟩, by simp [qsz] at sz ⊢; omega⟩
    · obtain ⟨a, rfl⟩ := qlen1 hl0
      exact ⟨.last a, rfl, ok a (by simp), by simp [qsz] at sz ⊢; omega⟩
    · obtain ⟨a, rfl⟩ := qlen1 hl0
      exact ⟨.first a, rfl, ok a (by simp), by simp [qsz] at sz ⊢; omega⟩
    · obtain ⟨a, rfl⟩ := qlen1 hl0
      exact ⟨.before a, rfl, ok a (by simp), by simp [qsz] at sz ⊢; omega⟩
    · obtain ⟨a, rfl⟩ := qlen1 hl0
      exact ⟨.great 1 a, rfl, ⟨⟨by decide, by decide⟩, ok a (by simp)⟩, by simp [qsz] at sz ⊢; omega⟩
    · obtain ⟨a, rfl⟩ := qlen1 hl0
      exact ⟨.great 2 a, rfl, ⟨⟨by decide, by decide⟩, ok a (by simp)⟩, by simp [qsz] at sz ⊢; omega⟩
    · obtain ⟨a, rfl⟩ := qlen1 hl0
      exact ⟨.least 1 a, rfl, ⟨⟨by decide, by decide⟩, ok a (by simp)⟩, by simp [qsz] at sz ⊢; omega⟩
    · obtain ⟨a, rfl⟩ := qlen1 hl0
      exact ⟨.least 2 a, rfl, ⟨⟨by decide, by decide⟩, ok a (by simp)⟩, by simp [qsz] at sz ⊢; omega⟩
    · obtain ⟨a, rfl⟩ := qlen1 hl0
      exact ⟨.times 1 a, rfl, ⟨⟨by decide, by decide⟩, ok a (by simp)⟩, by simp [qsz] at sz ⊢; omega⟩
    · obtain ⟨a, rfl⟩ := qlen1 hl0
      exact ⟨.times 2 a, rfl, ⟨⟨by decide, by decide⟩, ok a (by simp)⟩, by simp [qsz] at sz ⊢; omega⟩
    · obtain ⟨a, rfl⟩ := qlen1 hl0
      exact ⟨.times 3 a, rfl, ⟨⟨by decide, by decide⟩, ok a (by simp)⟩, by simp [qsz] at sz ⊢; omega⟩
    · obtain ⟨a, rfl⟩ := qlen1 hl0
      exact ⟨.circle 2 0 a, rfl, ⟨⟨by decide, by decide, by decide⟩, ok a (by simp)⟩, by simp [qsz] at sz ⊢; omega⟩
    · obtain ⟨a, rfl⟩ := qlen1 hl0
      exact ⟨.circle 2 1 a, rfl, ⟨⟨by decide, by decide, by decide⟩, ok a (by simp)⟩, by simp [qsz] at sz ⊢; omega⟩
    · obtain ⟨a, rfl⟩ := qlen1 hl0
      exact ⟨.circle 3 0 a, rfl, ⟨⟨by decide, by decide, by decide⟩, ok a (by simp)⟩, by simp [qsz] at sz ⊢; omega⟩
    · obtain ⟨a, rfl⟩ := qlen1 hl0
      exact ⟨.circle 3 1 a, rfl, ⟨⟨by decide, by decide, by decide⟩, ok a (by simp)⟩, by simp [qsz] at sz ⊢; omega⟩
    · obtain ⟨a, rfl⟩ := qlen1 hl0
      exact ⟨.circle 3 2 a, rfl, ⟨⟨by decide, by decide, by decide⟩, ok a (by simp)⟩, by simp [qsz] at sz ⊢; omega⟩
    · obtain ⟨a, b, rfl⟩ := qlen2 hl0
      exact ⟨.since a b, rfl, ⟨ok a (by simp), ok b (by simp)⟩, by simp [qsz] at sz ⊢; omega⟩
    · obtain ⟨a, b, rfl⟩ := qlen2 hl0
      exact ⟨.among a b, rfl, ⟨ok a (by simp), ok b (by simp)⟩, by simp [qsz] at sz ⊢; omega⟩
  · obtain ⟨m, _, rfl⟩ := List.mem_map.mp hr
    exact ⟨.is m, by rw [List.length_eq_zero_iff.mp (show qs.length = 0 from hl0)]; rfl, True.intro, by show 1 ≤ _; simp⟩
mutual
theorem pr_qn : ∀ {t : PyData} {a : List Row}, Pr UT t a → ∃ q, qt q = t ∧ Qk q ∧ qsz q ≤ a.length
  | _, _, .mk (r := r) (kids := kids) (rows := rows) hr hk h => by
    obtain ⟨qs, e, ok, sz⟩ := prL_qn h
    subst e
    exact row_qn hr (by rw [← hk, List.length_map]) ok sz
theorem prL_qn : ∀ {ts : List PyData} {a : List Row}, PrL UT ts a → ∃ qs : List Qn, qs.map qt = ts ∧ (∀ q ∈ qs, Qk q) ∧ (qs.map qsz).sum ≤ a.length
  | _, _, .nil => ⟨[], rfl, (fun _ h => by cases h), Nat.le_refl _⟩
  | _, _, .cons (a := a) (b := b) h t => by
    obtain ⟨q, e1, o1, s1⟩ := pr_qn h
    obtain ⟨qs, e2, o2, s2⟩ := prL_qn t
    refine ⟨q :: qs, by rw [List.map_cons, e1, e2], fun x hx => ?_, by rw [List.map_cons, List.sum_cons, List.length_append]; omega⟩
    rcases List.mem_cons.mp hx with rfl | hx
    · exact o1
    · exact o2 x hx
end
/-! ### the parts of a question -/
def kids : Qn → List Qn
  | .now | .nothing | .is _ => []
  | .less a b | .same a b | .since a b | .among a b => [a, b]
  | .iff a b c => [a, b, c]
  | .last a | .first a | .before a | .great _ a | .least _ a | .times _ a | .circle _ _ a => [a]
def word : Qn → Str
  | .now => "now" | .nothing => "nothing" | .is _ => "is" | .less _ _ => "less" | .same _ _ => "same" | .iff _ _ _ => "if"
  | .last _ => "last" | .first _ => "first" | .before _ => "before" | .great _ _ => "great" | .least _ _ => "least" | .times _ _ => "times" | .circle _ _ _ => "circle"
  | .since _ _ => "since" | .among _ _ => "among"
/-- the fields behind the word -/
def flds : Qn → List PyData
  | .is n => [.str n]
  | .great k _ | .least k _ | .times k _ => [.int (k : Int)]
  | .circle m k _ => [.int (m : Int), .int (k : Int)]
  | _ => []
theorem qt_eq (q : Qn) : qt q = .tuple (.str (word q) :: (flds q ++ (kids q).map qt)) := by cases q <;> rfl
theorem kids_sz {q a : Qn} (h : a ∈ kids q) : qsz a < qsz q := by
  cases q <;> simp [kids] at h <;> simp only [qsz] <;> first | (subst h; omega) | (rcases h with rfl | rfl <;> omega) | (rcases h with rfl | rfl | rfl <;> omega)
theorem kids_ok {q a : Qn} (hq : Qk q) (h : a ∈ kids q) : Qk a := by
  cases q <;> simp [kids] at h <;> simp only [Qk] at hq <;> first | (subst h; first | exact hq | exact hq.2) | (rcases h with rfl | rfl <;> first | exact hq.1 | exact hq.2) | (rcases h with rfl | rfl | rfl <;> first | exact hq.1 | exact hq.2.1 | exact hq.2.2)
theorem flds_flat {q : Qn} : ∀ f ∈ flds q, isT f = false := by
  intro f h
  cases q <;> simp [flds] at h <;> first | (subst h; rfl) | (rcases h with rfl | rfl <;> rfl)
theorem qt_isT (q : Qn) : isT (qt q) = true := by rw [qt_eq]; rfl
/-- what questions of now answer, by what their parts answer now -/
def isNow : Qn → Bool
  | .now | .nothing | .is _ | .less _ _ | .same _ _ | .iff _ _ _ => true
  | _ => false
def nowF (q : Qn) (told : List O2) (nm : Str) (x : Q2) : O2 := match q with
  | .now => some x
  | .is n => if nm = n then some x else none
  | .less _ _ => lessO (told.getD 0 none) (told.getD 1 none)
  | .same _ _ => sameO (told.getD 0 none) (told.getD 1 none)
  | .iff _ _ _ => if (told.getD 0 none).isSome then told.getD 1 none else told.getD 2 none
  | _ => none
theorem mean_now {q : Qn} (h : isNow q = true) (row : List Rec) (nm : Str) (x : Q2) : mean q (row ++ [(nm, x)]) = nowF q ((kids q).map fun a => mean a (row ++ [(nm, x)])) nm x := by
  cases q <;> first | (cases h) | skip
  · show numO (row ++ [(nm, x)]) = some x
    unfold numO
    rw [List.getLast?_concat]
    rfl
  · rfl
  · show (row ++ [(nm, x)]).getLast?.bind _ = _
    rw [List.getLast?_concat]
    rfl
  · rfl
  · rfl
  · rfl
end My

namespace My
open PySem PySem.Spec PyProof.Rows L2
/-! ### comprehensions over enumerate and zip -/
abbrev CompW (J : It) (g : TG) (tt : TT) (te : TE) (ws : List Nat) (τ : L2.St) (D : Addr) (Qd : Hp → Prop) (H0 : Hp) : Prop :=
  ∃ W : Nat → Nat → Hp → Prop, (∃ m, W 0 m H0) ∧ ∀ i m H, W i m H → (J.stop i H ∧ Qd H) ∨ (J.go i H ∧ ∃ Nx : Hp → Prop, (∀ H', Nx H' → ∃ m', m' < m ∧ W (i + 1) m' H') ∧
    ∀ x H', J.yld i H x H' → g x (wipe τ ws) H' fun τ2 H2 => wipe τ2 ws = wipe τ ws ∧ tt τ2 H2 fun b H3 => if b = true then te τ2 H3 fun y H4 => ∃ acc, H4 D = some (.lst acc) ∧ acc.length < sizeLine ∧ Nx (upd H4 D (.lst (acc ++ [y]))) else Nx H3)
theorem lc_gen {J : It} {n : Nat} {g : TG} {tt : TT} {te : TE} {ws : List Nat} {τ : L2.St} {D : Addr} {Qd : Hp → Prop} {H0 : Hp} (Pv : Nat → Hp → Prop) (h0 : Pv 0 H0)
    (hgo : ∀ i H, i < n → Pv i H → J.go i H) (hstop : ∀ H, Pv n H → J.stop n H) (hd : ∀ H, Pv n H → Qd H)
    (hs : ∀ i H x H', i < n → Pv i H → J.yld i H x H' → g x (wipe τ ws) H' fun τ2 H2 => wipe τ2 ws = wipe τ ws ∧ tt τ2 H2 fun b H3 => if b = true then te τ2 H3 fun y H4 => ∃ acc, H4 D = some (.lst acc) ∧ acc.length < sizeLine ∧ Pv (i + 1) (upd H4 D (.lst (acc ++ [y]))) else Pv (i + 1) H3) :
    CompW J g tt te ws τ D Qd H0 := by
  refine ⟨fun i m H => i ≤ n ∧ m = n - i ∧ Pv i H, ⟨n, Nat.zero_le _, rfl, h0⟩, fun i m H hw => ?_⟩
  obtain ⟨hi, hm, hp⟩ := hw
  rcases Nat.lt_or_ge i n with hlt | hge
  · right
    exact ⟨hgo i H hlt hp, Pv (i + 1), (fun H' hp' => ⟨n - (i + 1), by omega, hlt, rfl, hp'⟩), fun x H' hy => hs i H x H' hlt hp hy⟩
  · have ei : i = n := Nat.le_antisymm hi hge
    rw [ei] at hp ⊢
    exact .inl ⟨hstop H hp, hd H hp⟩
theorem lc_enumL {K : PySem.W.Frag} {a : Addr} {xs : List V} {g : TG} {tt : TT} {te : TE} {ws : List Nat} {τ : L2.St} {D : Addr} {Qd : Hp → Prop} {H0 : Hp} (Pv : Nat → Hp → Prop) (h0 : Pv 0 H0) (hl : ∀ i H, Pv i H → SqL K H a xs) (hd : ∀ H, Pv xs.length H → Qd H)
    (hs : ∀ i H x T, xs[i]? = some x → Pv i H → H T = none → g (.ref T) (wipe τ ws) (upd H T (.tup [.int (i : Nat), x])) fun τ2 H2 => wipe τ2 ws = wipe τ ws ∧ tt τ2 H2 fun b H3 => if b = true then te τ2 H3 fun y H4 => ∃ acc, H4 D = some (.lst acc) ∧ acc.length < sizeLine ∧ Pv (i + 1) (upd H4 D (.lst (acc ++ [y]))) else Pv (i + 1) H3) :
    CompW (Ite K a) g tt te ws τ D Qd H0 := by
  refine lc_gen (n := xs.length) Pv h0 (fun i H hi hp => ⟨xs, xs[i], hl i H hp, List.getElem?_eq_getElem hi⟩) (fun H hp => ⟨xs, hl _ H hp, Nat.le_refl _⟩) hd fun i H x H' hi hp hy => ?_
  obtain ⟨T, y, e1, hT, e2, f⟩ := hy
  rw [e1, e2]
  exact hs i H y T (f xs (hl i H hp)) hp hT
theorem lc_zipL {K : PySem.W.Frag} {a b : Addr} {xs ys : List V} {g : TG} {tt : TT} {te : TE} {ws : List Nat} {τ : L2.St} {D : Addr} {Qd : Hp → Prop} {H0 : Hp} (el : xs.length = ys.length) (Pv : Nat → Hp → Prop) (h0 : Pv 0 H0) (hl : ∀ i H, Pv i H → SqL K H a xs ∧ SqL K H b ys) (hd : ∀ H, Pv xs.length H → Qd H)
    (hs : ∀ i H x y T, xs[i]? = some x → ys[i]? = some y → Pv i H → H T = none → g (.ref T) (wipe τ ws) (upd H T (.tup [x, y])) fun τ2 H2 => wipe τ2 ws = wipe τ ws ∧ tt τ2 H2 fun b H3 => if b = true then te τ2 H3 fun y H4 => ∃ acc, H4 D = some (.lst acc) ∧ acc.length < sizeLine ∧ Pv (i + 1) (upd H4 D (.lst (acc ++ [y]))) else Pv (i + 1) H3) :
    CompW (Itz K a b) g tt te ws τ D Qd H0 := by
  refine lc_gen (n := xs.length) Pv h0 (fun i H hi hp => ⟨xs, ys, xs[i], ys[i], (hl i H hp).1, (hl i H hp).2, List.getElem?_eq_getElem hi, List.getElem?_eq_getElem (by omega)⟩) (fun H hp => ⟨xs, ys, (hl _ H hp).1, (hl _ H hp).2, .inl (Nat.le_refl _)⟩) hd fun i H x H' hi hp hy => ?_
  obtain ⟨T, u, v, e1, hT, e2, f1, f2⟩ := hy
  rw [e1, e2]
  exact hs i H u v T (f1 xs (hl i H hp).1) (f2 ys (hl i H hp).2) hp hT
/-! ### slices and sums of tuples -/
theorem cut_whole {xs : List V} {lo hi : Option Int} (h : HT.sIx xs.length 0 lo = 0 ∧ HT.sIx xs.length xs.length hi = xs.length) : cutV xs lo hi = xs := by
  unfold cutV
  rw [h.1, h.2, List.drop_zero, Nat.sub_zero, List.take_length]
theorem slA_any {K : PySem.W.Frag} {a : Addr} {xs : List V} {lo hi : Option Int} {H : Hp} {Q : VK} (h : SqT K H a xs) (q : ∀ p H', L2.Same H H' → SqT K H' p (cutV xs lo hi) → Q (.ref p) H') : rSlA K (.ref a) lo hi H Q :=
  ⟨a, xs, rfl, h, (fun e => q a H (.refl H) (by rw [cut_whole e]; exact h)), fun _ p hp => q p _ (same_upd hp) (SqT.of upd_same)⟩
theorem catA_any {K : PySem.W.Frag} {a b : Addr} {xs ys : List V} {H : Hp} {Q : VK} (h : SqT K H a xs) (h' : SqT K H b ys) (z : xs.length + ys.length ≤ sizeLine) (q : ∀ p H', L2.Same H H' → SqT K H' p (xs ++ ys) → Q (.ref p) H') : rCatA K (.ref a) (.ref b) H Q :=
  ⟨a, b, xs, ys, rfl, rfl, h, h', z, (fun e => q b H (.refl H) (by rw [e]; exact h')), (fun _ e => q a H (.refl H) (by rw [e, List.append_nil]; exact h)), fun _ _ p hp => q p _ (same_upd hp) (SqT.of upd_same)⟩
theorem cut_to {xs : List V} {n : Nat} (h : n ≤ xs.length) : cutV xs none (some (n : Int)) = xs.take n := by
  unfold cutV
  rw [HT.sIx_none, HT.sIx_nat, Nat.min_eq_left h, List.drop_zero, Nat.sub_zero]
/-! ### answers, records and their lists on the heap -/
section
variable {K : PySem.W.Frag}
def Ov (K : PySem.W.Frag) (H : Hp) (v : V) (o : O2) : Prop := match o with
  | none => v = .non
  | some x => ∃ p, v = .ref p ∧ Nm K H p x
def Rv (K : PySem.W.Frag) (H : Hp) (v : V) (r : Rec) : Prop := ∃ p q, v = .ref p ∧ SqT K H p [.str r.1, .ref q] ∧ Nm K H q r.2
theorem Ov.tx {H H' : Hp} {v : V} {o : O2} (e : TX K H H') (h : Ov K H v o) : Ov K H' v o := by
  cases o with
  | none => exact h
  | some x =>
    obtain ⟨p, e1, n⟩ := h
    exact ⟨p, e1, e _ _ n⟩
theorem Rv.tx {H H' : Hp} {v : V} {r : Rec} (e : TX K H H') (h : Rv K H v r) : Rv K H' v r := by
  obtain ⟨p, q, e1, h1, h2⟩ := h
  exact ⟨p, q, e1, e _ _ h1, e _ _ h2⟩
theorem Os.tx {H H' : Hp} {vs : List V} {os : List O2} (e : TX K H H') (h : Paired (Ov K H) vs os) : Paired (Ov K H') vs os := pmono (fun _ _ => Ov.tx e) h
theorem Rs.tx {H H' : Hp} {vs : List V} {rs : List Rec} (e : TX K H H') (h : Paired (Rv K H) vs rs) : Paired (Rv K H') vs rs := pmono (fun _ _ => Rv.tx e) h
theorem Ov.isN {H : Hp} {v : V} {o : O2} (h : Ov K H v o) : decide (v = .non) = o.isNone := by
  cases o with
  | none => rw [show v = .non from h]; rfl
  | some x =>
    obtain ⟨p, e, _⟩ := h
    rw [e]
    exact decide_eq_false (by intro z; cases z)
theorem Ov.some {H : Hp} {v : V} {x : Q2} (h : Ov K H v (some x)) : ∃ p, v = .ref p ∧ Nm K H p x := h
theorem Ov.of {H : Hp} {p : Addr} {x : Q2} (h : Nm K H p x) : Ov K H (.ref p) (.some x) := ⟨p, rfl, h⟩
def oD (o : O2) : PyData := match o with | none => .none | some x => qD x
theorem Ov.dp {H : Hp} {v : V} {o : O2} (h : Ov K H v o) : Dp K H v (oD o) := by
  cases o with
  | none => rw [show v = .non from h]; exact .non
  | some x =>
    obtain ⟨p, e, n⟩ := h
    rw [e]
    exact Nm.dp n
theorem Os.dps {H : Hp} : ∀ {vs : List V} {os : List O2}, Paired (Ov K H) vs os → DpAll K H vs (os.map oD)
  | _, _, .nil => .nil
  | _, _, .cons r t => .cons (Ov.dp r) (Os.dps t)
theorem oD_lay (o : O2) : (oD o).canLay0 = true := by cases o with
  | none => simp [oD, PyData.canLay0]
  | some x => exact qD_lay x
theorem oDs_lay : ∀ os : List O2, PyData.canLayAll0 (os.map oD) = true
  | [] => by simp [PyData.canLayAll0]
  | o :: os => by
    rw [List.map_cons]
    simp only [PyData.canLayAll0]
    rw [oD_lay, oDs_lay os]
    rfl
theorem oD_depth (o : O2) : (oD o).depth ≤ 1 := by cases o with
  | none => simp [oD, PyData.depth]
  | some x => exact Nat.le_of_eq (qD_depth x)
theorem oDs_depth : ∀ os : List O2, PyData.depthAll (os.map oD) ≤ 1
  | [] => by simp [PyData.depthAll]
  | o :: os => by
    rw [List.map_cons]
    simp only [PyData.depthAll]
    have h1 := oD_depth o
    have h2 := oDs_depth os
    omega
theorem oDs_shaped (os : List O2) : SeqAt.shaped (.list (os.map oD)) = true := by
  have h1 := oDs_depth os
  have h2 : PyData.depth (.list (os.map oD)) ≤ 64 := by
    simp only [PyData.depth]
    omega
  show (PyData.canLay0 (.list (os.map oD)) && decide (PyData.depth (.list (os.map oD)) ≤ 64)) = true
  rw [Bool.and_eq_true]
  exact ⟨by simp only [PyData.canLay0]; exact oDs_lay os, decide_eq_true h2⟩
theorem non_shaped : SeqAt.shaped .none = true := by decide +kernel
theorem any_non (os : List O2) : ((os.map oD).any fun z => PyData.eqv z .none) = os.any Option.isNone := by
  induction os with
  | nil => rfl
  | cons o os ih =>
    rw [List.map_cons, List.any_cons, List.any_cons, ih]
    cases o with
    | none => rfl
    | some x => rfl
end
end My

namespace My
open PySem PySem.Spec PyProof.Rows L2
theorem filter_cut {p : Q2 → Bool} : ∀ {xs : List Q2} {r : Nat}, (∀ j (h : j < xs.length), j < r → p xs[j] = true) → (∀ j (h : j < xs.length), r ≤ j → p xs[j] = false) → xs.filter p = xs.take r := by
  intro xs r h1 h2
  have e1 : (xs.take r).filter p = xs.take r := List.filter_eq_self.mpr fun x hx => by
    obtain ⟨j, hj, e⟩ := List.getElem_of_mem hx
    rw [List.length_take] at hj
    rw [List.getElem_take] at e
    rw [← e]
    exact h1 j (by omega) (by omega)
  have e2 : (xs.drop r).filter p = [] := List.filter_eq_nil_iff.mpr fun x hx => by
    obtain ⟨j, hj, e⟩ := List.getElem_of_mem hx
    rw [List.length_drop] at hj
    rw [List.getElem_drop] at e
    rw [← e, h2 (r + j) (by omega) (by omega)]
    decide
  have e3 := congrArg (List.filter p) (List.take_append_drop r xs).symm
  rw [List.filter_append, e1, e2, List.append_nil] at e3
  exact e3
theorem filter_cut' {p : Q2 → Bool} {xs : List Q2} {r : Nat} (h1 : ∀ j (h : j < xs.length), j < r → p xs[j] = false) (h2 : ∀ j (h : j < xs.length), r ≤ j → p xs[j] = true) : xs.filter p = xs.drop r := by
  have e1 : (xs.take r).filter p = [] := List.filter_eq_nil_iff.mpr fun x hx => by
    obtain ⟨j, hj, e⟩ := List.getElem_of_mem hx
    rw [List.length_take] at hj
    rw [List.getElem_take] at e
    rw [← e, h1 j (by omega) (by omega)]
    decide
  have e2 : (xs.drop r).filter p = xs.drop r := List.filter_eq_self.mpr fun x hx => by
    obtain ⟨j, hj, e⟩ := List.getElem_of_mem hx
    rw [List.length_drop] at hj
    rw [List.getElem_drop] at e
    rw [← e]
    exact h2 (r + j) (by omega) (by omega)
  have e3 := congrArg (List.filter p) (List.take_append_drop r xs).symm
  rw [List.filter_append, e1, e2, List.nil_append] at e3
  exact e3
theorem with2_out {xs : List Q2} (s : Srt xs) {y : Q2} (hy : ok2 y) (hn : y ∉ xs) : with2 xs y = xs.take (rk y xs) ++ [y] ++ xs.drop (rk y xs) := by
  obtain ⟨r, h0, h1, h2⟩ := s.cut hy.1
  rw [rk_cut h0 h1 h2]
  unfold with2
  rw [filter_cut (r := r) (fun j hj h => decide_eq_true (h1 j hj h)) (fun j hj h => decide_eq_false (h2 j hj h)),
    filter_cut' (r := r) (fun j hj h => decide_eq_false (lt2_asymm (h1 j hj h))) (fun j hj h => decide_eq_true (Classical.byContradiction fun z => hn (by
      rw [eq2 hy (s.ok hj) z (h2 j hj h)]
      exact List.getElem_mem hj)))]
theorem with2_in {xs : List Q2} (s : Srt xs) {y : Q2} (hn : y ∈ xs) : with2 xs y = xs := by
  obtain ⟨i, hi, e⟩ := List.getElem_of_mem hn
  subst e
  unfold with2
  rw [filter_cut (r := i) (fun j hj h => decide_eq_true (s.lt hj hi h)) (fun j hj h => decide_eq_false (by
      by_cases z : i = j
      · subst z; exact lt2_irr _
      · exact lt2_asymm (s.lt hi hj (by omega)))),
    filter_cut' (r := i + 1) (fun j hj h => decide_eq_false (by
      by_cases z : j = i
      · subst z; exact lt2_irr _
      · exact lt2_asymm (s.lt hj hi (by omega)))) (fun j hj h => decide_eq_true (s.lt hi hj (by omega)))]
  rw [List.append_assoc, List.singleton_append, ← List.drop_eq_getElem_cons hi, List.take_append_drop]
theorem Paired.takeQ {R : Addr → Q2 → Prop} : ∀ {ps : List Addr} {xs : List Q2} (n : Nat), Paired R ps xs → Paired R (ps.take n) (xs.take n)
  | _, _, 0, _ => .nil
  | _, _, n + 1, .nil => .nil
  | _, _, n + 1, .cons r t => .cons r (Paired.takeQ n t)
theorem Paired.dropQ {R : Addr → Q2 → Prop} : ∀ {ps : List Addr} {xs : List Q2} (n : Nat), Paired R ps xs → Paired R (ps.drop n) (xs.drop n)
  | _, _, 0, h => h
  | _, _, n + 1, .nil => .nil
  | _, _, n + 1, .cons r t => Paired.dropQ n t
theorem qt_tr : ∀ q : Qn, Qk q → tr (qt q) = true := by
  intro q
  induction q <;> intro hq <;> simp only [qt, tr, trL, tr_sd, Qk] at hq ⊢ <;> simp_all
  all_goals omega
section
variable {P : Program} {w : World} {K : PySem.W.Frag} {mg : Str → Option Value} {base : Heap}
/-! ### put_in -/
def sp_put (K : PySem.W.Frag) : Sp := fun vs H Q _ => ∃ (q t : Addr) (y : Q2) (xs : List Q2), vs = [.ref q, .ref t] ∧ Am K H t xs ∧ Nm K H q y ∧ BdL 1000 xs ∧ bd2 1000 y ∧ Srt xs ∧ ok2 y ∧ xs.length ≤ 1000 ∧ ∀ p H', L2.Same H H' → Am K H' p (with2 xs y) → Q (.ref p) H'
theorem ok_put_in (T : Top K mg w) : FnOk P w K mg base CX0 3 T.a_put_in T.d_put_in ["number", "among"] (sp_put K) := by
  refine T.F_put_in.ok sc_put_in (fun vs H Q E h => ?_) (fun cdv A outer s H vs Q E hr h => ?_)
  · obtain ⟨t, q, x, y, rfl, _⟩ := h
    rfl
  obtain ⟨q, t, y, xs, rfl, hA, hy, bx, b_y, sx, oy, hl, k⟩ := h
  have hA' := hA
  obtain ⟨ps, hT, hP⟩ := hA'
  have el := Paired.length hP
  refine ⟨_, (pss_cons (ps_set (i := 2) sc_put_in.nd rfl (Or.inl rfl) (pe_call ((ok_position T).mono (by decide)) hr (by rfl) T.m_position T.F_position.kp T.b_position .nil pass0 (pa_cons (pv 0) (pa_cons (pv 1) pa_nil))))
      (pss_cons (ps_if (pt_cmpR op_eq (pe_op op_mod (pv 2) pe_int) pe_int (nomark _))
        (pss_one (ps_ret (pv 1)))
        pss_nil)
      (pss_cons (ps_set (i := 3) sc_put_in.nd rfl (Or.inl rfl) (pe_op op_fdiv (pv 2) pe_int))
      (pss_one (ps_ret (pe_op op_catA (pe_op op_catA (pe_slice sl_tupA (pv 1) po_none (po_some (pv 3))) (pe_tup (pa_cons (pv 0) pa_nil))) (pe_slice sl_tupA (pv 1) (po_some (pv 3)) po_none))))))), ?_⟩
  (repeat (first
      | refine ⟨_, rfl, ?_⟩
      | refine ⟨_, _, rfl, rfl, ?_⟩
      | refine Or.inl ⟨_, rfl, ?_⟩
      | refine Or.inr ⟨_, rfl, ?_⟩
      | refine ⟨Or.inl ⟨by decide, by decide⟩, ?_⟩
      | refine ⟨Or.inr ⟨by decide, by decide⟩, ?_⟩
      | refine ⟨⟨by decide, by decide⟩, ?_⟩
      | refine ⟨⟨by decide, by decide, by decide⟩, ?_⟩
      | refine ⟨by decide, ?_⟩
      | refine ⟨(by show (0 : Int) < _; decide), ?_⟩
      | refine ⟨rfl, ?_⟩
      | refine ⟨⟨_, rfl⟩, ?_⟩
      | refine ⟨_, rfl, rfl, trivial, ?_⟩
      | refine ⟨_, _, rfl, ?_⟩))
  refine ⟨q, t, y, xs, rfl, hA, hy, bx, b_y, sx, oy, hl, ?_⟩
  rw [pos2_in sx oy]
  have rl := rk_le y xs
  (repeat (first
      | refine ⟨_, rfl, ?_⟩
      | refine ⟨_, _, rfl, rfl, ?_⟩
      | refine Or.inl ⟨_, rfl, ?_⟩
      | refine Or.inr ⟨_, rfl, ?_⟩
      | refine ⟨Or.inl ⟨by decide, by decide⟩, ?_⟩
      | refine ⟨Or.inr ⟨by decide, by decide⟩, ?_⟩
      | refine ⟨⟨by decide, by decide⟩, ?_⟩
      | refine ⟨⟨by decide, by decide, by decide⟩, ?_⟩
      | refine ⟨by decide, ?_⟩
      | refine ⟨(by show (0 : Int) < _; decide), ?_⟩
      | refine ⟨rfl, ?_⟩
      | refine ⟨⟨_, rfl⟩, ?_⟩
      | refine ⟨_, rfl, rfl, trivial, ?_⟩
      | refine ⟨_, _, rfl, ?_⟩))
  refine ite_dec (fun c => ?_) (fun c => ?_)
  · have c' := V.int.inj c
    have hm : y ∈ xs := Classical.byContradiction fun z => by rw [if_neg z] at c'; omega
    (repeat (first
      | refine ⟨_, rfl, ?_⟩
      | refine ⟨_, _, rfl, rfl, ?_⟩
      | refine Or.inl ⟨_, rfl, ?_⟩
      | refine Or.inr ⟨_, rfl, ?_⟩
      | refine ⟨Or.inl ⟨by decide, by decide⟩, ?_⟩
      | refine ⟨Or.inr ⟨by decide, by decide⟩, ?_⟩
      | refine ⟨⟨by decide, by decide⟩, ?_⟩
      | refine ⟨⟨by decide, by decide, by decide⟩, ?_⟩
      | refine ⟨by decide, ?_⟩
      | refine ⟨(by show (0 : Int) < _; decide), ?_⟩
      | refine ⟨rfl, ?_⟩
      | refine ⟨⟨_, rfl⟩, ?_⟩
      | refine ⟨_, rfl, rfl, trivial, ?_⟩
      | refine ⟨_, _, rfl, ?_⟩))
    refine k t H (.refl H) ?_
    rw [with2_in sx hm]
    exact hA
  · have hm : y ∉ xs := fun z => c (by rw [if_pos z]; exact congrArg V.int (by omega))
    rw [if_neg hm]
    have em : (((2 * rk y xs + 0 : Nat) : Int)) / 2 = ((rk y xs : Nat) : Int) := by omega
    (repeat (first
      | refine ⟨_, rfl, ?_⟩
      | refine ⟨_, _, rfl, rfl, ?_⟩
      | refine Or.inl ⟨_, rfl, ?_⟩
      | refine Or.inr ⟨_, rfl, ?_⟩
      | refine ⟨Or.inl ⟨by decide, by decide⟩, ?_⟩
      | refine ⟨Or.inr ⟨by decide, by decide⟩, ?_⟩
      | refine ⟨⟨by decide, by decide⟩, ?_⟩
      | refine ⟨⟨by decide, by decide, by decide⟩, ?_⟩
      | refine ⟨by decide, ?_⟩
      | refine ⟨(by show (0 : Int) < _; decide), ?_⟩
      | refine ⟨rfl, ?_⟩
      | refine ⟨⟨_, rfl⟩, ?_⟩
      | refine ⟨_, rfl, rfl, trivial, ?_⟩
      | refine ⟨_, _, rfl, ?_⟩))
    have hpl : rk y xs ≤ (ps.map V.ref).length := by rw [List.length_map]; omega
    refine slA_any hT fun p1 H1 s1 h1 => ?_
    rw [em, cut_to hpl] at h1
    (repeat (first
      | refine ⟨_, rfl, ?_⟩
      | refine ⟨_, _, rfl, rfl, ?_⟩
      | refine Or.inl ⟨_, rfl, ?_⟩
      | refine Or.inr ⟨_, rfl, ?_⟩
      | refine ⟨Or.inl ⟨by decide, by decide⟩, ?_⟩
      | refine ⟨Or.inr ⟨by decide, by decide⟩, ?_⟩
      | refine ⟨⟨by decide, by decide⟩, ?_⟩
      | refine ⟨⟨by decide, by decide, by decide⟩, ?_⟩
      | refine ⟨by decide, ?_⟩
      | refine ⟨(by show (0 : Int) < _; decide), ?_⟩
      | refine ⟨rfl, ?_⟩
      | refine ⟨⟨_, rfl⟩, ?_⟩
      | refine ⟨_, rfl, rfl, trivial, ?_⟩
      | refine ⟨_, _, rfl, ?_⟩))
    refine ⟨by show 1 ≤ sizeLine; decide, fun p2 hp2 => ?_⟩
    have h1' := My.Same.sqT (same_upd (o := .tup [.ref q]) hp2) h1
    refine catA_any h1' (SqT.of upd_same) (small (by rw [List.length_take, List.length_map]; show _ + 1 ≤ _; omega)) fun p3 H3 s3 h3 => ?_
    have s13 : L2.Same H H3 := (s1.trans (same_upd hp2)).trans s3
    (repeat (first
      | refine ⟨_, rfl, ?_⟩
      | refine ⟨_, _, rfl, rfl, ?_⟩
      | refine Or.inl ⟨_, rfl, ?_⟩
      | refine Or.inr ⟨_, rfl, ?_⟩
      | refine ⟨Or.inl ⟨by decide, by decide⟩, ?_⟩
      | refine ⟨Or.inr ⟨by decide, by decide⟩, ?_⟩
      | refine ⟨⟨by decide, by decide⟩, ?_⟩
      | refine ⟨⟨by decide, by decide, by decide⟩, ?_⟩
      | refine ⟨by decide, ?_⟩
      | refine ⟨(by show (0 : Int) < _; decide), ?_⟩
      | refine ⟨rfl, ?_⟩
      | refine ⟨⟨_, rfl⟩, ?_⟩
      | refine ⟨_, rfl, rfl, trivial, ?_⟩
      | refine ⟨_, _, rfl, ?_⟩))
    dsimp only [tNoPart]
    refine slA_any (My.Same.sqT s13 hT) fun p4 H4 s4 h4 => ?_
    rw [em, cut_end hpl] at h4
    refine catA_any (My.Same.sqT s4 h3) h4 (small (by rw [List.length_append, List.length_take, List.length_drop, List.length_map]; show _ + 1 + _ ≤ _; omega)) fun p5 H5 s5 h5 => ?_
    refine k p5 H5 ((s13.trans s4).trans s5) ⟨ps.take (rk y xs) ++ [q] ++ ps.drop (rk y xs), ?_, ?_⟩
    · rw [List.map_append, List.map_append, List.map_take, List.map_drop]
      exact h5
    · rw [with2_out sx oy hm]
      exact Paired.mono (fun _ _ r => Nm.same ((s13.trans s4).trans s5) r) (Paired.app (Paired.app (Paired.takeQ _ hP) (.cons hy .nil)) (Paired.dropQ _ hP))
/-! ### questions_in -/
def sp_qin (K : PySem.W.Frag) : Sp := fun vs H Q _ => ∃ (p : Addr) (q : Qn), vs = [.ref p] ∧ Dp K H (.ref p) (qt q) ∧ Qk q ∧ ∀ D vs' H', L2.Same H H' → H' D = some (.lst vs') → DpAll K H' vs' ((kids q).map qt) → Q (.ref D) H'
theorem ok_questions_in (T : Top K mg w) : FnOk P w K mg base CX0 1 T.a_questions_in T.d_questions_in ["tree"] (sp_qin K) := by
  refine T.F_questions_in.ok sc_questions_in (fun vs H Q E h => ?_) (fun cdv A outer s H vs Q E hr h => ?_)
  · obtain ⟨p, q, rfl, _⟩ := h
    rfl
  obtain ⟨p, q, rfl, hd, hqk, k⟩ := h
  rw [qt_eq] at hd
  have htr : ∀ d ∈ (PyData.str (word q) :: (flds q ++ (kids q).map qt)), tr d = true := fun d hd => trL_iff.mp (by have := qt_tr q hqk; rw [qt_eq, tr, Bool.and_eq_true] at this; exact this.2) d hd
  have hfil : (PyData.str (word q) :: (flds q ++ (kids q).map qt)).filter isT = (kids q).map qt := by
    rw [List.filter_cons_of_neg (by intro z; cases z), List.filter_append, List.filter_eq_nil_iff.mpr fun f hf => by rw [flds_flat f hf]; decide, List.nil_append]
    refine List.filter_eq_self.mpr fun d hd => ?_
    obtain ⟨a, _, rfl⟩ := List.mem_map.mp hd
    exact qt_isT a
  have hlen : (PyData.str (word q) :: (flds q ++ (kids q).map qt)).length ≤ 10 := by cases q <;> simp [flds, kids]
  generalize (PyData.str (word q) :: (flds q ++ (kids q).map qt)) = fs at hd htr hfil hlen
  cases hd with
  | @tup _ ys _ hT t =>
  have lys := DpAll.len t
  refine ⟨_, (pss_one (ps_ret (pe_lc (own := [("item", 1)]) (g := gName 1) (by rfl) sc_questions_in.nd (pi_tup (pv 0)) (blkOk_by (own := [("item", 1)]) (N := ["tree", "item"]) (sc := defScope s_questions_in) (by decide +kernel)) (fun _ _ _ _ _ => (pg_name (i := 1) sc_questions_in.nd rfl (Or.inl rfl))) (fun _ _ _ _ _ => pts_one (pt_val (pe_callB (show CallR _ (.builtin "isinstance") (rIsi K) from call_isi) (by rfl) T.z_isinstance (by decide +kernel) (pa_cons (pv 1) (pa_cons (pe_bltn (v := .ty "tuple") (u := .type "tuple") (by rfl) T.z_tuple (by decide +kernel) rfl) pa_nil))))) (fun _ _ _ _ _ => (pv 1))))), ?_⟩
  refine ⟨_, rfl, p, rfl, ⟨_, hT⟩, fun D hD => ?_⟩
  have smD : ∀ o, L2.Same H (upd H D o) := fun o => same_upd hD
  refine lc_tup (xs := ys) (fun i H' => H' = upd H D (.lst (selV isT (ys.take i) (fs.take i)))) rfl ?_ ?_ ?_
  · rintro i H' _ rfl
    exact My.Same.sqT (smD _) hT
  · rintro i x' H' hx' rfl
    obtain ⟨d, hdi, px⟩ := DpAll.at2 t hx'
    have htdi : tr d = true := htr d (List.mem_of_getElem? hdi)
    refine ⟨rfl, ?_⟩
    (repeat (first
      | refine ⟨_, rfl, ?_⟩
      | refine ⟨_, _, rfl, rfl, ?_⟩
      | refine Or.inl ⟨_, rfl, ?_⟩
      | refine Or.inr ⟨_, rfl, ?_⟩
      | refine ⟨Or.inl ⟨by decide, by decide⟩, ?_⟩
      | refine ⟨Or.inr ⟨by decide, by decide⟩, ?_⟩
      | refine ⟨⟨by decide, by decide⟩, ?_⟩
      | refine ⟨⟨by decide, by decide, by decide⟩, ?_⟩
      | refine ⟨by decide, ?_⟩
      | refine ⟨(by show (0 : Int) < _; decide), ?_⟩
      | refine ⟨rfl, ?_⟩
      | refine ⟨⟨_, rfl⟩, ?_⟩
      | refine ⟨_, rfl, rfl, trivial, ?_⟩
      | refine ⟨_, _, rfl, ?_⟩))
    refine ⟨_, _, _, _, isT d, rfl, .ty _, Dp.ty (Dp.same (smD _) px), isi_t htdi, ?_⟩
    (repeat (first
      | refine ⟨_, rfl, ?_⟩
      | refine ⟨_, _, rfl, rfl, ?_⟩
      | refine Or.inl ⟨_, rfl, ?_⟩
      | refine Or.inr ⟨_, rfl, ?_⟩
      | refine ⟨Or.inl ⟨by decide, by decide⟩, ?_⟩
      | refine ⟨Or.inr ⟨by decide, by decide⟩, ?_⟩
      | refine ⟨⟨by decide, by decide⟩, ?_⟩
      | refine ⟨⟨by decide, by decide, by decide⟩, ?_⟩
      | refine ⟨by decide, ?_⟩
      | refine ⟨(by show (0 : Int) < _; decide), ?_⟩
      | refine ⟨rfl, ?_⟩
      | refine ⟨⟨_, rfl⟩, ?_⟩
      | refine ⟨_, rfl, rfl, trivial, ?_⟩
      | refine ⟨_, _, rfl, ?_⟩))
    refine ite_b (fun cd => ?_) (fun cd => ?_)
    · (repeat (first
      | refine ⟨_, rfl, ?_⟩
      | refine ⟨_, _, rfl, rfl, ?_⟩
      | refine Or.inl ⟨_, rfl, ?_⟩
      | refine Or.inr ⟨_, rfl, ?_⟩
      | refine ⟨Or.inl ⟨by decide, by decide⟩, ?_⟩
      | refine ⟨Or.inr ⟨by decide, by decide⟩, ?_⟩
      | refine ⟨⟨by decide, by decide⟩, ?_⟩
      | refine ⟨⟨by decide, by decide, by decide⟩, ?_⟩
      | refine ⟨by decide, ?_⟩
      | refine ⟨(by show (0 : Int) < _; decide), ?_⟩
      | refine ⟨rfl, ?_⟩
      | refine ⟨⟨_, rfl⟩, ?_⟩
      | refine ⟨_, rfl, rfl, trivial, ?_⟩
      | refine ⟨_, _, rfl, ?_⟩))
      refine ⟨_, upd_same, smallL (by have := selV_le isT (ys.take i) (fs.take i); rw [List.length_take] at this; omega), ?_⟩
      rw [upd_upd, selV_step isT hx' hdi, if_pos cd]
    · show upd H D _ = upd H D _
      rw [selV_step isT hx' hdi, if_neg (by rw [cd]; decide), List.append_nil]
  rintro _ rfl
  rw [List.take_of_length_le (Nat.le_refl _), List.take_of_length_le (by omega)]
  have ds := selV_dp isT t
  rw [hfil] at ds
  exact k D _ _ (smD _) upd_same (DpAll.sx (fun _ _ h => My.Same.sqT (smD _) h) (fun _ _ h => (smD _).seq h) ds)
end
end My

namespace My
open PySem PySem.Spec PyProof.Rows L2
section
variable {P : Program} {w : World} {K : PySem.W.Frag} {mg : Str → Option Value} {base : Heap}
theorem gd_bd {x : Q2} (h : gd2 x) : bd2 1000 x := bd2_mono h.2 (by decide)
theorem pair2 {R : V → O2 → Prop} {ts : List V} {told : List O2} (h : Paired R ts told) (hl : told.length = 2) : ∃ u v a b, ts = [u, v] ∧ told = [a, b] ∧ R u a ∧ R v b := by
  match told, hl with
  | [a, b], _ =>
    cases h with
    | cons r1 t => cases t with
      | cons r2 t => cases t; exact ⟨_, _, a, b, rfl, rfl, r1, r2⟩
theorem pair3 {R : V → O2 → Prop} {ts : List V} {told : List O2} (h : Paired R ts told) (hl : told.length = 3) : ∃ u v z a b c, ts = [u, v, z] ∧ told = [a, b, c] ∧ R u a ∧ R v b ∧ R z c := by
  match told, hl with
  | [a, b, c], _ =>
    cases h with
    | cons r1 t => cases t with
      | cons r2 t => cases t with
        | cons r3 t => cases t; exact ⟨_, _, _, a, b, c, rfl, rfl, r1, r2, r3⟩
/-! ### answer_now -/
def sp_now (K : PySem.W.Frag) : Sp := fun vs H Q _ => ∃ (p td xp : Addr) (q : Qn) (ts : List V) (told : List O2) (nm : Str) (x : Q2), vs = [.ref p, .ref td, .str nm, .ref xp] ∧ Dp K H (.ref p) (qt q) ∧ isNow q = true ∧ SqL K H td ts ∧ Paired (Ov K H) ts told ∧ told.length = (kids q).length ∧ (∀ y, some y ∈ told → gd2 y) ∧ Nm K H xp x ∧ ∀ v H', L2.Same H H' → Ov K H' v (nowF q told nm x) → Q v H'
theorem ok_answer_now (T : Top K mg w) : FnOk P w K mg base CX0 2 T.a_answer_now T.d_answer_now ["tree", "told", "name", "number"] (sp_now K) := by
  refine T.F_answer_now.ok sc_answer_now (fun vs H Q E h => ?_) (fun cdv A outer s H vs Q E hr h => ?_)
  · obtain ⟨p, td, xp, q, ts, told, nm, x, rfl, _⟩ := h
    rfl
  obtain ⟨p, td, xp, q, ts, told, nm, x, rfl, hd, hn, hL, hP, hl, hg, hx, k⟩ := h
  rw [qt_eq] at hd
  cases hd with
  | @tup _ xs _ hT hA =>
  cases hA with
  | @cons x0 xr _ _ h0 hr0 =>
  cases h0
  refine ⟨_, (pss_cons (ps_set (i := 4) sc_answer_now.nd rfl (Or.inl rfl) (pe_ix ix_tup (pv 0) pe_int (fun _ _ => rfl)))
      (pss_cons (ps_if (pt_cmpR op_eq (pv 4) pe_str (nomark _))
        (pss_one (ps_ret (pv 3)))
        pss_nil)
      (pss_cons (ps_if (PW.pt (pw_and (pt_cmpR op_eq (pv 4) pe_str (nomark _)) (pw_and1 (pt_cmpR op_eq (pv 2) (pe_ix ix_tup (pv 0) pe_int (fun _ _ => rfl)) (nomark _)))))
        (pss_one (ps_ret (pv 3)))
        pss_nil)
      (pss_cons (ps_if (pt_cmpR op_eq (pv 4) pe_str (nomark _))
        (pss_one (ps_ret (pe_ifExp (pt_cmpR op_isN (pe_ix ix_list (pv 1) pe_int (fun _ _ => rfl)) pe_non (nomark _)) (pe_ix ix_list (pv 1) pe_int (fun _ _ => rfl)) (pe_ix ix_list (pv 1) pe_int (fun _ _ => rfl)))))
        pss_nil)
      (pss_cons (ps_if (PW.pt (pw_and (pt_cmpR op_eq (pv 4) pe_str (nomark _)) (pw_and (pt_cmpR (op_notInD (u65 hr)) pe_non (pv 1) (by rfl)) (pw_and1 (pt_val (pe_call ((ok_less T).mono (by decide)) hr (by rfl) T.m_less T.F_less.kp T.b_less .nil pass0 (pa_cons (pe_ix ix_list (pv 1) pe_int (fun _ _ => rfl)) (pa_cons (pe_ix ix_list (pv 1) pe_int (fun _ _ => rfl)) pa_nil))))))))
        (pss_one (ps_ret (pe_ix ix_list (pv 1) pe_int (fun _ _ => rfl))))
        pss_nil)
      (pss_cons (ps_if (PW.pt (pw_and (pt_cmpR op_eq (pv 4) pe_str (nomark _)) (pw_and (pt_cmpR (op_notInD (u65 hr)) pe_non (pv 1) (by rfl)) (pw_and1 (pt_cmpR (op_eqD hr.units) (pe_ix ix_list (pv 1) pe_int (fun _ _ => rfl)) (pe_ix ix_list (pv 1) pe_int (fun _ _ => rfl)) (nomark _))))))
        (pss_one (ps_ret (pe_ix ix_list (pv 1) pe_int (fun _ _ => rfl))))
        pss_nil)
      (pss_one (ps_ret pe_non)))))))), ?_⟩
  (repeat (first
      | refine ⟨_, rfl, ?_⟩
      | refine ⟨_, _, rfl, rfl, ?_⟩
      | refine Or.inl ⟨_, rfl, ?_⟩
      | refine Or.inr ⟨_, rfl, ?_⟩
      | refine ⟨Or.inl ⟨by decide, by decide⟩, ?_⟩
      | refine ⟨Or.inr ⟨by decide, by decide⟩, ?_⟩
      | refine ⟨⟨by decide, by decide⟩, ?_⟩
      | refine ⟨⟨by decide, by decide, by decide⟩, ?_⟩
      | refine ⟨by decide, ?_⟩
      | refine ⟨(by show (0 : Int) < _; decide), ?_⟩
      | refine ⟨rfl, ?_⟩
      | refine ⟨⟨_, rfl⟩, ?_⟩
      | refine ⟨_, rfl, rfl, trivial, ?_⟩
      | refine ⟨_, _, rfl, ?_⟩))
  refine ⟨p, _, 0, _, rfl, rfl, hT, atI_nat (j := 0) rfl, ?_⟩
  (repeat (first
      | refine ⟨_, rfl, ?_⟩
      | refine ⟨_, _, rfl, rfl, ?_⟩
      | refine Or.inl ⟨_, rfl, ?_⟩
      | refine Or.inr ⟨_, rfl, ?_⟩
      | refine ⟨Or.inl ⟨by decide, by decide⟩, ?_⟩
      | refine ⟨Or.inr ⟨by decide, by decide⟩, ?_⟩
      | refine ⟨⟨by decide, by decide⟩, ?_⟩
      | refine ⟨⟨by decide, by decide, by decide⟩, ?_⟩
      | refine ⟨by decide, ?_⟩
      | refine ⟨(by show (0 : Int) < _; decide), ?_⟩
      | refine ⟨rfl, ?_⟩
      | refine ⟨⟨_, rfl⟩, ?_⟩
      | refine ⟨_, rfl, rfl, trivial, ?_⟩
      | refine ⟨_, _, rfl, ?_⟩))
  cases q <;> first | (cases hn) | skip
  · (repeat (first
      | refine ifF ?_
      | refine ifT ?_
      | refine ⟨_, rfl, ?_⟩
      | refine ⟨_, _, rfl, rfl, ?_⟩
      | refine Or.inl ⟨_, rfl, ?_⟩
      | refine Or.inr ⟨_, rfl, ?_⟩
      | refine ⟨Or.inl ⟨by decide, by decide⟩, ?_⟩
      | refine ⟨Or.inr ⟨by decide, by decide⟩, ?_⟩
      | refine ⟨⟨by decide, by decide⟩, ?_⟩
      | refine ⟨⟨by decide, by decide, by decide⟩, ?_⟩
      | refine ⟨by decide, ?_⟩
      | refine ⟨(by show (0 : Int) < _; decide), ?_⟩
      | refine ⟨rfl, ?_⟩
      | refine ⟨⟨_, rfl⟩, ?_⟩
      | refine ⟨_, rfl, rfl, trivial, ?_⟩
      | refine ⟨_, _, rfl, ?_⟩))
    exact k _ H (.refl H) (Ov.of hx)
  · (repeat (first
      | refine ifF ?_
      | refine ifT ?_
      | refine ⟨_, rfl, ?_⟩
      | refine ⟨_, _, rfl, rfl, ?_⟩
      | refine Or.inl ⟨_, rfl, ?_⟩
      | refine Or.inr ⟨_, rfl, ?_⟩
      | refine ⟨Or.inl ⟨by decide, by decide⟩, ?_⟩
      | refine ⟨Or.inr ⟨by decide, by decide⟩, ?_⟩
      | refine ⟨⟨by decide, by decide⟩, ?_⟩
      | refine ⟨⟨by decide, by decide, by decide⟩, ?_⟩
      | refine ⟨by decide, ?_⟩
      | refine ⟨(by show (0 : Int) < _; decide), ?_⟩
      | refine ⟨rfl, ?_⟩
      | refine ⟨⟨_, rfl⟩, ?_⟩
      | refine ⟨_, rfl, rfl, trivial, ?_⟩
      | refine ⟨_, _, rfl, ?_⟩))
    exact k _ H (.refl H) rfl
  · rename_i n
    cases hr0 with
    | @cons x1 xr _ _ h1 hr1 =>
    cases h1
    (repeat (first
      | refine ifF ?_
      | refine ifT ?_
      | refine ⟨_, rfl, ?_⟩
      | refine ⟨_, _, rfl, rfl, ?_⟩
      | refine Or.inl ⟨_, rfl, ?_⟩
      | refine Or.inr ⟨_, rfl, ?_⟩
      | refine ⟨Or.inl ⟨by decide, by decide⟩, ?_⟩
      | refine ⟨Or.inr ⟨by decide, by decide⟩, ?_⟩
      | refine ⟨⟨by decide, by decide⟩, ?_⟩
      | refine ⟨⟨by decide, by decide, by decide⟩, ?_⟩
      | refine ⟨by decide, ?_⟩
      | refine ⟨(by show (0 : Int) < _; decide), ?_⟩
      | refine ⟨rfl, ?_⟩
      | refine ⟨⟨_, rfl⟩, ?_⟩
      | refine ⟨_, rfl, rfl, trivial, ?_⟩
      | refine ⟨_, _, rfl, ?_⟩))
    refine ⟨p, _, 1, _, rfl, rfl, hT, atI_nat (j := 1) rfl, ?_⟩
    (repeat (first
      | refine ifF ?_
      | refine ifT ?_
      | refine ⟨_, rfl, ?_⟩
      | refine ⟨_, _, rfl, rfl, ?_⟩
      | refine Or.inl ⟨_, rfl, ?_⟩
      | refine Or.inr ⟨_, rfl, ?_⟩
      | refine ⟨Or.inl ⟨by decide, by decide⟩, ?_⟩
      | refine ⟨Or.inr ⟨by decide, by decide⟩, ?_⟩
      | refine ⟨⟨by decide, by decide⟩, ?_⟩
      | refine ⟨⟨by decide, by decide, by decide⟩, ?_⟩
      | refine ⟨by decide, ?_⟩
      | refine ⟨(by show (0 : Int) < _; decide), ?_⟩
      | refine ⟨rfl, ?_⟩
      | refine ⟨⟨_, rfl⟩, ?_⟩
      | refine ⟨_, rfl, rfl, trivial, ?_⟩
      | refine ⟨_, _, rfl, ?_⟩))
    refine ite_dec (fun c => ?_) (fun c => ?_)
    · (repeat (first
      | refine ifF ?_
      | refine ifT ?_
      | refine ⟨_, rfl, ?_⟩
      | refine ⟨_, _, rfl, rfl, ?_⟩
      | refine Or.inl ⟨_, rfl, ?_⟩
      | refine Or.inr ⟨_, rfl, ?_⟩
      | refine ⟨Or.inl ⟨by decide, by decide⟩, ?_⟩
      | refine ⟨Or.inr ⟨by decide, by decide⟩, ?_⟩
      | refine ⟨⟨by decide, by decide⟩, ?_⟩
      | refine ⟨⟨by decide, by decide, by decide⟩, ?_⟩
      | refine ⟨by decide, ?_⟩
      | refine ⟨(by show (0 : Int) < _; decide), ?_⟩
      | refine ⟨rfl, ?_⟩
      | refine ⟨⟨_, rfl⟩, ?_⟩
      | refine ⟨_, rfl, rfl, trivial, ?_⟩
      | refine ⟨_, _, rfl, ?_⟩))
      refine k _ H (.refl H) ?_
      show Ov K H _ (if nm = n then some x else none)
      rw [if_pos (V.str.inj c)]
      exact Ov.of hx
    · (repeat (first
      | refine ifF ?_
      | refine ifT ?_
      | refine ⟨_, rfl, ?_⟩
      | refine ⟨_, _, rfl, rfl, ?_⟩
      | refine Or.inl ⟨_, rfl, ?_⟩
      | refine Or.inr ⟨_, rfl, ?_⟩
      | refine ⟨Or.inl ⟨by decide, by decide⟩, ?_⟩
      | refine ⟨Or.inr ⟨by decide, by decide⟩, ?_⟩
      | refine ⟨⟨by decide, by decide⟩, ?_⟩
      | refine ⟨⟨by decide, by decide, by decide⟩, ?_⟩
      | refine ⟨by decide, ?_⟩
      | refine ⟨(by show (0 : Int) < _; decide), ?_⟩
      | refine ⟨rfl, ?_⟩
      | refine ⟨⟨_, rfl⟩, ?_⟩
      | refine ⟨_, rfl, rfl, trivial, ?_⟩
      | refine ⟨_, _, rfl, ?_⟩))
      refine k _ H (.refl H) ?_
      show Ov K H _ (if nm = n then some x else none)
      rw [if_neg (fun z => c (by rw [z]))]
      rfl
  · obtain ⟨u, v, a, b, rfl, rfl, r1, r2⟩ := pair2 hP hl
    (repeat (first
      | refine ifF ?_
      | refine ifT ?_
      | refine ⟨_, rfl, ?_⟩
      | refine ⟨_, _, rfl, rfl, ?_⟩
      | refine Or.inl ⟨_, rfl, ?_⟩
      | refine Or.inr ⟨_, rfl, ?_⟩
      | refine ⟨Or.inl ⟨by decide, by decide⟩, ?_⟩
      | refine ⟨Or.inr ⟨by decide, by decide⟩, ?_⟩
      | refine ⟨⟨by decide, by decide⟩, ?_⟩
      | refine ⟨⟨by decide, by decide, by decide⟩, ?_⟩
      | refine ⟨by decide, ?_⟩
      | refine ⟨(by show (0 : Int) < _; decide), ?_⟩
      | refine ⟨rfl, ?_⟩
      | refine ⟨⟨_, rfl⟩, ?_⟩
      | refine ⟨_, rfl, rfl, trivial, ?_⟩
      | refine ⟨_, _, rfl, ?_⟩))
    refine ⟨.none, _, .non, .lst hL (Os.dps hP), non_shaped, oDs_shaped [a, b], ?_⟩
    rw [any_non]
    cases a with
    | none =>
      (repeat (first
      | refine ifF ?_
      | refine ifT ?_
      | refine ⟨_, rfl, ?_⟩
      | refine ⟨_, _, rfl, rfl, ?_⟩
      | refine Or.inl ⟨_, rfl, ?_⟩
      | refine Or.inr ⟨_, rfl, ?_⟩
      | refine ⟨Or.inl ⟨by decide, by decide⟩, ?_⟩
      | refine ⟨Or.inr ⟨by decide, by decide⟩, ?_⟩
      | refine ⟨⟨by decide, by decide⟩, ?_⟩
      | refine ⟨⟨by decide, by decide, by decide⟩, ?_⟩
      | refine ⟨by decide, ?_⟩
      | refine ⟨(by show (0 : Int) < _; decide), ?_⟩
      | refine ⟨rfl, ?_⟩
      | refine ⟨⟨_, rfl⟩, ?_⟩
      | refine ⟨_, rfl, rfl, trivial, ?_⟩
      | refine ⟨_, _, rfl, ?_⟩))
      exact k _ H (.refl H) rfl
    | some x1 =>
    cases b with
    | none =>
      (repeat (first
      | refine ifF ?_
      | refine ifT ?_
      | refine ⟨_, rfl, ?_⟩
      | refine ⟨_, _, rfl, rfl, ?_⟩
      | refine Or.inl ⟨_, rfl, ?_⟩
      | refine Or.inr ⟨_, rfl, ?_⟩
      | refine ⟨Or.inl ⟨by decide, by decide⟩, ?_⟩
      | refine ⟨Or.inr ⟨by decide, by decide⟩, ?_⟩
      | refine ⟨⟨by decide, by decide⟩, ?_⟩
      | refine ⟨⟨by decide, by decide, by decide⟩, ?_⟩
      | refine ⟨by decide, ?_⟩
      | refine ⟨(by show (0 : Int) < _; decide), ?_⟩
      | refine ⟨rfl, ?_⟩
      | refine ⟨⟨_, rfl⟩, ?_⟩
      | refine ⟨_, rfl, rfl, trivial, ?_⟩
      | refine ⟨_, _, rfl, ?_⟩))
      exact k _ H (.refl H) rfl
    | some x2 =>
      obtain ⟨p1, rfl, n1⟩ := r1
      obtain ⟨p2, rfl, n2⟩ := r2
      (repeat (first
      | refine ifF ?_
      | refine ifT ?_
      | refine ⟨_, rfl, ?_⟩
      | refine ⟨_, _, rfl, rfl, ?_⟩
      | refine Or.inl ⟨_, rfl, ?_⟩
      | refine Or.inr ⟨_, rfl, ?_⟩
      | refine ⟨Or.inl ⟨by decide, by decide⟩, ?_⟩
      | refine ⟨Or.inr ⟨by decide, by decide⟩, ?_⟩
      | refine ⟨⟨by decide, by decide⟩, ?_⟩
      | refine ⟨⟨by decide, by decide, by decide⟩, ?_⟩
      | refine ⟨by decide, ?_⟩
      | refine ⟨(by show (0 : Int) < _; decide), ?_⟩
      | refine ⟨rfl, ?_⟩
      | refine ⟨⟨_, rfl⟩, ?_⟩
      | refine ⟨_, rfl, rfl, trivial, ?_⟩
      | refine ⟨_, _, rfl, ?_⟩))
      refine ⟨td, _, 0, _, rfl, rfl, hL, atI_nat (j := 0) rfl, ?_⟩
      (repeat (first
      | refine ifF ?_
      | refine ifT ?_
      | refine ⟨_, rfl, ?_⟩
      | refine ⟨_, _, rfl, rfl, ?_⟩
      | refine Or.inl ⟨_, rfl, ?_⟩
      | refine Or.inr ⟨_, rfl, ?_⟩
      | refine ⟨Or.inl ⟨by decide, by decide⟩, ?_⟩
      | refine ⟨Or.inr ⟨by decide, by decide⟩, ?_⟩
      | refine ⟨⟨by decide, by decide⟩, ?_⟩
      | refine ⟨⟨by decide, by decide, by decide⟩, ?_⟩
      | refine ⟨by decide, ?_⟩
      | refine ⟨(by show (0 : Int) < _; decide), ?_⟩
      | refine ⟨rfl, ?_⟩
      | refine ⟨⟨_, rfl⟩, ?_⟩
      | refine ⟨_, rfl, rfl, trivial, ?_⟩
      | refine ⟨_, _, rfl, ?_⟩))
      refine ⟨td, _, 1, _, rfl, rfl, hL, atI_nat (j := 1) rfl, ?_⟩
      (repeat (first
      | refine ifF ?_
      | refine ifT ?_
      | refine ⟨_, rfl, ?_⟩
      | refine ⟨_, _, rfl, rfl, ?_⟩
      | refine Or.inl ⟨_, rfl, ?_⟩
      | refine Or.inr ⟨_, rfl, ?_⟩
      | refine ⟨Or.inl ⟨by decide, by decide⟩, ?_⟩
      | refine ⟨Or.inr ⟨by decide, by decide⟩, ?_⟩
      | refine ⟨⟨by decide, by decide⟩, ?_⟩
      | refine ⟨⟨by decide, by decide, by decide⟩, ?_⟩
      | refine ⟨by decide, ?_⟩
      | refine ⟨(by show (0 : Int) < _; decide), ?_⟩
      | refine ⟨rfl, ?_⟩
      | refine ⟨⟨_, rfl⟩, ?_⟩
      | refine ⟨_, rfl, rfl, trivial, ?_⟩
      | refine ⟨_, _, rfl, ?_⟩))
      refine ⟨p1, p2, x1, x2, rfl, n1, n2, gd_bd (hg x1 (by simp)), gd_bd (hg x2 (by simp)), ?_⟩
      (repeat (first
      | refine ifF ?_
      | refine ifT ?_
      | refine ⟨_, rfl, ?_⟩
      | refine ⟨_, _, rfl, rfl, ?_⟩
      | refine Or.inl ⟨_, rfl, ?_⟩
      | refine Or.inr ⟨_, rfl, ?_⟩
      | refine ⟨Or.inl ⟨by decide, by decide⟩, ?_⟩
      | refine ⟨Or.inr ⟨by decide, by decide⟩, ?_⟩
      | refine ⟨⟨by decide, by decide⟩, ?_⟩
      | refine ⟨⟨by decide, by decide, by decide⟩, ?_⟩
      | refine ⟨by decide, ?_⟩
      | refine ⟨(by show (0 : Int) < _; decide), ?_⟩
      | refine ⟨rfl, ?_⟩
      | refine ⟨⟨_, rfl⟩, ?_⟩
      | refine ⟨_, rfl, rfl, trivial, ?_⟩
      | refine ⟨_, _, rfl, ?_⟩))
      refine ite_dec (fun c => ?_) (fun c => ?_)
      · refine ⟨_, rfl, td, _, 0, _, rfl, rfl, hL, atI_nat (j := 0) rfl, ?_⟩
        refine k _ H (.refl H) ?_
        show Ov K H _ (if lt2 x1 x2 then some x1 else none)
        rw [if_pos c]
        exact Ov.of n1
      · (repeat (first
      | refine ifF ?_
      | refine ifT ?_
      | refine ⟨_, rfl, ?_⟩
      | refine ⟨_, _, rfl, rfl, ?_⟩
      | refine Or.inl ⟨_, rfl, ?_⟩
      | refine Or.inr ⟨_, rfl, ?_⟩
      | refine ⟨Or.inl ⟨by decide, by decide⟩, ?_⟩
      | refine ⟨Or.inr ⟨by decide, by decide⟩, ?_⟩
      | refine ⟨⟨by decide, by decide⟩, ?_⟩
      | refine ⟨⟨by decide, by decide, by decide⟩, ?_⟩
      | refine ⟨by decide, ?_⟩
      | refine ⟨(by show (0 : Int) < _; decide), ?_⟩
      | refine ⟨rfl, ?_⟩
      | refine ⟨⟨_, rfl⟩, ?_⟩
      | refine ⟨_, rfl, rfl, trivial, ?_⟩
      | refine ⟨_, _, rfl, ?_⟩))
        refine k _ H (.refl H) ?_
        show Ov K H _ (if lt2 x1 x2 then some x1 else none)
        rw [if_neg c]
        rfl
  · obtain ⟨u, v, a, b, rfl, rfl, r1, r2⟩ := pair2 hP hl
    (repeat (first
      | refine ifF ?_
      | refine ifT ?_
      | refine ⟨_, rfl, ?_⟩
      | refine ⟨_, _, rfl, rfl, ?_⟩
      | refine Or.inl ⟨_, rfl, ?_⟩
      | refine Or.inr ⟨_, rfl, ?_⟩
      | refine ⟨Or.inl ⟨by decide, by decide⟩, ?_⟩
      | refine ⟨Or.inr ⟨by decide, by decide⟩, ?_⟩
      | refine ⟨⟨by decide, by decide⟩, ?_⟩
      | refine ⟨⟨by decide, by decide, by decide⟩, ?_⟩
      | refine ⟨by decide, ?_⟩
      | refine ⟨(by show (0 : Int) < _; decide), ?_⟩
      | refine ⟨rfl, ?_⟩
      | refine ⟨⟨_, rfl⟩, ?_⟩
      | refine ⟨_, rfl, rfl, trivial, ?_⟩
      | refine ⟨_, _, rfl, ?_⟩))
    refine ⟨.none, _, .non, .lst hL (Os.dps hP), non_shaped, oDs_shaped [a, b], ?_⟩
    rw [any_non]
    cases a with
    | none =>
      (repeat (first
      | refine ifF ?_
      | refine ifT ?_
      | refine ⟨_, rfl, ?_⟩
      | refine ⟨_, _, rfl, rfl, ?_⟩
      | refine Or.inl ⟨_, rfl, ?_⟩
      | refine Or.inr ⟨_, rfl, ?_⟩
      | refine ⟨Or.inl ⟨by decide, by decide⟩, ?_⟩
      | refine ⟨Or.inr ⟨by decide, by decide⟩, ?_⟩
      | refine ⟨⟨by decide, by decide⟩, ?_⟩
      | refine ⟨⟨by decide, by decide, by decide⟩, ?_⟩
      | refine ⟨by decide, ?_⟩
      | refine ⟨(by show (0 : Int) < _; decide), ?_⟩
      | refine ⟨rfl, ?_⟩
      | refine ⟨⟨_, rfl⟩, ?_⟩
      | refine ⟨_, rfl, rfl, trivial, ?_⟩
      | refine ⟨_, _, rfl, ?_⟩))
      exact k _ H (.refl H) rfl
    | some x1 =>
    cases b with
    | none =>
      (repeat (first
      | refine ifF ?_
      | refine ifT ?_
      | refine ⟨_, rfl, ?_⟩
      | refine ⟨_, _, rfl, rfl, ?_⟩
      | refine Or.inl ⟨_, rfl, ?_⟩
      | refine Or.inr ⟨_, rfl, ?_⟩
      | refine ⟨Or.inl ⟨by decide, by decide⟩, ?_⟩
      | refine ⟨Or.inr ⟨by decide, by decide⟩, ?_⟩
      | refine ⟨⟨by decide, by decide⟩, ?_⟩
      | refine ⟨⟨by decide, by decide, by decide⟩, ?_⟩
      | refine ⟨by decide, ?_⟩
      | refine ⟨(by show (0 : Int) < _; decide), ?_⟩
      | refine ⟨rfl, ?_⟩
      | refine ⟨⟨_, rfl⟩, ?_⟩
      | refine ⟨_, rfl, rfl, trivial, ?_⟩
      | refine ⟨_, _, rfl, ?_⟩))
      exact k _ H (.refl H) rfl
    | some x2 =>
      obtain ⟨p1, rfl, n1⟩ := r1
      obtain ⟨p2, rfl, n2⟩ := r2
      (repeat (first
      | refine ifF ?_
      | refine ifT ?_
      | refine ⟨_, rfl, ?_⟩
      | refine ⟨_, _, rfl, rfl, ?_⟩
      | refine Or.inl ⟨_, rfl, ?_⟩
      | refine Or.inr ⟨_, rfl, ?_⟩
      | refine ⟨Or.inl ⟨by decide, by decide⟩, ?_⟩
      | refine ⟨Or.inr ⟨by decide, by decide⟩, ?_⟩
      | refine ⟨⟨by decide, by decide⟩, ?_⟩
      | refine ⟨⟨by decide, by decide, by decide⟩, ?_⟩
      | refine ⟨by decide, ?_⟩
      | refine ⟨(by show (0 : Int) < _; decide), ?_⟩
      | refine ⟨rfl, ?_⟩
      | refine ⟨⟨_, rfl⟩, ?_⟩
      | refine ⟨_, rfl, rfl, trivial, ?_⟩
      | refine ⟨_, _, rfl, ?_⟩))
      refine ⟨td, _, 0, _, rfl, rfl, hL, atI_nat (j := 0) rfl, ?_⟩
      (repeat (first
      | refine ifF ?_
      | refine ifT ?_
      | refine ⟨_, rfl, ?_⟩
      | refine ⟨_, _, rfl, rfl, ?_⟩
      | refine Or.inl ⟨_, rfl, ?_⟩
      | refine Or.inr ⟨_, rfl, ?_⟩
      | refine ⟨Or.inl ⟨by decide, by decide⟩, ?_⟩
      | refine ⟨Or.inr ⟨by decide, by decide⟩, ?_⟩
      | refine ⟨⟨by decide, by decide⟩, ?_⟩
      | refine ⟨⟨by decide, by decide, by decide⟩, ?_⟩
      | refine ⟨by decide, ?_⟩
      | refine ⟨(by show (0 : Int) < _; decide), ?_⟩
      | refine ⟨rfl, ?_⟩
      | refine ⟨⟨_, rfl⟩, ?_⟩
      | refine ⟨_, rfl, rfl, trivial, ?_⟩
      | refine ⟨_, _, rfl, ?_⟩))
      refine ⟨td, _, 1, _, rfl, rfl, hL, atI_nat (j := 1) rfl, ?_⟩
      refine ⟨qD x1, qD x2, Nm.dp n1, Nm.dp n2, qD_shaped x1, qD_shaped x2, ?_⟩
      rw [qD_eqv]
      (repeat (first
      | refine ifF ?_
      | refine ifT ?_
      | refine ⟨_, rfl, ?_⟩
      | refine ⟨_, _, rfl, rfl, ?_⟩
      | refine Or.inl ⟨_, rfl, ?_⟩
      | refine Or.inr ⟨_, rfl, ?_⟩
      | refine ⟨Or.inl ⟨by decide, by decide⟩, ?_⟩
      | refine ⟨Or.inr ⟨by decide, by decide⟩, ?_⟩
      | refine ⟨⟨by decide, by decide⟩, ?_⟩
      | refine ⟨⟨by decide, by decide, by decide⟩, ?_⟩
      | refine ⟨by decide, ?_⟩
      | refine ⟨(by show (0 : Int) < _; decide), ?_⟩
      | refine ⟨rfl, ?_⟩
      | refine ⟨⟨_, rfl⟩, ?_⟩
      | refine ⟨_, rfl, rfl, trivial, ?_⟩
      | refine ⟨_, _, rfl, ?_⟩))
      refine ite_dec (fun c => ?_) (fun c => ?_)
      · refine ⟨_, rfl, td, _, 0, _, rfl, rfl, hL, atI_nat (j := 0) rfl, ?_⟩
        refine k _ H (.refl H) ?_
        show Ov K H _ (if x1 = x2 then some x1 else none)
        rw [if_pos c]
        exact Ov.of n1
      · (repeat (first
      | refine ifF ?_
      | refine ifT ?_
      | refine ⟨_, rfl, ?_⟩
      | refine ⟨_, _, rfl, rfl, ?_⟩
      | refine Or.inl ⟨_, rfl, ?_⟩
      | refine Or.inr ⟨_, rfl, ?_⟩
      | refine ⟨Or.inl ⟨by decide, by decide⟩, ?_⟩
      | refine ⟨Or.inr ⟨by decide, by decide⟩, ?_⟩
      | refine ⟨⟨by decide, by decide⟩, ?_⟩
      | refine ⟨⟨by decide, by decide, by decide⟩, ?_⟩
      | refine ⟨by decide, ?_⟩
      | refine ⟨(by show (0 : Int) < _; decide), ?_⟩
      | refine ⟨rfl, ?_⟩
      | refine ⟨⟨_, rfl⟩, ?_⟩
      | refine ⟨_, rfl, rfl, trivial, ?_⟩
      | refine ⟨_, _, rfl, ?_⟩))
        refine k _ H (.refl H) ?_
        show Ov K H _ (if x1 = x2 then some x1 else none)
        rw [if_neg c]
        rfl
  · obtain ⟨u, v, z, a, b, c, rfl, rfl, r1, r2, r3⟩ := pair3 hP hl
    (repeat (first
      | refine ifF ?_
      | refine ifT ?_
      | refine ⟨_, rfl, ?_⟩
      | refine ⟨_, _, rfl, rfl, ?_⟩
      | refine Or.inl ⟨_, rfl, ?_⟩
      | refine Or.inr ⟨_, rfl, ?_⟩
      | refine ⟨Or.inl ⟨by decide, by decide⟩, ?_⟩
      | refine ⟨Or.inr ⟨by decide, by decide⟩, ?_⟩
      | refine ⟨⟨by decide, by decide⟩, ?_⟩
      | refine ⟨⟨by decide, by decide, by decide⟩, ?_⟩
      | refine ⟨by decide, ?_⟩
      | refine ⟨(by show (0 : Int) < _; decide), ?_⟩
      | refine ⟨rfl, ?_⟩
      | refine ⟨⟨_, rfl⟩, ?_⟩
      | refine ⟨_, rfl, rfl, trivial, ?_⟩
      | refine ⟨_, _, rfl, ?_⟩))
    refine ⟨td, _, 0, _, rfl, rfl, hL, atI_nat (j := 0) rfl, ?_⟩
    cases a with
    | none =>
      have e1 : u = .non := r1
      subst e1
      (repeat (first
      | refine ifF ?_
      | refine ifT ?_
      | refine ⟨_, rfl, ?_⟩
      | refine ⟨_, _, rfl, rfl, ?_⟩
      | refine Or.inl ⟨_, rfl, ?_⟩
      | refine Or.inr ⟨_, rfl, ?_⟩
      | refine ⟨Or.inl ⟨by decide, by decide⟩, ?_⟩
      | refine ⟨Or.inr ⟨by decide, by decide⟩, ?_⟩
      | refine ⟨⟨by decide, by decide⟩, ?_⟩
      | refine ⟨⟨by decide, by decide, by decide⟩, ?_⟩
      | refine ⟨by decide, ?_⟩
      | refine ⟨(by show (0 : Int) < _; decide), ?_⟩
      | refine ⟨rfl, ?_⟩
      | refine ⟨⟨_, rfl⟩, ?_⟩
      | refine ⟨_, rfl, rfl, trivial, ?_⟩
      | refine ⟨_, _, rfl, ?_⟩))
      refine ⟨td, _, 2, _, rfl, rfl, hL, atI_nat (j := 2) rfl, ?_⟩
      exact k _ H (.refl H) r3
    | some x1 =>
      obtain ⟨p1, rfl, n1⟩ := r1
      (repeat (first
      | refine ifF ?_
      | refine ifT ?_
      | refine ⟨_, rfl, ?_⟩
      | refine ⟨_, _, rfl, rfl, ?_⟩
      | refine Or.inl ⟨_, rfl, ?_⟩
      | refine Or.inr ⟨_, rfl, ?_⟩
      | refine ⟨Or.inl ⟨by decide, by decide⟩, ?_⟩
      | refine ⟨Or.inr ⟨by decide, by decide⟩, ?_⟩
      | refine ⟨⟨by decide, by decide⟩, ?_⟩
      | refine ⟨⟨by decide, by decide, by decide⟩, ?_⟩
      | refine ⟨by decide, ?_⟩
      | refine ⟨(by show (0 : Int) < _; decide), ?_⟩
      | refine ⟨rfl, ?_⟩
      | refine ⟨⟨_, rfl⟩, ?_⟩
      | refine ⟨_, rfl, rfl, trivial, ?_⟩
      | refine ⟨_, _, rfl, ?_⟩))
      refine ⟨td, _, 1, _, rfl, rfl, hL, atI_nat (j := 1) rfl, ?_⟩
      exact k _ H (.refl H) r2
end
end My

namespace My
open PySem PySem.Spec PyProof.Rows L2
theorem pf_step {α β : Type} (F : List α → β) {l : List α} {k : Nat} (h : k < l.length) : pf F (l.take (k + 1)) = pf F (l.take k) ++ [F (l.take (k + 1))] := by
  rw [take_snoc h, pf_snoc]
theorem pget2 {α β : Type} {R : α → β → Prop} {xs : List α} {ys : List β} {i : Nat} {x : α} (h : Paired R xs ys) (e : xs[i]? = some x) : ∃ (hi : i < ys.length), R x ys[i] := by
  obtain ⟨y, ey, r⟩ := pget h e
  obtain ⟨h1, h2⟩ := List.getElem?_eq_some_iff.mp ey
  exact ⟨h1, by rw [h2]; exact r⟩
theorem pget3 {α β : Type} {R : α → β → Prop} : ∀ {xs : List α} {ys : List β} {i : Nat}, Paired R xs ys → (h : i < ys.length) → ∃ x, xs[i]? = some x ∧ R x ys[i]
  | _, _, _, .nil, h => absurd h (Nat.not_lt_zero _)
  | _, _, 0, .cons r _, _ => ⟨_, rfl, r⟩
  | _, _, i + 1, .cons _ t, h => by
    obtain ⟨x, e, r⟩ := pget3 (i := i) t (Nat.lt_of_succ_lt_succ h)
    exact ⟨x, by simpa using e, by simpa using r⟩
def LF (b : Bool) : List O2 → O2 := if b = true then lastF else firstF
def LW (b : Bool) : Str := if b = true then "last" else "first"
theorem LF_snoc (b : Bool) (l : List O2) (a : O2) : LF b (l ++ [a]) = if b = true then lastS (LF b l) a else firstS (LF b l) a := by
  cases b
  · exact firstF_snoc l a
  · exact lastF_snoc l a
def GF (b : Bool) (k : Nat) : List O2 → O2 := if b = true then greatF k else leastF k
def GW (b : Bool) : Str := if b = true then "great" else "least"
/-- answers so far, in a list of one's own -/
def SqO (K : PySem.W.Frag) (H : Hp) (a : Addr) (os : List O2) : Prop := ∃ ts, SqL K H a ts ∧ Paired (Ov K H) ts os
theorem SqO.same {K : PySem.W.Frag} {H H' : Hp} {a : Addr} {os : List O2} (e : L2.Same H H') (h : SqO K H a os) : SqO K H' a os := by
  obtain ⟨ts, h1, h2⟩ := h
  exact ⟨ts, e.seq h1, Os.tx (TX.same e) h2⟩
section
variable {P : Program} {w : World} {K : PySem.W.Frag} {mg : Str → Option Value} {base : Heap}
/-! ### _latest_or_first -/
abbrev NewO (K : PySem.W.Frag) (H : Hp) (os : List O2) (Q : VK) : Prop := ∀ D vs' H', L2.Same H H' → H D = none → H' D = some (.lst vs') → Paired (Ov K H') vs' os → Q (.ref D) H'
def sp_lof (K : PySem.W.Frag) : Sp := fun vs H Q _ => ∃ (b : Bool) (td : Addr) (os : List O2), vs = [.str (LW b), .ref td] ∧ SqO K H td os ∧ os.length ≤ 1000 ∧ NewO K H (pf (LF b) os) Q
theorem ok_latest_or_first (T : Top K mg w) : FnOk P w K mg base CX0 1 T.a_latest_or_first T.d_latest_or_first ["word", "told"] (sp_lof K) := by
  refine T.F_latest_or_first.ok sc_latest_or_first (fun vs H Q E h => ?_) (fun cdv A outer s H vs Q E hr h => ?_)
  · obtain ⟨b, td, os, rfl, _⟩ := h
    rfl
  obtain ⟨b, td, os, rfl, ⟨ts, hL, hP⟩, hl, k⟩ := h
  have el := Paired.length hP
  refine ⟨_, (pss_cons (ps_set (i := 2) sc_latest_or_first.nd rfl (Or.inl rfl) (pe_lst pa_nil))
      (pss_cons (ps_set (i := 3) sc_latest_or_first.nd rfl (Or.inl rfl) pe_non)
      (pss_cons (ps_for PassesOwn.never rfl (pi_list (pv 1)) (pg_name (i := 4) sc_latest_or_first.nd rfl (Or.inl rfl))
        (pss_cons (ps_if (PW.pt (pw_and (pt_cmpR op_notN (pv 4) pe_non (nomark _)) (pw_and1 (PW.pt (pw_or (pt_cmpR op_eq (pv 0) pe_str (nomark _)) (pw_or1 (pt_cmpR op_isN (pv 3) pe_non (nomark _))))))))
        (pss_one (ps_set (i := 3) sc_latest_or_first.nd rfl (Or.inl rfl) (pv 4)))
        pss_nil)
      (pss_one (ps_expr (pe_bm PySem.F.plainAttrs_list PySem.F.slot_list_append PySem.F.type_list_append mt_append (pv 2) (pa_cons (pv 3) pa_nil))))))
      (pss_one (ps_ret (pv 2)))))), ?_⟩
  (repeat (first
      | refine ⟨_, rfl, ?_⟩
      | refine ⟨_, _, rfl, rfl, ?_⟩
      | refine Or.inl ⟨_, rfl, ?_⟩
      | refine Or.inr ⟨_, rfl, ?_⟩
      | refine ⟨Or.inl ⟨by decide, by decide⟩, ?_⟩
      | refine ⟨Or.inr ⟨by decide, by decide⟩, ?_⟩
      | refine ⟨⟨by decide, by decide⟩, ?_⟩
      | refine ⟨⟨by decide, by decide, by decide⟩, ?_⟩
      | refine ⟨by decide, ?_⟩
      | refine ⟨(by show (0 : Int) < _; decide), ?_⟩
      | refine ⟨rfl, ?_⟩
      | refine ⟨⟨_, rfl⟩, ?_⟩
      | refine ⟨_, rfl, rfl, trivial, ?_⟩
      | refine ⟨_, _, rfl, ?_⟩))
  refine fun D hD => ?_
  have sD : ∀ o, L2.Same H (upd H D o) := fun o => same_upd hD
  (repeat (first
      | refine ⟨_, rfl, ?_⟩
      | refine ⟨_, _, rfl, rfl, ?_⟩
      | refine Or.inl ⟨_, rfl, ?_⟩
      | refine Or.inr ⟨_, rfl, ?_⟩
      | refine ⟨Or.inl ⟨by decide, by decide⟩, ?_⟩
      | refine ⟨Or.inr ⟨by decide, by decide⟩, ?_⟩
      | refine ⟨⟨by decide, by decide⟩, ?_⟩
      | refine ⟨⟨by decide, by decide, by decide⟩, ?_⟩
      | refine ⟨by decide, ?_⟩
      | refine ⟨(by show (0 : Int) < _; decide), ?_⟩
      | refine ⟨rfl, ?_⟩
      | refine ⟨⟨_, rfl⟩, ?_⟩
      | refine ⟨_, rfl, rfl, trivial, ?_⟩
      | refine ⟨_, _, rfl, ?_⟩))
  refine ⟨⟨_, (sD _).seq hL⟩, for_list (xs := ts) (fun i σ H' => ∃ (vs' : List V) (f : V) (y4 : Option V), σ = [some (.str (LW b)), some (.ref td), some (.ref D), some f, y4] ∧ H' = upd H D (.lst vs') ∧ Ov K H f (LF b (os.take i)) ∧ Paired (Ov K H) vs' (pf (LF b) (os.take i))) ?_ ?_ ?_ ?_⟩
  · refine ⟨[], .non, none, rfl, rfl, ?_, .nil⟩
    cases b <;> rfl
  · rintro i σ H' _ ⟨vs', f, y4, rfl, rfl, _⟩
    exact (sD _).seq hL
  · rintro i x σ H' hi ⟨vs', f, y4, rfl, rfl, hf, hv⟩
    obtain ⟨hio, ro⟩ := pget2 hP hi
    have lv := Paired.length hv
    rw [pf_len, List.length_take] at lv
    have hnew := pf_step (LF b) hio
    have hsn : LF b (os.take (i + 1)) = if b = true then lastS (LF b (os.take i)) os[i] else firstS (LF b (os.take i)) os[i] := by rw [take_snoc hio, LF_snoc]
    have fin : ∀ g : V, Ov K H g (LF b (os.take (i + 1))) → ∃ (vs'' : List V) (f : V) (y4 : Option V), [some (.str (LW b)), some (.ref td), some (.ref D), some g, some x] = [some (.str (LW b)), some (.ref td), some (.ref D), some f, y4] ∧ upd (upd H D (.lst vs')) D (.lst (vs' ++ [g])) = upd H D (.lst vs'') ∧ Ov K H f (LF b (os.take (i + 1))) ∧ Paired (Ov K H) vs'' (pf (LF b) (os.take (i + 1))) := fun g hg =>
      ⟨vs' ++ [g], g, some x, rfl, upd_upd, hg, by rw [hnew]; exact papp hv (.cons hg .nil)⟩
    have app : ∀ (g : V) (R : Hp → Prop), R (upd (upd H D (.lst vs')) D (.lst (vs' ++ [g]))) → R (upd (upd H D (.lst vs')) D (.lst (vs' ++ [g]))) := fun _ _ h => h
    cases ho : os[i] with
    | none =>
      rw [ho] at ro hsn
      have ex : x = .non := ro
      subst ex
      (repeat (first
      | refine ifF ?_
      | refine ifT ?_
      | refine ⟨_, rfl, ?_⟩
      | refine ⟨_, _, rfl, rfl, ?_⟩
      | refine Or.inl ⟨_, rfl, ?_⟩
      | refine Or.inr ⟨_, rfl, ?_⟩
      | refine ⟨Or.inl ⟨by decide, by decide⟩, ?_⟩
      | refine ⟨Or.inr ⟨by decide, by decide⟩, ?_⟩
      | refine ⟨⟨by decide, by decide⟩, ?_⟩
      | refine ⟨⟨by decide, by decide, by decide⟩, ?_⟩
      | refine ⟨by decide, ?_⟩
      | refine ⟨(by show (0 : Int) < _; decide), ?_⟩
      | refine ⟨rfl, ?_⟩
      | refine ⟨⟨_, rfl⟩, ?_⟩
      | refine ⟨_, rfl, rfl, trivial, ?_⟩
      | refine ⟨_, _, rfl, ?_⟩))
      refine ⟨.inl ⟨rfl, _, SqL.of upd_same⟩, ?_⟩
      (repeat (first
      | refine ifF ?_
      | refine ifT ?_
      | refine ⟨_, rfl, ?_⟩
      | refine ⟨_, _, rfl, rfl, ?_⟩
      | refine Or.inl ⟨_, rfl, ?_⟩
      | refine Or.inr ⟨_, rfl, ?_⟩
      | refine ⟨Or.inl ⟨by decide, by decide⟩, ?_⟩
      | refine ⟨Or.inr ⟨by decide, by decide⟩, ?_⟩
      | refine ⟨⟨by decide, by decide⟩, ?_⟩
      | refine ⟨⟨by decide, by decide, by decide⟩, ?_⟩
      | refine ⟨by decide, ?_⟩
      | refine ⟨(by show (0 : Int) < _; decide), ?_⟩
      | refine ⟨rfl, ?_⟩
      | refine ⟨⟨_, rfl⟩, ?_⟩
      | refine ⟨_, rfl, rfl, trivial, ?_⟩
      | refine ⟨_, _, rfl, ?_⟩))
      refine ⟨D, _, _, rfl, rfl, upd_same, smallL (by omega), ?_⟩
      refine fin f ?_
      rw [hsn]
      cases b with
      | true => exact hf
      | false =>
        show Ov K H f (firstS (LF false (os.take i)) none)
        unfold firstS
        split
        · exact hf
        · rename_i hz
          cases hq : LF false (os.take i) with
          | none => rw [hq] at hf; exact hf
          | some u => rw [hq] at hz; exact absurd rfl hz
    | some z =>
      rw [ho] at ro hsn
      obtain ⟨pz, rfl, nz⟩ := ro
      cases b with
      | true =>
        (repeat (first
      | refine ifF ?_
      | refine ifT ?_
      | refine ⟨_, rfl, ?_⟩
      | refine ⟨_, _, rfl, rfl, ?_⟩
      | refine Or.inl ⟨_, rfl, ?_⟩
      | refine Or.inr ⟨_, rfl, ?_⟩
      | refine ⟨Or.inl ⟨by decide, by decide⟩, ?_⟩
      | refine ⟨Or.inr ⟨by decide, by decide⟩, ?_⟩
      | refine ⟨⟨by decide, by decide⟩, ?_⟩
      | refine ⟨⟨by decide, by decide, by decide⟩, ?_⟩
      | refine ⟨by decide, ?_⟩
      | refine ⟨(by show (0 : Int) < _; decide), ?_⟩
      | refine ⟨rfl, ?_⟩
      | refine ⟨⟨_, rfl⟩, ?_⟩
      | refine ⟨_, rfl, rfl, trivial, ?_⟩
      | refine ⟨_, _, rfl, ?_⟩))
        refine ⟨.inl ⟨rfl, _, SqL.of upd_same⟩, ?_⟩
        (repeat (first
      | refine ifF ?_
      | refine ifT ?_
      | refine ⟨_, rfl, ?_⟩
      | refine ⟨_, _, rfl, rfl, ?_⟩
      | refine Or.inl ⟨_, rfl, ?_⟩
      | refine Or.inr ⟨_, rfl, ?_⟩
      | refine ⟨Or.inl ⟨by decide, by decide⟩, ?_⟩
      | refine ⟨Or.inr ⟨by decide, by decide⟩, ?_⟩
      | refine ⟨⟨by decide, by decide⟩, ?_⟩
      | refine ⟨⟨by decide, by decide, by decide⟩, ?_⟩
      | refine ⟨by decide, ?_⟩
      | refine ⟨(by show (0 : Int) < _; decide), ?_⟩
      | refine ⟨rfl, ?_⟩
      | refine ⟨⟨_, rfl⟩, ?_⟩
      | refine ⟨_, rfl, rfl, trivial, ?_⟩
      | refine ⟨_, _, rfl, ?_⟩))
        refine ⟨D, _, _, rfl, rfl, upd_same, smallL (by omega), ?_⟩
        refine fin _ ?_
        rw [hsn]
        exact Ov.of nz
      | false =>
        cases hg : LF false (os.take i) with
        | none =>
          rw [hg] at hf
          have ef : f = .non := hf
          subst ef
          (repeat (first
      | refine ifF ?_
      | refine ifT ?_
      | refine ⟨_, rfl, ?_⟩
      | refine ⟨_, _, rfl, rfl, ?_⟩
      | refine Or.inl ⟨_, rfl, ?_⟩
      | refine Or.inr ⟨_, rfl, ?_⟩
      | refine ⟨Or.inl ⟨by decide, by decide⟩, ?_⟩
      | refine ⟨Or.inr ⟨by decide, by decide⟩, ?_⟩
      | refine ⟨⟨by decide, by decide⟩, ?_⟩
      | refine ⟨⟨by decide, by decide, by decide⟩, ?_⟩
      | refine ⟨by decide, ?_⟩
      | refine ⟨(by show (0 : Int) < _; decide), ?_⟩
      | refine ⟨rfl, ?_⟩
      | refine ⟨⟨_, rfl⟩, ?_⟩
      | refine ⟨_, rfl, rfl, trivial, ?_⟩
      | refine ⟨_, _, rfl, ?_⟩))
          refine ⟨.inl ⟨rfl, _, SqL.of upd_same⟩, ?_⟩
          (repeat (first
      | refine ifF ?_
      | refine ifT ?_
      | refine ⟨_, rfl, ?_⟩
      | refine ⟨_, _, rfl, rfl, ?_⟩
      | refine Or.inl ⟨_, rfl, ?_⟩
      | refine Or.inr ⟨_, rfl, ?_⟩
      | refine ⟨Or.inl ⟨by decide, by decide⟩, ?_⟩
      | refine ⟨Or.inr ⟨by decide, by decide⟩, ?_⟩
      | refine ⟨⟨by decide, by decide⟩, ?_⟩
      | refine ⟨⟨by decide, by decide, by decide⟩, ?_⟩
      | refine ⟨by decide, ?_⟩
      | refine ⟨(by show (0 : Int) < _; decide), ?_⟩
      | refine ⟨rfl, ?_⟩
      | refine ⟨⟨_, rfl⟩, ?_⟩
      | refine ⟨_, rfl, rfl, trivial, ?_⟩
      | refine ⟨_, _, rfl, ?_⟩))
          refine ⟨D, _, _, rfl, rfl, upd_same, smallL (by omega), ?_⟩
          refine fin _ ?_
          rw [hsn, hg]
          exact Ov.of nz
        | some u =>
          rw [hg] at hf
          obtain ⟨pu, rfl, nu⟩ := hf
          (repeat (first
      | refine ifF ?_
      | refine ifT ?_
      | refine ⟨_, rfl, ?_⟩
      | refine ⟨_, _, rfl, rfl, ?_⟩
      | refine Or.inl ⟨_, rfl, ?_⟩
      | refine Or.inr ⟨_, rfl, ?_⟩
      | refine ⟨Or.inl ⟨by decide, by decide⟩, ?_⟩
      | refine ⟨Or.inr ⟨by decide, by decide⟩, ?_⟩
      | refine ⟨⟨by decide, by decide⟩, ?_⟩
      | refine ⟨⟨by decide, by decide, by decide⟩, ?_⟩
      | refine ⟨by decide, ?_⟩
      | refine ⟨(by show (0 : Int) < _; decide), ?_⟩
      | refine ⟨rfl, ?_⟩
      | refine ⟨⟨_, rfl⟩, ?_⟩
      | refine ⟨_, rfl, rfl, trivial, ?_⟩
      | refine ⟨_, _, rfl, ?_⟩))
          refine ⟨.inl ⟨rfl, _, SqL.of upd_same⟩, ?_⟩
          (repeat (first
      | refine ifF ?_
      | refine ifT ?_
      | refine ⟨_, rfl, ?_⟩
      | refine ⟨_, _, rfl, rfl, ?_⟩
      | refine Or.inl ⟨_, rfl, ?_⟩
      | refine Or.inr ⟨_, rfl, ?_⟩
      | refine ⟨Or.inl ⟨by decide, by decide⟩, ?_⟩
      | refine ⟨Or.inr ⟨by decide, by decide⟩, ?_⟩
      | refine ⟨⟨by decide, by decide⟩, ?_⟩
      | refine ⟨⟨by decide, by decide, by decide⟩, ?_⟩
      | refine ⟨by decide, ?_⟩
      | refine ⟨(by show (0 : Int) < _; decide), ?_⟩
      | refine ⟨rfl, ?_⟩
      | refine ⟨⟨_, rfl⟩, ?_⟩
      | refine ⟨_, rfl, rfl, trivial, ?_⟩
      | refine ⟨_, _, rfl, ?_⟩))
          refine ⟨D, _, _, rfl, rfl, upd_same, smallL (by omega), ?_⟩
          refine fin _ ?_
          rw [hsn, hg]
          exact Ov.of nu
  · rintro σ H' ⟨vs', f, y4, rfl, rfl, hf, hv⟩
    rw [el, List.take_length] at hv
    exact ⟨_, rfl, k D vs' _ (sD _) hD upd_same (Os.tx (TX.same (sD _)) hv)⟩
end
end My

namespace My
open PySem PySem.Spec PyProof.Rows L2
theorem atI_neg {xs : List V} {k : Nat} {v : V} (h1 : 1 ≤ k) (h2 : k ≤ xs.length) (e : xs[xs.length - k]? = some v) : atI xs (-(k : Int)) = some v := by
  unfold atI
  have e1 : ixN xs.length (-(k : Int)) = some (xs.length - k) := by
    unfold ixN
    rw [if_neg (by omega), if_pos (by omega)]
    congr 1
    omega
  rw [e1]
  exact e
theorem BdL_of {xs : List Q2} (h : ∀ x ∈ xs, gd2 x) : BdL 1000 xs := fun x hx => gd_bd (h x hx)
theorem GF_at {b : Bool} {k : Nat} {os : List O2} (h : ¬ (setF os).length < k) : GF b k os = if b = true then (setF os)[(setF os).length - k]? else (setF os)[k - 1]? := by
  cases b
  · exact if_neg h
  · exact if_neg h
theorem GF_no {b : Bool} {k : Nat} {os : List O2} (h : (setF os).length < k) : GF b k os = none := by
  cases b
  · exact if_pos h
  · exact if_pos h
section
variable {P : Program} {w : World} {K : PySem.W.Frag} {mg : Str → Option Value} {base : Heap}
theorem TX.own {H H' : Hp} {D : Addr} {o : HO} {xs : List V} (h : H' D = some (.lst xs)) : TX K H' (upd H' D o) := TX.lst h
theorem Am.tx {H H' : Hp} {t : Addr} {xs : List Q2} (e : TX K H H') (h : Am K H t xs) : Am K H' t xs := by
  obtain ⟨ps, h1, h2⟩ := h
  exact ⟨ps, e _ _ h1, Paired.mono (fun _ _ q => e _ _ q) h2⟩
/-! ### _by_order -/
def sp_bo (K : PySem.W.Frag) : Sp := fun vs H Q _ => ∃ (b : Bool) (k : Nat) (td : Addr) (os : List O2), vs = [.str (GW b), .int (k : Int), .ref td] ∧ SqO K H td os ∧ (1 ≤ k ∧ k ≤ 3) ∧ (∀ x, some x ∈ os → gd2 x) ∧ os.length ≤ 900 ∧ NewO K H (pf (GF b k) os) Q
theorem ok_by_order (T : Top K mg w) : FnOk P w K mg base CX0 4 T.a_by_order T.d_by_order ["word", "k", "told"] (sp_bo K) := by
  refine T.F_by_order.ok sc_by_order (fun vs H Q E h => ?_) (fun cdv A outer s H vs Q E hr h => ?_)
  · obtain ⟨b, k, td, os, rfl, _⟩ := h
    rfl
  obtain ⟨b, k, td, os, rfl, ⟨ts, hL, hP⟩, hk, hg, hl, q⟩ := h
  have el := Paired.length hP
  refine ⟨_, (pss_cons (ps_set (i := 3) sc_by_order.nd rfl (Or.inl rfl) (pe_lst pa_nil))
      (pss_cons (ps_set (i := 4) sc_by_order.nd rfl (Or.inl rfl) (pe_tup pa_nil))
      (pss_cons (ps_for PassesOwn.never rfl (pi_list (pv 2)) (pg_name (i := 5) sc_by_order.nd rfl (Or.inl rfl))
        (C8.pss_cut (ps_if (pt_cmpR op_notN (pv 5) pe_non (nomark _))
        (pss_one (ps_set (i := 4) sc_by_order.nd rfl (Or.inl rfl) (pe_call ((ok_put_in T).mono (by decide)) hr (by rfl) T.m_put_in T.F_put_in.kp T.b_put_in .nil pass0 (pa_cons (pv 5) (pa_cons (pv 4) pa_nil)))))
        pss_nil)
      (pss_one (ps_if (pt_cmpR op_lt (pe_callB call_len_seq (by rfl) T.z_len (by decide +kernel) (pa_cons (pv 4) pa_nil)) (pv 1) (nomark _))
        (pss_one (ps_expr (pe_bm PySem.F.plainAttrs_list PySem.F.slot_list_append PySem.F.type_list_append mt_append (pv 3) (pa_cons pe_non pa_nil))))
        (pss_one (ps_expr (pe_bm PySem.F.plainAttrs_list PySem.F.slot_list_append PySem.F.type_list_append mt_append (pv 3) (pa_cons (pe_ifExp (pt_cmpR op_eq (pv 0) pe_str (nomark _)) (pe_ix ix_tup (pv 4) (pe_un un_neg (pv 1)) (fun _ _ => rfl)) (pe_ix ix_tup (pv 4) (pe_op op_sub (pv 1) pe_int) (fun _ _ => rfl))) pa_nil))))))))
      (pss_one (ps_ret (pv 3)))))), ?_⟩
  (repeat (first
      | refine ⟨_, rfl, ?_⟩
      | refine ⟨_, _, rfl, rfl, ?_⟩
      | refine Or.inl ⟨_, rfl, ?_⟩
      | refine Or.inr ⟨_, rfl, ?_⟩
      | refine ⟨Or.inl ⟨by decide, by decide⟩, ?_⟩
      | refine ⟨Or.inr ⟨by decide, by decide⟩, ?_⟩
      | refine ⟨⟨by decide, by decide⟩, ?_⟩
      | refine ⟨⟨by decide, by decide, by decide⟩, ?_⟩
      | refine ⟨by decide, ?_⟩
      | refine ⟨(by show (0 : Int) < _; decide), ?_⟩
      | refine ⟨rfl, ?_⟩
      | refine ⟨⟨_, rfl⟩, ?_⟩
      | refine ⟨_, rfl, rfl, trivial, ?_⟩
      | refine ⟨_, _, rfl, ?_⟩))
  refine fun D hD => ?_
  (repeat (first
      | refine ⟨_, rfl, ?_⟩
      | refine ⟨_, _, rfl, rfl, ?_⟩
      | refine Or.inl ⟨_, rfl, ?_⟩
      | refine Or.inr ⟨_, rfl, ?_⟩
      | refine ⟨Or.inl ⟨by decide, by decide⟩, ?_⟩
      | refine ⟨Or.inr ⟨by decide, by decide⟩, ?_⟩
      | refine ⟨⟨by decide, by decide⟩, ?_⟩
      | refine ⟨⟨by decide, by decide, by decide⟩, ?_⟩
      | refine ⟨by decide, ?_⟩
      | refine ⟨(by show (0 : Int) < _; decide), ?_⟩
      | refine ⟨rfl, ?_⟩
      | refine ⟨⟨_, rfl⟩, ?_⟩
      | refine ⟨_, rfl, rfl, trivial, ?_⟩
      | refine ⟨_, _, rfl, ?_⟩))
  refine fun df0 hdf0 => ?_
  have s0 : L2.Same H (upd (upd H D (.lst [])) df0 (.tup [])) := (same_upd hD).trans (same_upd hdf0)
  have hD0 : (upd (upd H D (.lst [])) df0 (.tup [])) D = some (.lst []) := same_upd hdf0 _ _ upd_same
  have hdf : SqT K (upd (upd H D (.lst [])) df0 (.tup [])) df0 [] := SqT.of upd_same
  generalize upd (upd H D (.lst [])) df0 (.tup []) = H0 at s0 hD0 hdf ⊢
  (repeat (first
      | refine ifF ?_
      | refine ifT ?_
      | refine ⟨_, rfl, ?_⟩
      | refine ⟨_, _, rfl, rfl, ?_⟩
      | refine Or.inl ⟨_, rfl, ?_⟩
      | refine Or.inr ⟨_, rfl, ?_⟩
      | refine ⟨Or.inl ⟨by decide, by decide⟩, ?_⟩
      | refine ⟨Or.inr ⟨by decide, by decide⟩, ?_⟩
      | refine ⟨⟨by decide, by decide⟩, ?_⟩
      | refine ⟨⟨by decide, by decide, by decide⟩, ?_⟩
      | refine ⟨by decide, ?_⟩
      | refine ⟨(by show (0 : Int) < _; decide), ?_⟩
      | refine ⟨rfl, ?_⟩
      | refine ⟨⟨_, rfl⟩, ?_⟩
      | refine ⟨_, rfl, rfl, trivial, ?_⟩
      | refine ⟨_, _, rfl, ?_⟩))
  refine ⟨⟨_, s0.seq hL⟩, for_list (xs := ts) (fun i σ H' => ∃ (vs' : List V) (df : Addr) (y5 : Option V), σ = [some (.str (GW b)), some (.int (k : Int)), some (.ref td), some (.ref D), some (.ref df), y5] ∧ L2.Same H H' ∧ H' D = some (.lst vs') ∧ Am K H' df (setF (os.take i)) ∧ Paired (Ov K H') vs' (pf (GF b k) (os.take i))) ?_ ?_ ?_ ?_⟩
  · exact ⟨[], df0, none, rfl, s0, hD0, ⟨[], hdf, .nil⟩, .nil⟩
  · rintro i σ H' _ ⟨vs', df, y5, rfl, sm, _⟩
    exact sm.seq hL
  · rintro i x σ H' hi ⟨vs', df, y5, rfl, sm, hDl, hdf', hv⟩
    obtain ⟨hio, ro⟩ := pget2 hP hi
    have ro' := Ov.tx (TX.same sm) ro
    have lv := Paired.length hv
    rw [pf_len, List.length_take] at lv
    have hnew := pf_step (GF b k) hio
    have hsn : setF (os.take (i + 1)) = setS (setF (os.take i)) os[i] := by rw [take_snoc hio, setF_snoc]
    have hok : ∀ j, (∀ x, some x ∈ os.take j → ok2 x) := fun j x hx => (hg x (List.mem_of_mem_take hx)).1
    have hset : ∀ j, (∀ x ∈ setF (os.take j), gd2 x) ∧ (setF (os.take j)).length ≤ 900 := fun j => by
      obtain ⟨_, h2, h3⟩ := setF_srt (hok j)
      rw [List.length_take] at h3
      exact ⟨fun x hx => hg x (List.mem_of_mem_take (h2 x hx)), by omega⟩
    (repeat (first
      | refine ⟨_, rfl, ?_⟩
      | refine ⟨_, _, rfl, rfl, ?_⟩
      | refine Or.inl ⟨_, rfl, ?_⟩
      | refine Or.inr ⟨_, rfl, ?_⟩
      | refine ⟨Or.inl ⟨by decide, by decide⟩, ?_⟩
      | refine ⟨Or.inr ⟨by decide, by decide⟩, ?_⟩
      | refine ⟨⟨by decide, by decide⟩, ?_⟩
      | refine ⟨⟨by decide, by decide, by decide⟩, ?_⟩
      | refine ⟨by decide, ?_⟩
      | refine ⟨(by show (0 : Int) < _; decide), ?_⟩
      | refine ⟨rfl, ?_⟩
      | refine ⟨⟨_, rfl⟩, ?_⟩
      | refine ⟨_, rfl, rfl, trivial, ?_⟩
      | refine ⟨_, _, rfl, ?_⟩))
    refine ⟨fun σ H2 => ∃ (df2 : Addr), σ = [some (.str (GW b)), some (.int (k : Int)), some (.ref td), some (.ref D), some (.ref df2), some x] ∧ L2.Same H' H2 ∧ Am K H2 df2 (setF (os.take (i + 1))), ?_, ?_⟩
    · cases ho : os[i] with
      | none =>
        rw [ho] at ro' hsn
        have ex : x = .non := ro'
        subst ex
        rw [show setS (setF (os.take i)) none = setF (os.take i) from rfl] at hsn
        rw [← hsn] at hdf'
        (repeat (first
      | refine ifF ?_
      | refine ifT ?_
      | refine ⟨_, rfl, ?_⟩
      | refine ⟨_, _, rfl, rfl, ?_⟩
      | refine Or.inl ⟨_, rfl, ?_⟩
      | refine Or.inr ⟨_, rfl, ?_⟩
      | refine ⟨Or.inl ⟨by decide, by decide⟩, ?_⟩
      | refine ⟨Or.inr ⟨by decide, by decide⟩, ?_⟩
      | refine ⟨⟨by decide, by decide⟩, ?_⟩
      | refine ⟨⟨by decide, by decide, by decide⟩, ?_⟩
      | refine ⟨by decide, ?_⟩
      | refine ⟨(by show (0 : Int) < _; decide), ?_⟩
      | refine ⟨rfl, ?_⟩
      | refine ⟨⟨_, rfl⟩, ?_⟩
      | refine ⟨_, rfl, rfl, trivial, ?_⟩
      | refine ⟨_, _, rfl, ?_⟩))
        exact ⟨.refl _, hdf'⟩
      | some z =>
        rw [ho] at ro' hsn
        obtain ⟨pz, rfl, nz⟩ := ro'
        have gz : gd2 z := hg z (by rw [← ho]; exact List.getElem_mem hio)
        (repeat (first
      | refine ifF ?_
      | refine ifT ?_
      | refine ⟨_, rfl, ?_⟩
      | refine ⟨_, _, rfl, rfl, ?_⟩
      | refine Or.inl ⟨_, rfl, ?_⟩
      | refine Or.inr ⟨_, rfl, ?_⟩
      | refine ⟨Or.inl ⟨by decide, by decide⟩, ?_⟩
      | refine ⟨Or.inr ⟨by decide, by decide⟩, ?_⟩
      | refine ⟨⟨by decide, by decide⟩, ?_⟩
      | refine ⟨⟨by decide, by decide, by decide⟩, ?_⟩
      | refine ⟨by decide, ?_⟩
      | refine ⟨(by show (0 : Int) < _; decide), ?_⟩
      | refine ⟨rfl, ?_⟩
      | refine ⟨⟨_, rfl⟩, ?_⟩
      | refine ⟨_, rfl, rfl, trivial, ?_⟩
      | refine ⟨_, _, rfl, ?_⟩))
        refine ⟨pz, df, z, setF (os.take i), rfl, hdf', nz, BdL_of (hset i).1, gd_bd gz, (setF_srt (hok i)).1, gz.1, by have := (hset i).2; omega, fun df2 H2 s2 h2 => ?_⟩
        rw [show with2 (setF (os.take i)) z = setF (os.take (i + 1)) from hsn.symm] at h2
        exact ⟨df2, rfl, s2, h2⟩
    · rintro σ H2 ⟨df2, rfl, s2, h2⟩
      have hD2 := s2 _ _ hDl
      have hv2 := Os.tx (TX.same s2) hv
      have h2' := h2
      obtain ⟨ps, hT, hPs⟩ := h2'
      have els := Paired.length hPs
      have sm2 := sm.trans s2
      have smD : ∀ o, L2.Same H (upd H2 D o) := fun o => same_upd2 hD sm2
      (repeat (first
      | refine ifF ?_
      | refine ifT ?_
      | refine ⟨_, rfl, ?_⟩
      | refine ⟨_, _, rfl, rfl, ?_⟩
      | refine Or.inl ⟨_, rfl, ?_⟩
      | refine Or.inr ⟨_, rfl, ?_⟩
      | refine ⟨Or.inl ⟨by decide, by decide⟩, ?_⟩
      | refine ⟨Or.inr ⟨by decide, by decide⟩, ?_⟩
      | refine ⟨⟨by decide, by decide⟩, ?_⟩
      | refine ⟨⟨by decide, by decide, by decide⟩, ?_⟩
      | refine ⟨by decide, ?_⟩
      | refine ⟨(by show (0 : Int) < _; decide), ?_⟩
      | refine ⟨rfl, ?_⟩
      | refine ⟨⟨_, rfl⟩, ?_⟩
      | refine ⟨_, rfl, rfl, trivial, ?_⟩
      | refine ⟨_, _, rfl, ?_⟩))
      refine ⟨df2, _, rfl, .inr hT, ?_⟩
      (repeat (first
      | refine ifF ?_
      | refine ifT ?_
      | refine ⟨_, rfl, ?_⟩
      | refine ⟨_, _, rfl, rfl, ?_⟩
      | refine Or.inl ⟨_, rfl, ?_⟩
      | refine Or.inr ⟨_, rfl, ?_⟩
      | refine ⟨Or.inl ⟨by decide, by decide⟩, ?_⟩
      | refine ⟨Or.inr ⟨by decide, by decide⟩, ?_⟩
      | refine ⟨⟨by decide, by decide⟩, ?_⟩
      | refine ⟨⟨by decide, by decide, by decide⟩, ?_⟩
      | refine ⟨by decide, ?_⟩
      | refine ⟨(by show (0 : Int) < _; decide), ?_⟩
      | refine ⟨rfl, ?_⟩
      | refine ⟨⟨_, rfl⟩, ?_⟩
      | refine ⟨_, rfl, rfl, trivial, ?_⟩
      | refine ⟨_, _, rfl, ?_⟩))
      rw [List.length_map, els]
      refine ite_dec (fun c => ?_) (fun c => ?_)
      · (repeat (first
      | refine ifF ?_
      | refine ifT ?_
      | refine ⟨_, rfl, ?_⟩
      | refine ⟨_, _, rfl, rfl, ?_⟩
      | refine Or.inl ⟨_, rfl, ?_⟩
      | refine Or.inr ⟨_, rfl, ?_⟩
      | refine ⟨Or.inl ⟨by decide, by decide⟩, ?_⟩
      | refine ⟨Or.inr ⟨by decide, by decide⟩, ?_⟩
      | refine ⟨⟨by decide, by decide⟩, ?_⟩
      | refine ⟨⟨by decide, by decide, by decide⟩, ?_⟩
      | refine ⟨by decide, ?_⟩
      | refine ⟨(by show (0 : Int) < _; decide), ?_⟩
      | refine ⟨rfl, ?_⟩
      | refine ⟨⟨_, rfl⟩, ?_⟩
      | refine ⟨_, rfl, rfl, trivial, ?_⟩
      | refine ⟨_, _, rfl, ?_⟩))
        refine ⟨.inl ⟨rfl, _, SqL.of hD2⟩, ?_⟩
        (repeat (first
      | refine ifF ?_
      | refine ifT ?_
      | refine ⟨_, rfl, ?_⟩
      | refine ⟨_, _, rfl, rfl, ?_⟩
      | refine Or.inl ⟨_, rfl, ?_⟩
      | refine Or.inr ⟨_, rfl, ?_⟩
      | refine ⟨Or.inl ⟨by decide, by decide⟩, ?_⟩
      | refine ⟨Or.inr ⟨by decide, by decide⟩, ?_⟩
      | refine ⟨⟨by decide, by decide⟩, ?_⟩
      | refine ⟨⟨by decide, by decide, by decide⟩, ?_⟩
      | refine ⟨by decide, ?_⟩
      | refine ⟨(by show (0 : Int) < _; decide), ?_⟩
      | refine ⟨rfl, ?_⟩
      | refine ⟨⟨_, rfl⟩, ?_⟩
      | refine ⟨_, rfl, rfl, trivial, ?_⟩
      | refine ⟨_, _, rfl, ?_⟩))
        refine ⟨D, _, _, rfl, rfl, hD2, smallL (by omega), ?_⟩
        have tx : TX K H2 (upd H2 D (.lst (vs' ++ [.non]))) := TX.lst hD2
        refine ⟨vs' ++ [.non], df2, some x, rfl, smD _, upd_same, Am.tx tx h2, ?_⟩
        rw [hnew, GF_no (by omega)]
        exact papp (Os.tx tx hv2) (.cons rfl .nil)
      · have hk2 : k ≤ (setF (os.take (i + 1))).length := by omega
        have res : ∀ v, Ov K H2 v (GF b k (os.take (i + 1))) → ∃ (vs'' : List V) (df : Addr) (y5 : Option V), [some (.str (GW b)), some (.int (k : Int)), some (.ref td), some (.ref D), some (.ref df2), some x] = [some (.str (GW b)), some (.int (k : Int)), some (.ref td), some (.ref D), some (.ref df), y5] ∧ L2.Same H (upd H2 D (.lst (vs' ++ [v]))) ∧ (upd H2 D (.lst (vs' ++ [v]))) D = some (.lst vs'') ∧ Am K (upd H2 D (.lst (vs' ++ [v]))) df (setF (os.take (i + 1))) ∧ Paired (Ov K (upd H2 D (.lst (vs' ++ [v])))) vs'' (pf (GF b k) (os.take (i + 1))) := fun v hv3 => by
          have tx : TX K H2 (upd H2 D (.lst (vs' ++ [v]))) := TX.lst hD2
          refine ⟨vs' ++ [v], df2, some x, rfl, smD _, upd_same, Am.tx tx h2, ?_⟩
          rw [hnew]
          exact papp (Os.tx tx hv2) (.cons (Ov.tx tx hv3) .nil)
        have hgf := GF_at (b := b) (k := k) (os := os.take (i + 1)) (by omega)
        (repeat (first
      | refine ifF ?_
      | refine ifT ?_
      | refine ⟨_, rfl, ?_⟩
      | refine ⟨_, _, rfl, rfl, ?_⟩
      | refine Or.inl ⟨_, rfl, ?_⟩
      | refine Or.inr ⟨_, rfl, ?_⟩
      | refine ⟨Or.inl ⟨by decide, by decide⟩, ?_⟩
      | refine ⟨Or.inr ⟨by decide, by decide⟩, ?_⟩
      | refine ⟨⟨by decide, by decide⟩, ?_⟩
      | refine ⟨⟨by decide, by decide, by decide⟩, ?_⟩
      | refine ⟨by decide, ?_⟩
      | refine ⟨(by show (0 : Int) < _; decide), ?_⟩
      | refine ⟨rfl, ?_⟩
      | refine ⟨⟨_, rfl⟩, ?_⟩
      | refine ⟨_, rfl, rfl, trivial, ?_⟩
      | refine ⟨_, _, rfl, ?_⟩))
        refine ⟨.inl ⟨rfl, _, SqL.of hD2⟩, ?_⟩
        cases b with
        | true =>
          (repeat (first
      | refine ifF ?_
      | refine ifT ?_
      | refine ⟨_, rfl, ?_⟩
      | refine ⟨_, _, rfl, rfl, ?_⟩
      | refine Or.inl ⟨_, rfl, ?_⟩
      | refine Or.inr ⟨_, rfl, ?_⟩
      | refine ⟨Or.inl ⟨by decide, by decide⟩, ?_⟩
      | refine ⟨Or.inr ⟨by decide, by decide⟩, ?_⟩
      | refine ⟨⟨by decide, by decide⟩, ?_⟩
      | refine ⟨⟨by decide, by decide, by decide⟩, ?_⟩
      | refine ⟨by decide, ?_⟩
      | refine ⟨(by show (0 : Int) < _; decide), ?_⟩
      | refine ⟨rfl, ?_⟩
      | refine ⟨⟨_, rfl⟩, ?_⟩
      | refine ⟨_, rfl, rfl, trivial, ?_⟩
      | refine ⟨_, _, rfl, ?_⟩))
          have hi2 : (setF (os.take (i + 1))).length - k < (setF (os.take (i + 1))).length := by omega
          obtain ⟨p, hp, np⟩ := Paired.at' hPs (List.getElem?_eq_getElem hi2)
          refine ⟨df2, _, _, _, rfl, rfl, hT, atI_neg hk.1 (by rw [List.length_map, els]; exact hk2) (v := .ref p) (by rw [List.length_map, els, List.getElem?_map, hp]; rfl), ?_⟩
          refine ⟨D, _, _, rfl, rfl, hD2, smallL (by omega), ?_⟩
          refine res _ ?_
          rw [hgf, if_pos rfl, List.getElem?_eq_getElem hi2]
          exact Ov.of np
        | false =>
          (repeat (first
      | refine ifF ?_
      | refine ifT ?_
      | refine ⟨_, rfl, ?_⟩
      | refine ⟨_, _, rfl, rfl, ?_⟩
      | refine Or.inl ⟨_, rfl, ?_⟩
      | refine Or.inr ⟨_, rfl, ?_⟩
      | refine ⟨Or.inl ⟨by decide, by decide⟩, ?_⟩
      | refine ⟨Or.inr ⟨by decide, by decide⟩, ?_⟩
      | refine ⟨⟨by decide, by decide⟩, ?_⟩
      | refine ⟨⟨by decide, by decide, by decide⟩, ?_⟩
      | refine ⟨by decide, ?_⟩
      | refine ⟨(by show (0 : Int) < _; decide), ?_⟩
      | refine ⟨rfl, ?_⟩
      | refine ⟨⟨_, rfl⟩, ?_⟩
      | refine ⟨_, rfl, rfl, trivial, ?_⟩
      | refine ⟨_, _, rfl, ?_⟩))
          have hi2 : k - 1 < (setF (os.take (i + 1))).length := by omega
          have ek : (k : Int) - 1 = ((k - 1 : Nat) : Int) := by omega
          obtain ⟨p, hp, np⟩ := Paired.at' hPs (List.getElem?_eq_getElem hi2)
          refine ⟨df2, _, _, .ref p, rfl, rfl, hT, by show atI _ ((k : Int) - 1) = _; rw [ek]; exact atI_nat (by rw [List.getElem?_map, hp]; rfl), ?_⟩
          refine ⟨D, _, _, rfl, rfl, hD2, smallL (by omega), ?_⟩
          refine res _ ?_
          rw [hgf, if_neg (by decide), List.getElem?_eq_getElem hi2]
          exact Ov.of np
  · rintro σ H' ⟨vs', df, y5, rfl, sm, hDl, hdf', hv⟩
    rw [el, List.take_length] at hv
    exact ⟨_, rfl, q D vs' _ sm hD hDl hv⟩
end
end My

namespace My
open PySem PySem.Spec PyProof.Rows L2
/-- the row on the heap -/
def SqR (K : PySem.W.Frag) (H : Hp) (a : Addr) (row : List Rec) : Prop := ∃ ts, SqL K H a ts ∧ Paired (Rv K H) ts row
theorem SqR.same {K : PySem.W.Frag} {H H' : Hp} {a : Addr} {row : List Rec} (e : L2.Same H H') (h : SqR K H a row) : SqR K H' a row := by
  obtain ⟨ts, h1, h2⟩ := h
  exact ⟨ts, e.seq h1, Rs.tx (TX.same e) h2⟩
theorem SqO.of {K : PySem.W.Frag} {H : Hp} {a : Addr} {ts : List V} {os : List O2} (h : H a = some (.lst ts)) (h' : Paired (Ov K H) ts os) : SqO K H a os := ⟨ts, SqL.of h, h'⟩
def cV (c : Nat) : V := .int (c : Int)
/-- questions that count -/
def CT : Qn → Nat → Bool
  | .times k _, c => decide (k ≤ c)
  | .circle m k _, c => decide (c % m = k)
  | _, _ => false
def ctA : Qn → Qn
  | .times _ a => a
  | .circle _ _ a => a
  | q => q
def isCt : Qn → Bool
  | .times _ _ | .circle _ _ _ => true
  | _ => false
theorem an_count {q : Qn} (h : isCt q = true) {row : List Rec} {i : Nat} (hi : i < row.length) : (an q row)[i]? = some (if CT q (cntF ((an (ctA q) row).take (i + 1))) = true then some row[i].2 else none) := by
  show (pf (mean q) row)[i]? = _
  rw [pf_get _ hi]
  cases q <;> first | (cases h) | skip
  · rename_i k a
    show some (if k ≤ cntF (pf (mean a) (row.take (i + 1))) then numO (row.take (i + 1)) else none) = some (if decide (k ≤ cntF ((pf (mean a) row).take (i + 1))) = true then _ else _)
    rw [pf_take, numO_at hi]
    by_cases hc : k ≤ cntF (pf (mean a) (row.take (i + 1)))
    · rw [if_pos hc, if_pos (decide_eq_true hc)]
    · rw [if_neg hc, if_neg (fun z => hc (of_decide_eq_true z))]
  · rename_i m k a
    show some (if cntF (pf (mean a) (row.take (i + 1))) % m = k then numO (row.take (i + 1)) else none) = some (if decide (cntF ((pf (mean a) row).take (i + 1)) % m = k) = true then _ else _)
    rw [pf_take, numO_at hi]
    by_cases hc : cntF (pf (mean a) (row.take (i + 1))) % m = k
    · rw [if_pos hc, if_pos (decide_eq_true hc)]
    · rw [if_neg hc, if_neg (fun z => hc (of_decide_eq_true z))]
theorem rI0_v {f : Int → Int → V} {i j : Int} {v : V} {H : Hp} {Q : VK} (e : f i j = v) (q : Q v H) : rI0 f (.int i) (.int j) H Q := ⟨i, j, rfl, rfl, by rw [e]; exact q⟩
theorem rI_v {c : Int → Int → Prop} {f : Int → Int → V} {i j : Int} {v : V} {H : Hp} {Q : VK} (h : c i j) (e : f i j = v) (q : Q v H) : rI c f (.int i) (.int j) H Q := ⟨i, j, rfl, rfl, h, by rw [e]; exact q⟩
section
variable {P : Program} {w : World} {K : PySem.W.Frag} {mg : Str → Option Value} {base : Heap}
/-! ### _counts -/
def sp_cts (K : PySem.W.Frag) : Sp := fun vs H Q _ => ∃ (td : Addr) (os : List O2), vs = [.ref td] ∧ SqO K H td os ∧ os.length ≤ 1000 ∧ ∀ D H', L2.Same H H' → H D = none → H' D = some (.lst ((pf cntF os).map cV)) → Q (.ref D) H'
theorem ok_counts (T : Top K mg w) : FnOk P w K mg base CX0 1 T.a_counts T.d_counts ["told"] (sp_cts K) := by
  refine T.F_counts.ok sc_counts (fun vs H Q E h => ?_) (fun cdv A outer s H vs Q E hr h => ?_)
  · obtain ⟨td, os, rfl, _⟩ := h
    rfl
  obtain ⟨td, os, rfl, ⟨ts, hL, hP⟩, hl, q⟩ := h
  have el := Paired.length hP
  refine ⟨_, (pss_cons (ps_set (i := 1) sc_counts.nd rfl (Or.inl rfl) (pe_lst pa_nil))
      (pss_cons (ps_set (i := 2) sc_counts.nd rfl (Or.inl rfl) pe_int)
      (pss_cons (ps_for PassesOwn.never rfl (pi_list (pv 0)) (pg_name (i := 3) sc_counts.nd rfl (Or.inl rfl))
        (pss_cons (ps_if (pt_cmpR op_notN (pv 3) pe_non (nomark _))
        (pss_one (ps_aug (i := 2) sc_counts.nd rfl (Or.inl rfl) pe_int ip_add))
        pss_nil)
      (pss_one (ps_expr (pe_bm PySem.F.plainAttrs_list PySem.F.slot_list_append PySem.F.type_list_append mt_append (pv 1) (pa_cons (pv 2) pa_nil))))))
      (pss_one (ps_ret (pv 1)))))), ?_⟩
  (repeat (first
      | refine ⟨_, rfl, ?_⟩
      | refine ⟨_, _, rfl, rfl, ?_⟩
      | refine Or.inl ⟨_, rfl, ?_⟩
      | refine Or.inr ⟨_, rfl, ?_⟩
      | refine ⟨Or.inl ⟨by decide, by decide⟩, ?_⟩
      | refine ⟨Or.inr ⟨by decide, by decide⟩, ?_⟩
      | refine ⟨⟨by decide, by decide⟩, ?_⟩
      | refine ⟨⟨by decide, by decide, by decide⟩, ?_⟩
      | refine ⟨by decide, ?_⟩
      | refine ⟨(by show (0 : Int) < _; decide), ?_⟩
      | refine ⟨rfl, ?_⟩
      | refine ⟨⟨_, rfl⟩, ?_⟩
      | refine ⟨_, rfl, rfl, trivial, ?_⟩
      | refine ⟨_, _, rfl, ?_⟩))
  refine fun D hD => ?_
  have sD : ∀ o, L2.Same H (upd H D o) := fun o => same_upd hD
  (repeat (first
      | refine ifF ?_
      | refine ifT ?_
      | refine ⟨_, rfl, ?_⟩
      | refine ⟨_, _, rfl, rfl, ?_⟩
      | refine Or.inl ⟨_, rfl, ?_⟩
      | refine Or.inr ⟨_, rfl, ?_⟩
      | refine ⟨Or.inl ⟨by decide, by decide⟩, ?_⟩
      | refine ⟨Or.inr ⟨by decide, by decide⟩, ?_⟩
      | refine ⟨⟨by decide, by decide⟩, ?_⟩
      | refine ⟨⟨by decide, by decide, by decide⟩, ?_⟩
      | refine ⟨by decide, ?_⟩
      | refine ⟨(by show (0 : Int) < _; decide), ?_⟩
      | refine ⟨rfl, ?_⟩
      | refine ⟨⟨_, rfl⟩, ?_⟩
      | refine ⟨_, rfl, rfl, trivial, ?_⟩
      | refine ⟨_, _, rfl, ?_⟩))
  refine ⟨⟨_, (sD _).seq hL⟩, for_list (xs := ts) (fun i σ H' => ∃ (y3 : Option V), σ = [some (.ref td), some (.ref D), some (cV (cntF (os.take i))), y3] ∧ H' = upd H D (.lst ((pf cntF (os.take i)).map cV))) ?_ ?_ ?_ ?_⟩
  · exact ⟨none, rfl, rfl⟩
  · rintro i σ H' _ ⟨y3, rfl, rfl⟩
    exact (sD _).seq hL
  · rintro i x σ H' hi ⟨y3, rfl, rfl⟩
    obtain ⟨hio, ro⟩ := pget2 hP hi
    have hsn : cntF (os.take (i + 1)) = cntF (os.take i) + (if os[i].isSome then 1 else 0) := by rw [take_snoc hio, cntF_snoc]
    have hlen : ((pf cntF (os.take i)).map cV).length < 100000 := by rw [List.length_map, pf_len, List.length_take]; omega
    cases ho : os[i] with
    | none =>
      rw [ho] at ro hsn
      have ex : x = .non := ro
      subst ex
      (repeat (first
      | refine ifF ?_
      | refine ifT ?_
      | refine ⟨_, rfl, ?_⟩
      | refine ⟨_, _, rfl, rfl, ?_⟩
      | refine Or.inl ⟨_, rfl, ?_⟩
      | refine Or.inr ⟨_, rfl, ?_⟩
      | refine ⟨Or.inl ⟨by decide, by decide⟩, ?_⟩
      | refine ⟨Or.inr ⟨by decide, by decide⟩, ?_⟩
      | refine ⟨⟨by decide, by decide⟩, ?_⟩
      | refine ⟨⟨by decide, by decide, by decide⟩, ?_⟩
      | refine ⟨by decide, ?_⟩
      | refine ⟨(by show (0 : Int) < _; decide), ?_⟩
      | refine ⟨rfl, ?_⟩
      | refine ⟨⟨_, rfl⟩, ?_⟩
      | refine ⟨_, rfl, rfl, trivial, ?_⟩
      | refine ⟨_, _, rfl, ?_⟩))
      refine ⟨.inl ⟨rfl, _, SqL.of upd_same⟩, ?_⟩
      (repeat (first
      | refine ifF ?_
      | refine ifT ?_
      | refine ⟨_, rfl, ?_⟩
      | refine ⟨_, _, rfl, rfl, ?_⟩
      | refine Or.inl ⟨_, rfl, ?_⟩
      | refine Or.inr ⟨_, rfl, ?_⟩
      | refine ⟨Or.inl ⟨by decide, by decide⟩, ?_⟩
      | refine ⟨Or.inr ⟨by decide, by decide⟩, ?_⟩
      | refine ⟨⟨by decide, by decide⟩, ?_⟩
      | refine ⟨⟨by decide, by decide, by decide⟩, ?_⟩
      | refine ⟨by decide, ?_⟩
      | refine ⟨(by show (0 : Int) < _; decide), ?_⟩
      | refine ⟨rfl, ?_⟩
      | refine ⟨⟨_, rfl⟩, ?_⟩
      | refine ⟨_, rfl, rfl, trivial, ?_⟩
      | refine ⟨_, _, rfl, ?_⟩))
      refine ⟨D, _, _, rfl, rfl, upd_same, smallL hlen, ?_⟩
      have e2 : cntF (os.take (i + 1)) = cntF (os.take i) := hsn
      rw [upd_upd, pf_step cntF hio, List.map_append, e2]
      exact ⟨_, rfl, rfl⟩
    | some z =>
      rw [ho] at ro hsn
      obtain ⟨pz, rfl, nz⟩ := ro
      have e2 : cntF (os.take (i + 1)) = cntF (os.take i) + 1 := hsn
      have e3 : ((cntF (os.take i) : Nat) : Int) + 1 = ((cntF (os.take (i + 1)) : Nat) : Int) := by rw [e2]; rfl
      have e4 : V.int (((cntF (os.take i) : Nat) : Int) + 1) = cV (cntF (os.take (i + 1))) := congrArg V.int e3
      (repeat (first
      | refine ifF ?_
      | refine ifT ?_
      | refine ⟨_, rfl, ?_⟩
      | refine ⟨_, _, rfl, rfl, ?_⟩
      | refine Or.inl ⟨_, rfl, ?_⟩
      | refine Or.inr ⟨_, rfl, ?_⟩
      | refine ⟨Or.inl ⟨by decide, by decide⟩, ?_⟩
      | refine ⟨Or.inr ⟨by decide, by decide⟩, ?_⟩
      | refine ⟨⟨by decide, by decide⟩, ?_⟩
      | refine ⟨⟨by decide, by decide, by decide⟩, ?_⟩
      | refine ⟨by decide, ?_⟩
      | refine ⟨(by show (0 : Int) < _; decide), ?_⟩
      | refine ⟨rfl, ?_⟩
      | refine ⟨⟨_, rfl⟩, ?_⟩
      | refine ⟨_, rfl, rfl, trivial, ?_⟩
      | refine ⟨_, _, rfl, ?_⟩))
      refine ⟨.inl ⟨rfl, _, SqL.of upd_same⟩, ?_⟩
      (repeat (first
      | refine ifF ?_
      | refine ifT ?_
      | refine ⟨_, rfl, ?_⟩
      | refine ⟨_, _, rfl, rfl, ?_⟩
      | refine Or.inl ⟨_, rfl, ?_⟩
      | refine Or.inr ⟨_, rfl, ?_⟩
      | refine ⟨Or.inl ⟨by decide, by decide⟩, ?_⟩
      | refine ⟨Or.inr ⟨by decide, by decide⟩, ?_⟩
      | refine ⟨⟨by decide, by decide⟩, ?_⟩
      | refine ⟨⟨by decide, by decide, by decide⟩, ?_⟩
      | refine ⟨by decide, ?_⟩
      | refine ⟨(by show (0 : Int) < _; decide), ?_⟩
      | refine ⟨rfl, ?_⟩
      | refine ⟨⟨_, rfl⟩, ?_⟩
      | refine ⟨_, rfl, rfl, trivial, ?_⟩
      | refine ⟨_, _, rfl, ?_⟩))
      refine ⟨D, _, _, rfl, rfl, upd_same, smallL hlen, ?_⟩
      rw [upd_upd, pf_step cntF hio, List.map_append]
      exact ⟨some (.ref pz), congrArg (fun v => [some (V.ref td), some (V.ref D), some v, some (V.ref pz)]) e4, congrArg (fun v => upd H D (.lst ((pf cntF (os.take i)).map cV ++ [v]))) e4⟩
  · rintro σ H' ⟨y3, rfl, rfl⟩
    rw [el, List.take_length]
    exact ⟨_, rfl, q D _ (sD _) hD upd_same⟩
/-! ### _by_count -/
def sp_bc (K : PySem.W.Frag) : Sp := fun vs H Q _ => ∃ (p td rw' : Addr) (qq : Qn) (row : List Rec), vs = [.ref p, .ref td, .ref rw'] ∧ Dp K H (.ref p) (qt qq) ∧ Qk qq ∧ isCt qq = true ∧ SqO K H td (an (ctA qq) row) ∧ SqR K H rw' row ∧ row.length ≤ 1000 ∧ NewO K H (an qq row) Q
theorem ok_by_count (T : Top K mg w) : FnOk P w K mg base CX0 2 T.a_by_count T.d_by_count ["tree", "told", "row"] (sp_bc K) := by
  refine T.F_by_count.ok sc_by_count (fun vs H Q E h => ?_) (fun cdv A outer s H vs Q E hr h => ?_)
  · obtain ⟨p, td, rw', qq, row, rfl, _⟩ := h
    rfl
  obtain ⟨p, td, rw', qq, row, rfl, hd, hk, hct, hO, ⟨ts, hL, hP⟩, hl, q⟩ := h
  have el := Paired.length hP
  refine ⟨_, (pss_cons (ps_set (i := 3) sc_by_count.nd rfl (Or.inl rfl) (pe_lst pa_nil))
      (pss_cons (ps_for PassesOwn.never rfl (pi_zip (by rfl) T.z_zip (pa_cons (pv 2) (pa_cons (pe_call ((ok_counts T).mono (by decide)) hr (by rfl) T.m_counts T.F_counts.kp T.b_counts .nil pass0 (pa_cons (pv 1) pa_nil)) pa_nil))) (pg_tup (by rfl) (pgs_cons (pg_tup (by rfl) (pgs_cons (pg_name (i := 4) sc_by_count.nd rfl (Or.inl rfl)) (pgs_cons (pg_name (i := 5) sc_by_count.nd rfl (Or.inl rfl)) pgs_nil))) (pgs_cons (pg_name (i := 6) sc_by_count.nd rfl (Or.inl rfl)) pgs_nil)))
        (pss_cons (ps_if (pt_cmpR op_eq (pe_ix ix_tup (pv 0) pe_int (fun _ _ => rfl)) pe_str (nomark _))
        (pss_one (ps_set (i := 7) sc_by_count.nd rfl (Or.inl rfl) (pe_cmpR op_ge (pv 6) (pe_ix ix_tup (pv 0) pe_int (fun _ _ => rfl)) (nomark _))))
        (pss_one (ps_set (i := 7) sc_by_count.nd rfl (Or.inl rfl) (pe_cmpR op_eq (pe_op op_mod (pv 6) (pe_ix ix_tup (pv 0) pe_int (fun _ _ => rfl))) (pe_ix ix_tup (pv 0) pe_int (fun _ _ => rfl)) (nomark _)))))
      (pss_one (ps_expr (pe_bm PySem.F.plainAttrs_list PySem.F.slot_list_append PySem.F.type_list_append mt_append (pv 3) (pa_cons (pe_ifExp (pt_val (pv 7)) (pv 5) pe_non) pa_nil))))))
      (pss_one (ps_ret (pv 3))))), ?_⟩
  (repeat (first
      | refine ⟨_, rfl, ?_⟩
      | refine ⟨_, _, rfl, rfl, ?_⟩
      | refine Or.inl ⟨_, rfl, ?_⟩
      | refine Or.inr ⟨_, rfl, ?_⟩
      | refine ⟨Or.inl ⟨by decide, by decide⟩, ?_⟩
      | refine ⟨Or.inr ⟨by decide, by decide⟩, ?_⟩
      | refine ⟨⟨by decide, by decide⟩, ?_⟩
      | refine ⟨⟨by decide, by decide, by decide⟩, ?_⟩
      | refine ⟨by decide, ?_⟩
      | refine ⟨(by show (0 : Int) < _; decide), ?_⟩
      | refine ⟨rfl, ?_⟩
      | refine ⟨⟨_, rfl⟩, ?_⟩
      | refine ⟨_, rfl, rfl, trivial, ?_⟩
      | refine ⟨_, _, rfl, ?_⟩))
  refine fun D hD => ?_
  have sD : L2.Same H (upd H D (.lst [])) := same_upd hD
  have hD0 : (upd H D (.lst [])) D = some (.lst []) := upd_same
  generalize upd H D (.lst []) = H0 at sD hD0 ⊢
  (repeat (first
      | refine ifF ?_
      | refine ifT ?_
      | refine ⟨_, rfl, ?_⟩
      | refine ⟨_, _, rfl, rfl, ?_⟩
      | refine Or.inl ⟨_, rfl, ?_⟩
      | refine Or.inr ⟨_, rfl, ?_⟩
      | refine ⟨Or.inl ⟨by decide, by decide⟩, ?_⟩
      | refine ⟨Or.inr ⟨by decide, by decide⟩, ?_⟩
      | refine ⟨⟨by decide, by decide⟩, ?_⟩
      | refine ⟨⟨by decide, by decide, by decide⟩, ?_⟩
      | refine ⟨by decide, ?_⟩
      | refine ⟨(by show (0 : Int) < _; decide), ?_⟩
      | refine ⟨rfl, ?_⟩
      | refine ⟨⟨_, rfl⟩, ?_⟩
      | refine ⟨_, rfl, rfl, trivial, ?_⟩
      | refine ⟨_, _, rfl, ?_⟩))
  refine ⟨td, _, rfl, SqO.same sD hO, by rw [an_len]; exact hl, fun C H1 s1 hC0 hC => ?_⟩
  have lenC : ts.length = ((pf cntF (an (ctA qq) row)).map cV).length := by rw [List.length_map, pf_len, an_len, el]
  have sm1 := sD.trans s1
  have hD1 := s1 _ _ hD0
  rw [qt_eq] at hd
  cases hd with
  | @tup _ txs _ hT hA =>
  have lenA := DpAll.len hA
  have hx0 : txs[0]? = some (.str (word qq)) := by
    cases hA with
    | cons h0 _ => cases h0; rfl
  have hCD : C ≠ D := fun z => by rw [z, hD0] at hC0; cases hC0
  (repeat (first
      | refine ifF ?_
      | refine ifT ?_
      | refine ⟨_, rfl, ?_⟩
      | refine ⟨_, _, rfl, rfl, ?_⟩
      | refine Or.inl ⟨_, rfl, ?_⟩
      | refine Or.inr ⟨_, rfl, ?_⟩
      | refine ⟨Or.inl ⟨by decide, by decide⟩, ?_⟩
      | refine ⟨Or.inr ⟨by decide, by decide⟩, ?_⟩
      | refine ⟨⟨by decide, by decide⟩, ?_⟩
      | refine ⟨⟨by decide, by decide, by decide⟩, ?_⟩
      | refine ⟨by decide, ?_⟩
      | refine ⟨(by show (0 : Int) < _; decide), ?_⟩
      | refine ⟨rfl, ?_⟩
      | refine ⟨⟨_, rfl⟩, ?_⟩
      | refine ⟨_, rfl, rfl, trivial, ?_⟩
      | refine ⟨_, _, rfl, ?_⟩))
  refine ⟨rw', C, _, _, rfl, sm1.seq hL, SqL.of hC, RZ.for_zipL lenC (fun i σ H' => ∃ (vs' : List V) (y4 y5 y6 y7 : Option V), σ = [some (.ref p), some (.ref td), some (.ref rw'), some (.ref D), y4, y5, y6, y7] ∧ L2.Same H H' ∧ H' C = some (.lst ((pf cntF (an (ctA qq) row)).map cV)) ∧ H' D = some (.lst vs') ∧ Paired (Ov K H') vs' ((an qq row).take i)) ?_ ?_ ?_ ?_⟩
  · exact ⟨[], none, none, none, none, rfl, sm1, hC, hD1, .nil⟩
  · rintro i σ H' ⟨vs', y4, y5, y6, y7, rfl, sm, hC', _⟩
    exact ⟨sm.seq hL, SqL.of hC'⟩
  · rintro i x y Z σ H' hx hy ⟨vs', y4, y5, y6, y7, rfl, sm, hC', hD', hv⟩ hZ
    obtain ⟨hir, ro⟩ := pget2 hP hx
    have ey : y = cV (cntF ((an (ctA qq) row).take (i + 1))) := by
      rw [List.getElem?_map, pf_get _ (by rw [an_len]; exact hir)] at hy
      exact (Option.some.inj hy).symm
    subst ey
    have lv := Paired.length hv
    rw [List.length_take, an_len] at lv
    obtain ⟨pr, pn, rfl, hpr, hpn⟩ := Rv.tx (TX.same sm) ro
    have hZu : L2.Same H' (upd H' Z (.tup [.ref pr, cV (cntF ((an (ctA qq) row).take (i + 1)))])) := same_upd hZ
    have hZ0 : (upd H' Z (.tup [.ref pr, cV (cntF ((an (ctA qq) row).take (i + 1)))])) Z = some (.tup [.ref pr, cV (cntF ((an (ctA qq) row).take (i + 1)))]) := upd_same
    have sm2 := sm.trans hZu
    have hC2 := hZu _ _ hC'
    have hD2 := hZu _ _ hD'
    have hv2 := Os.tx (TX.same hZu) hv
    have hpr2 := My.Same.sqT hZu hpr
    have hpn2 := Nm.same hZu hpn
    have hT2 := My.Same.sqT sm2 hT
    generalize upd H' Z (.tup [.ref pr, cV (cntF ((an (ctA qq) row).take (i + 1)))]) = H2 at hZ0 sm2 hC2 hD2 hv2 hpr2 hpn2 hT2 ⊢
    refine ⟨Z, _, rfl, SqT.of hZ0, rfl, ?_⟩
    refine ⟨_, _, rfl, ?_⟩
    refine ⟨pr, _, rfl, hpr2, rfl, ?_⟩
    have cts := an_count hct hir
    have tk : (an qq row).take (i + 1) = (an qq row).take i ++ [if CT qq (cntF ((an (ctA qq) row).take (i + 1))) = true then some row[i].2 else none] := by
      rw [List.take_succ, cts]
      rfl
    have fin : ∀ (b : Bool) (y4 y5 y6 y7 : Option V), CT qq (cntF ((an (ctA qq) row).take (i + 1))) = b → ∃ (vs'' : List V) (z4 z5 z6 z7 : Option V), [some (V.ref p), some (.ref td), some (.ref rw'), some (.ref D), y4, y5, y6, y7] = [some (V.ref p), some (.ref td), some (.ref rw'), some (.ref D), z4, z5, z6, z7] ∧ L2.Same H (upd H2 D (.lst (vs' ++ [if b = true then .ref pn else .non]))) ∧ (upd H2 D (.lst (vs' ++ [if b = true then .ref pn else .non]))) C = some (.lst ((pf cntF (an (ctA qq) row)).map cV)) ∧ (upd H2 D (.lst (vs' ++ [if b = true then .ref pn else .non]))) D = some (.lst vs'') ∧ Paired (Ov K (upd H2 D (.lst (vs' ++ [if b = true then .ref pn else .non])))) vs'' ((an qq row).take (i + 1)) := fun b y4 y5 y6 y7 hb => by
      have tx : TX K H2 (upd H2 D (.lst (vs' ++ [if b = true then .ref pn else .non]))) := TX.lst hD2
      refine ⟨_, y4, y5, y6, y7, rfl, same_upd2 hD sm2, by rw [upd_ne hCD]; exact hC2, upd_same, ?_⟩
      rw [tk, hb]
      refine papp (Os.tx tx hv2) (.cons ?_ .nil)
      cases b with
      | true => exact Ov.tx tx (Ov.of hpn2)
      | false => rfl
    (repeat (first
      | refine ifF ?_
      | refine ifT ?_
      | refine ⟨_, rfl, ?_⟩
      | refine ⟨_, _, rfl, rfl, ?_⟩
      | refine Or.inl ⟨_, rfl, ?_⟩
      | refine Or.inr ⟨_, rfl, ?_⟩
      | refine ⟨Or.inl ⟨by decide, by decide⟩, ?_⟩
      | refine ⟨Or.inr ⟨by decide, by decide⟩, ?_⟩
      | refine ⟨⟨by decide, by decide⟩, ?_⟩
      | refine ⟨⟨by decide, by decide, by decide⟩, ?_⟩
      | refine ⟨by decide, ?_⟩
      | refine ⟨(by show (0 : Int) < _; decide), ?_⟩
      | refine ⟨rfl, ?_⟩
      | refine ⟨⟨_, rfl⟩, ?_⟩
      | refine ⟨_, rfl, rfl, trivial, ?_⟩
      | refine ⟨_, _, rfl, ?_⟩))
    refine ⟨p, _, 0, _, rfl, rfl, hT2, atI_nat (j := 0) hx0, ?_⟩
    cases qq <;> first | (cases hct) | skip
    · rename_i kk aa
      have hx1 : txs[1]? = some (.int (kk : Int)) := by
        cases hA with
        | cons _ hr => cases hr with
          | cons h1 _ => cases h1; rfl
      (repeat (first
      | refine ifF ?_
      | refine ifT ?_
      | refine ⟨_, rfl, ?_⟩
      | refine ⟨_, _, rfl, rfl, ?_⟩
      | refine Or.inl ⟨_, rfl, ?_⟩
      | refine Or.inr ⟨_, rfl, ?_⟩
      | refine ⟨Or.inl ⟨by decide, by decide⟩, ?_⟩
      | refine ⟨Or.inr ⟨by decide, by decide⟩, ?_⟩
      | refine ⟨⟨by decide, by decide⟩, ?_⟩
      | refine ⟨⟨by decide, by decide, by decide⟩, ?_⟩
      | refine ⟨by decide, ?_⟩
      | refine ⟨(by show (0 : Int) < _; decide), ?_⟩
      | refine ⟨rfl, ?_⟩
      | refine ⟨⟨_, rfl⟩, ?_⟩
      | refine ⟨_, rfl, rfl, trivial, ?_⟩
      | refine ⟨_, _, rfl, ?_⟩))
      refine ⟨p, _, 1, _, rfl, rfl, hT2, atI_nat (j := 1) hx1, ?_⟩
      cases hb : CT (.times kk aa) (cntF ((an aa row).take (i + 1))) with
      | false =>
        refine rI0_v (i := ((cntF ((an aa row).take (i + 1)) : Nat) : Int)) (j := (kk : Int)) (v := .bl false) (congrArg V.bl (decide_eq_false fun z => of_decide_eq_false hb (by omega))) ?_
        have fin' := fun a b c d => fin false a b c d hb
        (repeat (first
      | refine ifF ?_
      | refine ifT ?_
      | refine ⟨_, rfl, ?_⟩
      | refine ⟨_, _, rfl, rfl, ?_⟩
      | refine Or.inl ⟨_, rfl, ?_⟩
      | refine Or.inr ⟨_, rfl, ?_⟩
      | refine ⟨Or.inl ⟨by decide, by decide⟩, ?_⟩
      | refine ⟨Or.inr ⟨by decide, by decide⟩, ?_⟩
      | refine ⟨⟨by decide, by decide⟩, ?_⟩
      | refine ⟨⟨by decide, by decide, by decide⟩, ?_⟩
      | refine ⟨by decide, ?_⟩
      | refine ⟨(by show (0 : Int) < _; decide), ?_⟩
      | refine ⟨rfl, ?_⟩
      | refine ⟨⟨_, rfl⟩, ?_⟩
      | refine ⟨_, rfl, rfl, trivial, ?_⟩
      | refine ⟨_, _, rfl, ?_⟩))
        refine ⟨.inl ⟨rfl, _, SqL.of hD2⟩, ?_⟩
        (repeat (first
      | refine ifF ?_
      | refine ifT ?_
      | refine ⟨_, rfl, ?_⟩
      | refine ⟨_, _, rfl, rfl, ?_⟩
      | refine Or.inl ⟨_, rfl, ?_⟩
      | refine Or.inr ⟨_, rfl, ?_⟩
      | refine ⟨Or.inl ⟨by decide, by decide⟩, ?_⟩
      | refine ⟨Or.inr ⟨by decide, by decide⟩, ?_⟩
      | refine ⟨⟨by decide, by decide⟩, ?_⟩
      | refine ⟨⟨by decide, by decide, by decide⟩, ?_⟩
      | refine ⟨by decide, ?_⟩
      | refine ⟨(by show (0 : Int) < _; decide), ?_⟩
      | refine ⟨rfl, ?_⟩
      | refine ⟨⟨_, rfl⟩, ?_⟩
      | refine ⟨_, rfl, rfl, trivial, ?_⟩
      | refine ⟨_, _, rfl, ?_⟩))
        refine ⟨D, _, _, rfl, rfl, hD2, smallL (by omega), ?_⟩
        exact fin' _ _ _ _
      | true =>
        refine rI0_v (i := ((cntF ((an aa row).take (i + 1)) : Nat) : Int)) (j := (kk : Int)) (v := .bl true) (congrArg V.bl (decide_eq_true (by have := of_decide_eq_true hb; omega))) ?_
        have fin' := fun a b c d => fin true a b c d hb
        (repeat (first
      | refine ifF ?_
      | refine ifT ?_
      | refine ⟨_, rfl, ?_⟩
      | refine ⟨_, _, rfl, rfl, ?_⟩
      | refine Or.inl ⟨_, rfl, ?_⟩
      | refine Or.inr ⟨_, rfl, ?_⟩
      | refine ⟨Or.inl ⟨by decide, by decide⟩, ?_⟩
      | refine ⟨Or.inr ⟨by decide, by decide⟩, ?_⟩
      | refine ⟨⟨by decide, by decide⟩, ?_⟩
      | refine ⟨⟨by decide, by decide, by decide⟩, ?_⟩
      | refine ⟨by decide, ?_⟩
      | refine ⟨(by show (0 : Int) < _; decide), ?_⟩
      | refine ⟨rfl, ?_⟩
      | refine ⟨⟨_, rfl⟩, ?_⟩
      | refine ⟨_, rfl, rfl, trivial, ?_⟩
      | refine ⟨_, _, rfl, ?_⟩))
        refine ⟨.inl ⟨rfl, _, SqL.of hD2⟩, ?_⟩
        (repeat (first
      | refine ifF ?_
      | refine ifT ?_
      | refine ⟨_, rfl, ?_⟩
      | refine ⟨_, _, rfl, rfl, ?_⟩
      | refine Or.inl ⟨_, rfl, ?_⟩
      | refine Or.inr ⟨_, rfl, ?_⟩
      | refine ⟨Or.inl ⟨by decide, by decide⟩, ?_⟩
      | refine ⟨Or.inr ⟨by decide, by decide⟩, ?_⟩
      | refine ⟨⟨by decide, by decide⟩, ?_⟩
      | refine ⟨⟨by decide, by decide, by decide⟩, ?_⟩
      | refine ⟨by decide, ?_⟩
      | refine ⟨(by show (0 : Int) < _; decide), ?_⟩
      | refine ⟨rfl, ?_⟩
      | refine ⟨⟨_, rfl⟩, ?_⟩
      | refine ⟨_, rfl, rfl, trivial, ?_⟩
      | refine ⟨_, _, rfl, ?_⟩))
        refine ⟨D, _, _, rfl, rfl, hD2, smallL (by omega), ?_⟩
        exact fin' _ _ _ _
    · rename_i mm kk aa
      have hx1 : txs[1]? = some (.int (mm : Int)) ∧ txs[2]? = some (.int (kk : Int)) := by
        cases hA with
        | cons _ hr => cases hr with
          | cons h1 hr => cases hr with
            | cons h2 _ => cases h1; cases h2; exact ⟨rfl, rfl⟩
      have hm0 : 1 ≤ mm := hk.1.1
      (repeat (first
      | refine ifF ?_
      | refine ifT ?_
      | refine ⟨_, rfl, ?_⟩
      | refine ⟨_, _, rfl, rfl, ?_⟩
      | refine Or.inl ⟨_, rfl, ?_⟩
      | refine Or.inr ⟨_, rfl, ?_⟩
      | refine ⟨Or.inl ⟨by decide, by decide⟩, ?_⟩
      | refine ⟨Or.inr ⟨by decide, by decide⟩, ?_⟩
      | refine ⟨⟨by decide, by decide⟩, ?_⟩
      | refine ⟨⟨by decide, by decide, by decide⟩, ?_⟩
      | refine ⟨by decide, ?_⟩
      | refine ⟨(by show (0 : Int) < _; decide), ?_⟩
      | refine ⟨rfl, ?_⟩
      | refine ⟨⟨_, rfl⟩, ?_⟩
      | refine ⟨_, rfl, rfl, trivial, ?_⟩
      | refine ⟨_, _, rfl, ?_⟩))
      refine ⟨p, _, 1, _, rfl, rfl, hT2, atI_nat (j := 1) hx1.1, ?_⟩
      refine rI_v (i := ((cntF ((an aa row).take (i + 1)) : Nat) : Int)) (j := (mm : Int)) (v := .int ((cntF ((an aa row).take (i + 1)) % mm : Nat) : Int)) (by show (0 : Int) < _; omega) rfl ?_
      refine ⟨_, rfl, p, _, 2, _, rfl, rfl, hT2, atI_nat (j := 2) hx1.2, ?_⟩
      cases hb : CT (.circle mm kk aa) (cntF ((an aa row).take (i + 1))) with
      | false =>
        have hb2 : decide (V.int ((cntF ((an aa row).take (i + 1)) % mm : Nat) : Int) = V.int (kk : Int)) = false := decide_eq_false fun z => of_decide_eq_false hb (by have := V.int.inj z; omega)
        refine ⟨rfl, ?_⟩
        rw [hb2]
        have fin' := fun a b c d => fin false a b c d hb
        (repeat (first
      | refine ifF ?_
      | refine ifT ?_
      | refine ⟨_, rfl, ?_⟩
      | refine ⟨_, _, rfl, rfl, ?_⟩
      | refine Or.inl ⟨_, rfl, ?_⟩
      | refine Or.inr ⟨_, rfl, ?_⟩
      | refine ⟨Or.inl ⟨by decide, by decide⟩, ?_⟩
      | refine ⟨Or.inr ⟨by decide, by decide⟩, ?_⟩
      | refine ⟨⟨by decide, by decide⟩, ?_⟩
      | refine ⟨⟨by decide, by decide, by decide⟩, ?_⟩
      | refine ⟨by decide, ?_⟩
      | refine ⟨(by show (0 : Int) < _; decide), ?_⟩
      | refine ⟨rfl, ?_⟩
      | refine ⟨⟨_, rfl⟩, ?_⟩
      | refine ⟨_, rfl, rfl, trivial, ?_⟩
      | refine ⟨_, _, rfl, ?_⟩))
        refine ⟨.inl ⟨rfl, _, SqL.of hD2⟩, ?_⟩
        (repeat (first
      | refine ifF ?_
      | refine ifT ?_
      | refine ⟨_, rfl, ?_⟩
      | refine ⟨_, _, rfl, rfl, ?_⟩
      | refine Or.inl ⟨_, rfl, ?_⟩
      | refine Or.inr ⟨_, rfl, ?_⟩
      | refine ⟨Or.inl ⟨by decide, by decide⟩, ?_⟩
      | refine ⟨Or.inr ⟨by decide, by decide⟩, ?_⟩
      | refine ⟨⟨by decide, by decide⟩, ?_⟩
      | refine ⟨⟨by decide, by decide, by decide⟩, ?_⟩
      | refine ⟨by decide, ?_⟩
      | refine ⟨(by show (0 : Int) < _; decide), ?_⟩
      | refine ⟨rfl, ?_⟩
      | refine ⟨⟨_, rfl⟩, ?_⟩
      | refine ⟨_, rfl, rfl, trivial, ?_⟩
      | refine ⟨_, _, rfl, ?_⟩))
        refine ⟨D, _, _, rfl, rfl, hD2, smallL (by omega), ?_⟩
        exact fin' _ _ _ _
      | true =>
        have hb2 : decide (V.int ((cntF ((an aa row).take (i + 1)) % mm : Nat) : Int) = V.int (kk : Int)) = true := decide_eq_true (by have := of_decide_eq_true hb; exact congrArg (fun n : Nat => V.int (n : Int)) this)
        refine ⟨rfl, ?_⟩
        rw [hb2]
        have fin' := fun a b c d => fin true a b c d hb
        (repeat (first
      | refine ifF ?_
      | refine ifT ?_
      | refine ⟨_, rfl, ?_⟩
      | refine ⟨_, _, rfl, rfl, ?_⟩
      | refine Or.inl ⟨_, rfl, ?_⟩
      | refine Or.inr ⟨_, rfl, ?_⟩
      | refine ⟨Or.inl ⟨by decide, by decide⟩, ?_⟩
      | refine ⟨Or.inr ⟨by decide, by decide⟩, ?_⟩
      | refine ⟨⟨by decide, by decide⟩, ?_⟩
      | refine ⟨⟨by decide, by decide, by decide⟩, ?_⟩
      | refine ⟨by decide, ?_⟩
      | refine ⟨(by show (0 : Int) < _; decide), ?_⟩
      | refine ⟨rfl, ?_⟩
      | refine ⟨⟨_, rfl⟩, ?_⟩
      | refine ⟨_, rfl, rfl, trivial, ?_⟩
      | refine ⟨_, _, rfl, ?_⟩))
        refine ⟨.inl ⟨rfl, _, SqL.of hD2⟩, ?_⟩
        (repeat (first
      | refine ifF ?_
      | refine ifT ?_
      | refine ⟨_, rfl, ?_⟩
      | refine ⟨_, _, rfl, rfl, ?_⟩
      | refine Or.inl ⟨_, rfl, ?_⟩
      | refine Or.inr ⟨_, rfl, ?_⟩
      | refine ⟨Or.inl ⟨by decide, by decide⟩, ?_⟩
      | refine ⟨Or.inr ⟨by decide, by decide⟩, ?_⟩
      | refine ⟨⟨by decide, by decide⟩, ?_⟩
      | refine ⟨⟨by decide, by decide, by decide⟩, ?_⟩
      | refine ⟨by decide, ?_⟩
      | refine ⟨(by show (0 : Int) < _; decide), ?_⟩
      | refine ⟨rfl, ?_⟩
      | refine ⟨⟨_, rfl⟩, ?_⟩
      | refine ⟨_, rfl, rfl, trivial, ?_⟩
      | refine ⟨_, _, rfl, ?_⟩))
        refine ⟨D, _, _, rfl, rfl, hD2, smallL (by omega), ?_⟩
        exact fin' _ _ _ _
  · rintro σ H' ⟨vs', y4, y5, y6, y7, rfl, sm, hC', hD', hv⟩
    rw [el, List.take_of_length_le (by rw [an_len]; exact Nat.le_refl _)] at hv
    exact ⟨_, rfl, q D vs' _ sm hD hD' hv⟩
end
end My

namespace My
open PySem PySem.Spec PyProof.Rows L2
theorem sinceF_mem : ∀ {l : List (Rec × O2)} {r : Rec}, r ∈ sinceF l → ∃ o, (r, o) ∈ l := by
  intro l
  induction l using srec with
  | h0 => intro r h; cases h
  | h1 l a ih =>
    intro r h
    rw [sinceF_snoc] at h
    unfold sinceS at h
    split at h
    · cases h
    · rcases List.mem_append.mp h with h | h
      · obtain ⟨o, ho⟩ := ih h
        exact ⟨o, List.mem_append_left _ ho⟩
      · rw [List.mem_singleton.mp h]
        exact ⟨a.2, by simp⟩
theorem sinceF_len : ∀ l : List (Rec × O2), (sinceF l).length ≤ l.length := by
  intro l
  induction l using srec with
  | h0 => exact Nat.le_refl _
  | h1 l a ih =>
    rw [sinceF_snoc, List.length_append]
    unfold sinceS
    split
    · exact Nat.zero_le _
    · rw [List.length_append]
      show _ + 1 ≤ _ + 1
      omega
theorem amongF_mem {l : List (Rec × O2)} {r : Rec} (h : r ∈ amongF l) : ∃ o, (r, o) ∈ l := by
  unfold amongF at h
  obtain ⟨p, hp, e⟩ := List.mem_map.mp h
  exact ⟨p.2, by rw [← e]; exact (List.mem_filter.mp hp).1⟩
theorem amongF_len (l : List (Rec × O2)) : (amongF l).length ≤ l.length := by
  unfold amongF
  rw [List.length_map]
  exact List.length_filter_le _ _
theorem zip_mem {row : List Rec} {os : List O2} {n : Nat} {r : Rec} {o : O2} (h : (r, o) ∈ (row.zip os).take n) : r ∈ row := (List.of_mem_zip (List.mem_of_mem_take h)).1
theorem an_nil (q : Qn) : an q [] = [] := rfl
theorem an_snoc (q : Qn) (row : List Rec) (r : Rec) : an q (row ++ [r]) = an q row ++ [mean q (row ++ [r])] := pf_snoc _ _ _
theorem dp_ref {K : PySem.W.Frag} {H : Hp} {x : V} {d : PyData} (h : Dp K H x d) (ht : isT d = true) : ∃ q, x = .ref q := by
  cases h with
  | tup _ _ => exact ⟨_, rfl⟩
  | _ => cases ht
theorem zip_step {row : List Rec} {os : List O2} {i : Nat} (h : i < row.length) (h' : i < os.length) : (row.zip os).take (i + 1) = (row.zip os).take i ++ [(row[i], os[i])] := by
  rw [take_snoc (by rw [List.length_zip]; omega), List.getElem_zip]
section
variable {P : Program} {w : World} {K : PySem.W.Frag} {mg : Str → Option Value} {base : Heap}
def sp_ans (K : PySem.W.Frag) (n : Nat) : Sp := fun vs H Q _ => ∃ (p rw' : Addr) (qq : Qn) (row : List Rec), vs = [.ref p, .ref rw'] ∧ Dp K H (.ref p) (qt qq) ∧ Qk qq ∧ qsz qq ≤ n ∧ SqR K H rw' row ∧ RowOk row ∧ row.length ≤ 100 ∧ NewO K H (an qq row) Q
def sp_si (K : PySem.W.Frag) (n : Nat) : Sp := fun vs H Q E => (∃ (p rw' : Addr) (a b : Qn) (row : List Rec), vs = [.ref p, .ref rw'] ∧ Dp K H (.ref p) (qt (.since a b)) ∧ Qk (.since a b) ∧ qsz (.since a b) ≤ n ∧ SqR K H rw' row ∧ RowOk row ∧ row.length ≤ 100 ∧ NewO K H (an (.since a b) row) Q)
def sp_am (K : PySem.W.Frag) (n : Nat) : Sp := fun vs H Q E => (∃ (p rw' : Addr) (a b : Qn) (row : List Rec), vs = [.ref p, .ref rw'] ∧ Dp K H (.ref p) (qt (.among a b)) ∧ Qk (.among a b) ∧ qsz (.among a b) ≤ n ∧ SqR K H rw' row ∧ RowOk row ∧ row.length ≤ 100 ∧ NewO K H (an (.among a b) row) Q)
/-! ### _answers_since -/
theorem since_step (T : Top K mg w) (n k : Nat) (G_answers : FnOk P w K mg base CX0 k T.a_answers T.d_answers ["tree", "row"] (sp_ans K n)) : FnOk P w K mg base CX0 (k + 1) T.a_answers_since T.d_answers_since ["tree", "row"] (sp_si K (n + 1)) := by
  refine T.F_answers_since.ok sc_answers_since (fun vs H Q E h => ?_) (fun cdv A outer s H vs Q E hr h => ?_)
  · obtain ⟨p, rw', a, b, row, rfl, _⟩ := h
    rfl
  obtain ⟨p, rw', a, b, row, rfl, hd, hk, hz, hR, hok, hl, q⟩ := h
  have hR' := hR
  obtain ⟨ts, hL, hP⟩ := hR'
  have el := Paired.length hP
  have hza : qsz a ≤ n ∧ qsz b ≤ n := by unfold qsz at hz; omega
  rw [qt] at hd
  cases hd with
  | @tup _ txs _ hT hA =>
  cases hA with | @cons x0 xr0 _ _ h0 hA =>
  cases hA with | @cons x1 xr1 _ _ h1 hA =>
  cases hA with | @cons x2 xr2 _ _ h2 hA =>
  cases hA
  obtain ⟨pa, rfl⟩ := dp_ref h1 (qt_isT a)
  obtain ⟨pb, rfl⟩ := dp_ref h2 (qt_isT b)
  refine ⟨_, (pss_cons (ps_set (i := 2) sc_answers_since.nd rfl (Or.inl rfl) (pe_lst pa_nil))
      (pss_cons (ps_set (i := 3) sc_answers_since.nd rfl (Or.inl rfl) (pe_lst pa_nil))
      (pss_cons (ps_for PassesOwn.never rfl (pi_zip (by rfl) T.z_zip (pa_cons (pv 1) (pa_cons (pe_call G_answers hr (by rfl) T.m_answers T.F_answers.kp T.b_answers .nil pass0 (pa_cons (pe_ix ix_tup (pv 0) pe_int (fun _ _ => rfl)) (pa_cons (pv 1) pa_nil))) pa_nil))) (pg_tup (by rfl) (pgs_cons (pg_name (i := 4) sc_answers_since.nd rfl (Or.inl rfl)) (pgs_cons (pg_name (i := 5) sc_answers_since.nd rfl (Or.inl rfl)) pgs_nil)))
        (pss_one (ps_if (pt_cmpR op_isN (pv 5) pe_non (nomark _))
        (pss_one (ps_expr (pe_bm PySem.F.plainAttrs_list PySem.F.slot_list_append PySem.F.type_list_append mt_append (pv 3) (pa_cons (pv 4) pa_nil))))
        (pss_cons (ps_expr (pe_bm PySem.F.plainAttrs_list PySem.F.slot_list_extend PySem.F.type_list_extend mt_extend (pv 2) (pa_cons (pe_call G_answers hr (by rfl) T.m_answers T.F_answers.kp T.b_answers .nil pass0 (pa_cons (pe_ix ix_tup (pv 0) pe_int (fun _ _ => rfl)) (pa_cons (pv 3) pa_nil))) pa_nil)))
      (pss_cons (ps_expr (pe_bm PySem.F.plainAttrs_list PySem.F.slot_list_append PySem.F.type_list_append mt_append (pv 2) (pa_cons pe_non pa_nil)))
      (pss_one (ps_set (i := 3) sc_answers_since.nd rfl (Or.inl rfl) (pe_lst pa_nil))))))))
      (pss_cons (ps_expr (pe_bm PySem.F.plainAttrs_list PySem.F.slot_list_extend PySem.F.type_list_extend mt_extend (pv 2) (pa_cons (pe_call G_answers hr (by rfl) T.m_answers T.F_answers.kp T.b_answers .nil pass0 (pa_cons (pe_ix ix_tup (pv 0) pe_int (fun _ _ => rfl)) (pa_cons (pv 3) pa_nil))) pa_nil)))
      (pss_one (ps_ret (pv 2))))))), ?_⟩
  (repeat (first
      | refine ⟨_, rfl, ?_⟩
      | refine ⟨_, _, rfl, rfl, ?_⟩
      | refine Or.inl ⟨_, rfl, ?_⟩
      | refine Or.inr ⟨_, rfl, ?_⟩
      | refine ⟨Or.inl ⟨by decide, by decide⟩, ?_⟩
      | refine ⟨Or.inr ⟨by decide, by decide⟩, ?_⟩
      | refine ⟨⟨by decide, by decide⟩, ?_⟩
      | refine ⟨⟨by decide, by decide, by decide⟩, ?_⟩
      | refine ⟨by decide, ?_⟩
      | refine ⟨(by show (0 : Int) < _; decide), ?_⟩
      | refine ⟨rfl, ?_⟩
      | refine ⟨⟨_, rfl⟩, ?_⟩
      | refine ⟨_, rfl, rfl, trivial, ?_⟩
      | refine ⟨_, _, rfl, ?_⟩))
  refine fun D hD => ?_
  have sD : L2.Same H (upd H D (.lst [])) := same_upd hD
  have hD0 : (upd H D (.lst [])) D = some (.lst []) := upd_same
  generalize upd H D (.lst []) = H0 at sD hD0 ⊢
  (repeat (first
      | refine ifF ?_
      | refine ifT ?_
      | refine ⟨_, rfl, ?_⟩
      | refine ⟨_, _, rfl, rfl, ?_⟩
      | refine Or.inl ⟨_, rfl, ?_⟩
      | refine Or.inr ⟨_, rfl, ?_⟩
      | refine ⟨Or.inl ⟨by decide, by decide⟩, ?_⟩
      | refine ⟨Or.inr ⟨by decide, by decide⟩, ?_⟩
      | refine ⟨⟨by decide, by decide⟩, ?_⟩
      | refine ⟨⟨by decide, by decide, by decide⟩, ?_⟩
      | refine ⟨by decide, ?_⟩
      | refine ⟨(by show (0 : Int) < _; decide), ?_⟩
      | refine ⟨rfl, ?_⟩
      | refine ⟨⟨_, rfl⟩, ?_⟩
      | refine ⟨_, rfl, rfl, trivial, ?_⟩
      | refine ⟨_, _, rfl, ?_⟩))
  refine fun L hL' => ?_
  have sL : L2.Same H0 (upd H0 L (.lst [])) := same_upd hL'
  have hL0 : (upd H0 L (.lst [])) L = some (.lst []) := upd_same
  have hLD : L ≠ D := fun z => by rw [z, hD0] at hL'; cases hL'
  have hLH : H L = none := by
    cases e : H L with
    | none => rfl
    | some o => rw [sD _ _ e] at hL'; cases hL'
  have hD1 := sL _ _ hD0
  have sm0 := sD.trans sL
  generalize upd H0 L (.lst []) = H1 at sL hL0 hD1 sm0 ⊢
  (repeat (first
      | refine ifF ?_
      | refine ifT ?_
      | refine ⟨_, rfl, ?_⟩
      | refine ⟨_, _, rfl, rfl, ?_⟩
      | refine Or.inl ⟨_, rfl, ?_⟩
      | refine Or.inr ⟨_, rfl, ?_⟩
      | refine ⟨Or.inl ⟨by decide, by decide⟩, ?_⟩
      | refine ⟨Or.inr ⟨by decide, by decide⟩, ?_⟩
      | refine ⟨⟨by decide, by decide⟩, ?_⟩
      | refine ⟨⟨by decide, by decide, by decide⟩, ?_⟩
      | refine ⟨by decide, ?_⟩
      | refine ⟨(by show (0 : Int) < _; decide), ?_⟩
      | refine ⟨rfl, ?_⟩
      | refine ⟨⟨_, rfl⟩, ?_⟩
      | refine ⟨_, rfl, rfl, trivial, ?_⟩
      | refine ⟨_, _, rfl, ?_⟩))
  refine ⟨p, _, 1, _, rfl, rfl, My.Same.sqT sm0 hT, atI_nat (j := 1) rfl, ?_⟩
  (repeat (first
      | refine ifF ?_
      | refine ifT ?_
      | refine ⟨_, rfl, ?_⟩
      | refine ⟨_, _, rfl, rfl, ?_⟩
      | refine Or.inl ⟨_, rfl, ?_⟩
      | refine Or.inr ⟨_, rfl, ?_⟩
      | refine ⟨Or.inl ⟨by decide, by decide⟩, ?_⟩
      | refine ⟨Or.inr ⟨by decide, by decide⟩, ?_⟩
      | refine ⟨⟨by decide, by decide⟩, ?_⟩
      | refine ⟨⟨by decide, by decide, by decide⟩, ?_⟩
      | refine ⟨by decide, ?_⟩
      | refine ⟨(by show (0 : Int) < _; decide), ?_⟩
      | refine ⟨rfl, ?_⟩
      | refine ⟨⟨_, rfl⟩, ?_⟩
      | refine ⟨_, rfl, rfl, trivial, ?_⟩
      | refine ⟨_, _, rfl, ?_⟩))
  refine ⟨pa, rw', a, row, rfl, Dp.same sm0 h1, hk.1, hza.1, hR.same sm0, hok, hl, fun C cs H2 s2 hC1 hC hPc => ?_⟩
  have hCL : L ≠ C := fun z => by rw [← z, hL0] at hC1; cases hC1
  have hCD : D ≠ C := fun z => by rw [← z, hD1] at hC1; cases hC1
  have sm2 := sm0.trans s2
  have lcs := Paired.length hPc
  rw [an_len] at lcs
  have hCH : H C = none := by
    cases e : H C with
    | none => rfl
    | some o => rw [sm0 _ _ e] at hC1; cases hC1
  refine ⟨rw', C, ts, cs, rfl, sm2.seq hL, SqL.of hC, RZ.for_zipL (xs := ts) (ys := cs) (by omega) (fun i σ H' => ∃ (L : Addr) (ls vs' : List V) (y4 y5 : Option V) (done : List O2), σ = [some (.ref p), some (.ref rw'), some (.ref D), some (.ref L), y4, y5] ∧ L2.Same H H' ∧ TX K H2 H' ∧ H' C = some (.lst cs) ∧ H' D = some (.lst vs') ∧ H' L = some (.lst ls) ∧ H L = none ∧ L ≠ D ∧ L ≠ C ∧ Paired (Rv K H') ls (sinceF ((row.zip (an a row)).take i)) ∧ Paired (Ov K H') vs' done ∧ done ++ an b (sinceF ((row.zip (an a row)).take i)) = pf (fun z => mean b (sinceF z)) ((row.zip (an a row)).take i)) ?_ ?_ ?_ ?_⟩
  · exact ⟨L, [], [], none, none, [], rfl, sm2, TX.refl _, hC, s2 _ _ hD1, s2 _ _ hL0, hLH, hLD, hCL, .nil, .nil, rfl⟩
  · rintro i σ H' ⟨L, ls, vs', y4, y5, done, rfl, sm, tx, hC', _⟩
    exact ⟨sm.seq hL, SqL.of hC'⟩
  · rintro i x y Z σ H' hx hy ⟨L, ls, vs', y4, y5, done, rfl, sm, tx, hC', hD', hL', hLn, hLD, hLC, hlp, hvp, heq⟩ hZ
    obtain ⟨hir, ro⟩ := pget2 hP hx
    obtain ⟨hio, ao⟩ := pget2 hPc hy
    have hz1 := zip_step hir hio
    have ll := Paired.length hlp
    have hlen1 := sinceF_len ((row.zip (an a row)).take i)
    have hlen2 : ((row.zip (an a row)).take i).length ≤ 100 := by rw [List.length_take, List.length_zip]; omega
    have hmem : RowOk (sinceF ((row.zip (an a row)).take i)) := fun r hr => by
      obtain ⟨o, ho⟩ := sinceF_mem hr
      exact hok r (zip_mem ho)
    have hvl := Paired.length hvp
    have hdl : done.length ≤ 100 := by
      have := congrArg List.length heq
      rw [List.length_append, pf_len] at this
      omega
    have hZu : L2.Same H' (upd H' Z (.tup [x, y])) := same_upd hZ
    have hZ0 : (upd H' Z (.tup [x, y])) Z = some (.tup [x, y]) := upd_same
    have sm3 := sm.trans hZu
    have tx3 := tx.trans (TX.same (K := K) hZu)
    have ro3 := Rv.tx (TX.same sm3) ro
    have ao3 := Ov.tx tx3 ao
    have hC3 := hZu _ _ hC'
    have hD3 := hZu _ _ hD'
    have hL3 := hZu _ _ hL'
    have hl3 := Rs.tx (TX.same hZu) hlp
    have hv3 := Os.tx (TX.same hZu) hvp
    generalize upd H' Z (.tup [x, y]) = H3 at hZ0 sm3 tx3 ro3 ao3 hC3 hD3 hL3 hl3 hv3 ⊢
    refine ⟨Z, _, rfl, SqT.of hZ0, rfl, ?_⟩
    (repeat (first
      | refine ifF ?_
      | refine ifT ?_
      | refine ⟨_, rfl, ?_⟩
      | refine ⟨_, _, rfl, rfl, ?_⟩
      | refine Or.inl ⟨_, rfl, ?_⟩
      | refine Or.inr ⟨_, rfl, ?_⟩
      | refine ⟨Or.inl ⟨by decide, by decide⟩, ?_⟩
      | refine ⟨Or.inr ⟨by decide, by decide⟩, ?_⟩
      | refine ⟨⟨by decide, by decide⟩, ?_⟩
      | refine ⟨⟨by decide, by decide, by decide⟩, ?_⟩
      | refine ⟨by decide, ?_⟩
      | refine ⟨(by show (0 : Int) < _; decide), ?_⟩
      | refine ⟨rfl, ?_⟩
      | refine ⟨⟨_, rfl⟩, ?_⟩
      | refine ⟨_, rfl, rfl, trivial, ?_⟩
      | refine ⟨_, _, rfl, ?_⟩))
    cases ho : (an a row)[i] with
    | none =>
      rw [ho] at ao3 hz1
      have ey : y = .non := ao3
      subst ey
      (repeat (first
      | refine ifF ?_
      | refine ifT ?_
      | refine ⟨_, rfl, ?_⟩
      | refine ⟨_, _, rfl, rfl, ?_⟩
      | refine Or.inl ⟨_, rfl, ?_⟩
      | refine Or.inr ⟨_, rfl, ?_⟩
      | refine ⟨Or.inl ⟨by decide, by decide⟩, ?_⟩
      | refine ⟨Or.inr ⟨by decide, by decide⟩, ?_⟩
      | refine ⟨⟨by decide, by decide⟩, ?_⟩
      | refine ⟨⟨by decide, by decide, by decide⟩, ?_⟩
      | refine ⟨by decide, ?_⟩
      | refine ⟨(by show (0 : Int) < _; decide), ?_⟩
      | refine ⟨rfl, ?_⟩
      | refine ⟨⟨_, rfl⟩, ?_⟩
      | refine ⟨_, rfl, rfl, trivial, ?_⟩
      | refine ⟨_, _, rfl, ?_⟩))
      refine ⟨.inl ⟨rfl, _, SqL.of hL3⟩, ?_⟩
      (repeat (first
      | refine ifF ?_
      | refine ifT ?_
      | refine ⟨_, rfl, ?_⟩
      | refine ⟨_, _, rfl, rfl, ?_⟩
      | refine Or.inl ⟨_, rfl, ?_⟩
      | refine Or.inr ⟨_, rfl, ?_⟩
      | refine ⟨Or.inl ⟨by decide, by decide⟩, ?_⟩
      | refine ⟨Or.inr ⟨by decide, by decide⟩, ?_⟩
      | refine ⟨⟨by decide, by decide⟩, ?_⟩
      | refine ⟨⟨by decide, by decide, by decide⟩, ?_⟩
      | refine ⟨by decide, ?_⟩
      | refine ⟨(by show (0 : Int) < _; decide), ?_⟩
      | refine ⟨rfl, ?_⟩
      | refine ⟨⟨_, rfl⟩, ?_⟩
      | refine ⟨_, rfl, rfl, trivial, ?_⟩
      | refine ⟨_, _, rfl, ?_⟩))
      refine ⟨L, _, _, rfl, rfl, hL3, smallL (by omega), ?_⟩
      have tx4 : TX K H3 (upd H3 L (.lst (ls ++ [x]))) := TX.lst hL3
      refine ⟨L, ls ++ [x], vs', _, _, done, rfl, same_upd2 hLn sm3, tx3.trans tx4, by rw [upd_ne hLC.symm]; exact hC3, by rw [upd_ne hLD.symm]; exact hD3, upd_same, hLn, hLD, hLC, ?_, Os.tx tx4 hv3, ?_⟩
      · rw [hz1, sinceF_snoc]
        exact papp (Rs.tx tx4 hl3) (.cons (Rv.tx tx4 ro3) .nil)
      · rw [hz1, pf_snoc, ← heq, sinceF_snoc]
        show done ++ an b (sinceF _ ++ [row[i]]) = _ ++ [mean b (sinceF _ ++ [row[i]])]
        rw [an_snoc, List.append_assoc]
    | some u =>
      rw [ho] at ao3 hz1
      obtain ⟨pu, rfl, nu⟩ := ao3
      (repeat (first
      | refine ifF ?_
      | refine ifT ?_
      | refine ⟨_, rfl, ?_⟩
      | refine ⟨_, _, rfl, rfl, ?_⟩
      | refine Or.inl ⟨_, rfl, ?_⟩
      | refine Or.inr ⟨_, rfl, ?_⟩
      | refine ⟨Or.inl ⟨by decide, by decide⟩, ?_⟩
      | refine ⟨Or.inr ⟨by decide, by decide⟩, ?_⟩
      | refine ⟨⟨by decide, by decide⟩, ?_⟩
      | refine ⟨⟨by decide, by decide, by decide⟩, ?_⟩
      | refine ⟨by decide, ?_⟩
      | refine ⟨(by show (0 : Int) < _; decide), ?_⟩
      | refine ⟨rfl, ?_⟩
      | refine ⟨⟨_, rfl⟩, ?_⟩
      | refine ⟨_, rfl, rfl, trivial, ?_⟩
      | refine ⟨_, _, rfl, ?_⟩))
      refine ⟨.inl ⟨rfl, _, SqL.of hD3⟩, ?_⟩
      (repeat (first
      | refine ifF ?_
      | refine ifT ?_
      | refine ⟨_, rfl, ?_⟩
      | refine ⟨_, _, rfl, rfl, ?_⟩
      | refine Or.inl ⟨_, rfl, ?_⟩
      | refine Or.inr ⟨_, rfl, ?_⟩
      | refine ⟨Or.inl ⟨by decide, by decide⟩, ?_⟩
      | refine ⟨Or.inr ⟨by decide, by decide⟩, ?_⟩
      | refine ⟨⟨by decide, by decide⟩, ?_⟩
      | refine ⟨⟨by decide, by decide, by decide⟩, ?_⟩
      | refine ⟨by decide, ?_⟩
      | refine ⟨(by show (0 : Int) < _; decide), ?_⟩
      | refine ⟨rfl, ?_⟩
      | refine ⟨⟨_, rfl⟩, ?_⟩
      | refine ⟨_, rfl, rfl, trivial, ?_⟩
      | refine ⟨_, _, rfl, ?_⟩))
      refine ⟨p, _, 2, _, rfl, rfl, My.Same.sqT sm3 hT, atI_nat (j := 2) rfl, ?_⟩
      (repeat (first
      | refine ifF ?_
      | refine ifT ?_
      | refine ⟨_, rfl, ?_⟩
      | refine ⟨_, _, rfl, rfl, ?_⟩
      | refine Or.inl ⟨_, rfl, ?_⟩
      | refine Or.inr ⟨_, rfl, ?_⟩
      | refine ⟨Or.inl ⟨by decide, by decide⟩, ?_⟩
      | refine ⟨Or.inr ⟨by decide, by decide⟩, ?_⟩
      | refine ⟨⟨by decide, by decide⟩, ?_⟩
      | refine ⟨⟨by decide, by decide, by decide⟩, ?_⟩
      | refine ⟨by decide, ?_⟩
      | refine ⟨(by show (0 : Int) < _; decide), ?_⟩
      | refine ⟨rfl, ?_⟩
      | refine ⟨⟨_, rfl⟩, ?_⟩
      | refine ⟨_, rfl, rfl, trivial, ?_⟩
      | refine ⟨_, _, rfl, ?_⟩))
      refine ⟨pb, L, b, sinceF ((row.zip (an a row)).take i), rfl, Dp.same sm3 h2, hk.2, hza.2, ⟨ls, SqL.of hL3, hl3⟩, hmem, by omega, fun E' es H4 s4 hE1 hE hPe => ?_⟩
      have lel := Paired.length hPe
      rw [an_len] at lel
      have hD4 := s4 _ _ hD3
      have hED : E' ≠ D := fun z => by rw [z, hD3] at hE1; cases hE1
      refine ⟨D, E', vs', es, rfl, rfl, hD4, hE, small (by omega), ?_⟩
      have tx5 : TX K H4 (upd H4 D (.lst (vs' ++ es))) := TX.lst hD4
      have sm5 : L2.Same H (upd H4 D (.lst (vs' ++ es))) := same_upd2 hD (sm3.trans s4)
      have hD5 : (upd H4 D (.lst (vs' ++ es))) D = some (.lst (vs' ++ es)) := upd_same
      have hC5 : (upd H4 D (.lst (vs' ++ es))) C = some (.lst cs) := by rw [upd_ne hCD.symm]; exact s4 _ _ hC3
      have hv5 : Paired (Ov K (upd H4 D (.lst (vs' ++ es)))) (vs' ++ es) (done ++ an b (sinceF ((row.zip (an a row)).take i))) := papp (Os.tx ((TX.same s4).trans tx5) hv3) (Os.tx tx5 hPe)
      have tx25 := (tx3.trans (TX.same s4)).trans tx5
      generalize upd H4 D (.lst (vs' ++ es)) = H5 at tx5 sm5 hD5 hC5 hv5 tx25 ⊢
      (repeat (first
      | refine ifF ?_
      | refine ifT ?_
      | refine ⟨_, rfl, ?_⟩
      | refine ⟨_, _, rfl, rfl, ?_⟩
      | refine Or.inl ⟨_, rfl, ?_⟩
      | refine Or.inr ⟨_, rfl, ?_⟩
      | refine ⟨Or.inl ⟨by decide, by decide⟩, ?_⟩
      | refine ⟨Or.inr ⟨by decide, by decide⟩, ?_⟩
      | refine ⟨⟨by decide, by decide⟩, ?_⟩
      | refine ⟨⟨by decide, by decide, by decide⟩, ?_⟩
      | refine ⟨by decide, ?_⟩
      | refine ⟨(by show (0 : Int) < _; decide), ?_⟩
      | refine ⟨rfl, ?_⟩
      | refine ⟨⟨_, rfl⟩, ?_⟩
      | refine ⟨_, rfl, rfl, trivial, ?_⟩
      | refine ⟨_, _, rfl, ?_⟩))
      refine ⟨.inl ⟨rfl, _, SqL.of hD5⟩, ?_⟩
      (repeat (first
      | refine ifF ?_
      | refine ifT ?_
      | refine ⟨_, rfl, ?_⟩
      | refine ⟨_, _, rfl, rfl, ?_⟩
      | refine Or.inl ⟨_, rfl, ?_⟩
      | refine Or.inr ⟨_, rfl, ?_⟩
      | refine ⟨Or.inl ⟨by decide, by decide⟩, ?_⟩
      | refine ⟨Or.inr ⟨by decide, by decide⟩, ?_⟩
      | refine ⟨⟨by decide, by decide⟩, ?_⟩
      | refine ⟨⟨by decide, by decide, by decide⟩, ?_⟩
      | refine ⟨by decide, ?_⟩
      | refine ⟨(by show (0 : Int) < _; decide), ?_⟩
      | refine ⟨rfl, ?_⟩
      | refine ⟨⟨_, rfl⟩, ?_⟩
      | refine ⟨_, rfl, rfl, trivial, ?_⟩
      | refine ⟨_, _, rfl, ?_⟩))
      refine ⟨D, _, _, rfl, rfl, hD5, smallL (by rw [List.length_append]; omega), ?_⟩
      have tx6 : TX K H5 (upd H5 D (.lst (vs' ++ es ++ [.non]))) := TX.lst hD5
      have sm6 : L2.Same H (upd H5 D (.lst (vs' ++ es ++ [.non]))) := same_upd2 hD sm5
      have hD6 : (upd H5 D (.lst (vs' ++ es ++ [.non]))) D = some (.lst (vs' ++ es ++ [.non])) := upd_same
      have hC6 : (upd H5 D (.lst (vs' ++ es ++ [.non]))) C = some (.lst cs) := by rw [upd_ne hCD.symm]; exact hC5
      have hv6 := papp (Os.tx tx6 hv5) (show Paired (Ov K (upd H5 D (.lst (vs' ++ es ++ [.non])))) [.non] [none] from .cons rfl .nil)
      have tx26 := tx25.trans tx6
      generalize upd H5 D (.lst (vs' ++ es ++ [.non])) = H6 at tx6 sm6 hD6 hC6 hv6 tx26 ⊢
      (repeat (first
      | refine ifF ?_
      | refine ifT ?_
      | refine ⟨_, rfl, ?_⟩
      | refine ⟨_, _, rfl, rfl, ?_⟩
      | refine Or.inl ⟨_, rfl, ?_⟩
      | refine Or.inr ⟨_, rfl, ?_⟩
      | refine ⟨Or.inl ⟨by decide, by decide⟩, ?_⟩
      | refine ⟨Or.inr ⟨by decide, by decide⟩, ?_⟩
      | refine ⟨⟨by decide, by decide⟩, ?_⟩
      | refine ⟨⟨by decide, by decide, by decide⟩, ?_⟩
      | refine ⟨by decide, ?_⟩
      | refine ⟨(by show (0 : Int) < _; decide), ?_⟩
      | refine ⟨rfl, ?_⟩
      | refine ⟨⟨_, rfl⟩, ?_⟩
      | refine ⟨_, rfl, rfl, trivial, ?_⟩
      | refine ⟨_, _, rfl, ?_⟩))
      refine fun L2' hL2 => ?_
      have s7 : L2.Same H6 (upd H6 L2' (.lst [])) := same_upd hL2
      refine ⟨L2', [], _, _, _, _, rfl, sm6.trans s7, tx26.trans (TX.same s7), s7 _ _ hC6, s7 _ _ hD6, upd_same, ?_, ?_, ?_, ?_, Os.tx (TX.same s7) hv6, ?_⟩
      · cases e : H L2' with
        | none => rfl
        | some o => rw [sm6 _ _ e] at hL2; cases hL2
      · exact fun z => by rw [z, hD6] at hL2; cases hL2
      · exact fun z => by rw [z, hC6] at hL2; cases hL2
      · rw [hz1, sinceF_snoc]
        exact .nil
      · rw [hz1, sinceF_snoc, pf_snoc, ← heq, sinceF_snoc]
        show _ ++ an b [] = _ ++ [mean b []]
        rw [an_nil, mean_nil hk.2, List.append_nil]
  · rintro σ H' ⟨L, ls, vs', y4, y5, done, rfl, sm, tx, hC', hD', hL', hLn, hLD, hLC, hlp, hvp, heq⟩
    have lz : (row.zip (an a row)).length = ts.length := by rw [List.length_zip, an_len]; omega
    rw [List.take_of_length_le (by omega)] at hlp heq
    have ll := Paired.length hlp
    have hlen1 := sinceF_len (row.zip (an a row))
    have hmem : RowOk (sinceF (row.zip (an a row))) := fun r hr => by
      obtain ⟨o, ho⟩ := sinceF_mem hr
      exact hok r (List.of_mem_zip ho).1
    have hvl := Paired.length hvp
    have hdl : done.length ≤ 100 := by
      have := congrArg List.length heq
      rw [List.length_append, pf_len] at this
      omega
    (repeat (first
      | refine ifF ?_
      | refine ifT ?_
      | refine ⟨_, rfl, ?_⟩
      | refine ⟨_, _, rfl, rfl, ?_⟩
      | refine Or.inl ⟨_, rfl, ?_⟩
      | refine Or.inr ⟨_, rfl, ?_⟩
      | refine ⟨Or.inl ⟨by decide, by decide⟩, ?_⟩
      | refine ⟨Or.inr ⟨by decide, by decide⟩, ?_⟩
      | refine ⟨⟨by decide, by decide⟩, ?_⟩
      | refine ⟨⟨by decide, by decide, by decide⟩, ?_⟩
      | refine ⟨by decide, ?_⟩
      | refine ⟨(by show (0 : Int) < _; decide), ?_⟩
      | refine ⟨rfl, ?_⟩
      | refine ⟨⟨_, rfl⟩, ?_⟩
      | refine ⟨_, rfl, rfl, trivial, ?_⟩
      | refine ⟨_, _, rfl, ?_⟩))
    refine ⟨.inl ⟨rfl, _, SqL.of hD'⟩, ?_⟩
    (repeat (first
      | refine ifF ?_
      | refine ifT ?_
      | refine ⟨_, rfl, ?_⟩
      | refine ⟨_, _, rfl, rfl, ?_⟩
      | refine Or.inl ⟨_, rfl, ?_⟩
      | refine Or.inr ⟨_, rfl, ?_⟩
      | refine ⟨Or.inl ⟨by decide, by decide⟩, ?_⟩
      | refine ⟨Or.inr ⟨by decide, by decide⟩, ?_⟩
      | refine ⟨⟨by decide, by decide⟩, ?_⟩
      | refine ⟨⟨by decide, by decide, by decide⟩, ?_⟩
      | refine ⟨by decide, ?_⟩
      | refine ⟨(by show (0 : Int) < _; decide), ?_⟩
      | refine ⟨rfl, ?_⟩
      | refine ⟨⟨_, rfl⟩, ?_⟩
      | refine ⟨_, rfl, rfl, trivial, ?_⟩
      | refine ⟨_, _, rfl, ?_⟩))
    refine ⟨p, _, 2, _, rfl, rfl, My.Same.sqT sm hT, atI_nat (j := 2) rfl, ?_⟩
    (repeat (first
      | refine ifF ?_
      | refine ifT ?_
      | refine ⟨_, rfl, ?_⟩
      | refine ⟨_, _, rfl, rfl, ?_⟩
      | refine Or.inl ⟨_, rfl, ?_⟩
      | refine Or.inr ⟨_, rfl, ?_⟩
      | refine ⟨Or.inl ⟨by decide, by decide⟩, ?_⟩
      | refine ⟨Or.inr ⟨by decide, by decide⟩, ?_⟩
      | refine ⟨⟨by decide, by decide⟩, ?_⟩
      | refine ⟨⟨by decide, by decide, by decide⟩, ?_⟩
      | refine ⟨by decide, ?_⟩
      | refine ⟨(by show (0 : Int) < _; decide), ?_⟩
      | refine ⟨rfl, ?_⟩
      | refine ⟨⟨_, rfl⟩, ?_⟩
      | refine ⟨_, rfl, rfl, trivial, ?_⟩
      | refine ⟨_, _, rfl, ?_⟩))
    refine ⟨pb, L, b, sinceF (row.zip (an a row)), rfl, Dp.same sm h2, hk.2, hza.2, ⟨ls, SqL.of hL', hlp⟩, hmem, by omega, fun E' es H4 s4 hE1 hE hPe => ?_⟩
    have lel := Paired.length hPe
    rw [an_len] at lel
    have hD4 := s4 _ _ hD'
    refine ⟨D, E', vs', es, rfl, rfl, hD4, hE, small (by omega), ?_⟩
    have tx5 : TX K H4 (upd H4 D (.lst (vs' ++ es))) := TX.lst hD4
    refine ⟨_, rfl, q D (vs' ++ es) _ (same_upd2 hD (sm.trans s4)) hD upd_same ?_⟩
    rw [an_since, ← heq]
    exact papp (Os.tx ((TX.same s4).trans tx5) hvp) (Os.tx tx5 hPe)
end
end My

namespace My
open PySem PySem.Spec PyProof.Rows L2
section
variable {P : Program} {w : World} {K : PySem.W.Frag} {mg : Str → Option Value} {base : Heap}
/-! ### _answers_among -/
theorem among_step (T : Top K mg w) (n k : Nat) (hk1 : 1 ≤ k) (G_answers : FnOk P w K mg base CX0 k T.a_answers T.d_answers ["tree", "row"] (sp_ans K n)) : FnOk P w K mg base CX0 (k + 1) T.a_answers_among T.d_answers_among ["tree", "row"] (sp_am K (n + 1)) := by
  have G_counts : FnOk P w K mg base CX0 k T.a_counts T.d_counts ["told"] (sp_cts K) := (ok_counts T).mono hk1
  refine T.F_answers_among.ok sc_answers_among (fun vs H Q E h => ?_) (fun cdv A outer s H vs Q E hr h => ?_)
  · obtain ⟨p, rw', a, b, row, rfl, _⟩ := h
    rfl
  obtain ⟨p, rw', a, b, row, rfl, hd, hk, hz, hR, hok, hl, q⟩ := h
  have hR' := hR
  obtain ⟨ts, hL, hP⟩ := hR'
  have el := Paired.length hP
  have hza : qsz a ≤ n ∧ qsz b ≤ n := by unfold qsz at hz; omega
  rw [qt] at hd
  cases hd with
  | @tup _ txs _ hT hA =>
  cases hA with | @cons x0 xr0 _ _ h0 hA =>
  cases hA with | @cons x1 xr1 _ _ h1 hA =>
  cases hA with | @cons x2 xr2 _ _ h2 hA =>
  cases hA
  obtain ⟨pa, rfl⟩ := dp_ref h1 (qt_isT a)
  obtain ⟨pb, rfl⟩ := dp_ref h2 (qt_isT b)
  refine ⟨_, (pss_cons (ps_set (i := 2) sc_answers_among.nd rfl (Or.inl rfl) (pe_call G_answers hr (by rfl) T.m_answers T.F_answers.kp T.b_answers .nil pass0 (pa_cons (pe_ix ix_tup (pv 0) pe_int (fun _ _ => rfl)) (pa_cons (pv 1) pa_nil))))
      (pss_cons (ps_setLc (i := 3) (own := [("record", 5), ("answer", 6)]) (g := gTup K 2 (gCons (gName 5) (gCons (gName 6) gNil))) (by rfl) sc_answers_among.nd rfl rfl (sw_true rfl rfl rfl (by decide +kernel)) (pi_zip (by rfl) T.z_zip (pa_cons (pv 1) (pa_cons (pv 2) pa_nil))) (blkOk_by (own := [("record", 5), ("answer", 6)]) (N := ["tree", "row", "told", "left", "answers", "record", "answer", "count"]) (sc := defScope s_answers_among) (by decide +kernel)) (fun _ _ _ _ _ => (pg_tup (by rfl) (pgs_cons (pg_name (i := 5) sc_answers_among.nd rfl (Or.inl rfl)) (pgs_cons (pg_name (i := 6) sc_answers_among.nd rfl (Or.inl rfl)) pgs_nil)))) (fun _ _ _ _ _ => pts_one (pt_cmpR op_notN (pv 6) pe_non (nomark _))) (fun _ _ _ _ _ => (pv 5)))
      (pss_cons (ps_set (i := 4) sc_answers_among.nd rfl (Or.inr rfl) (pe_op op_cat (pe_lst (pa_cons pe_non pa_nil)) (pe_call G_answers hr (by rfl) T.m_answers T.F_answers.kp T.b_answers .nil pass0 (pa_cons (pe_ix ix_tup (pv 0) pe_int (fun _ _ => rfl)) (pa_cons (pv 3) pa_nil)))))
      (pss_one (ps_ret (pe_lc (own := [("count", 7)]) (g := gName 7) (by rfl) sc_answers_among.nd (pi_list (pe_call G_counts hr (by rfl) T.m_counts T.F_counts.kp T.b_counts .nil pass0 (pa_cons (pv 2) pa_nil))) (blkOk_by (own := [("count", 7)]) (N := ["tree", "row", "told", "left", "answers", "record", "answer", "count"]) (sc := defScope s_answers_among) (by decide +kernel)) (fun _ _ _ _ _ => (pg_name (i := 7) sc_answers_among.nd rfl (Or.inl rfl))) (fun _ _ _ _ _ => pts_nil) (fun _ _ _ _ _ => (pe_ix (show IxR _ (rIxL K) from ix_list) (pv 4) (pv 7) (fun _ _ => rfl))))))))), ?_⟩
  (repeat (first
      | refine ifF ?_
      | refine ifT ?_
      | refine ⟨_, rfl, ?_⟩
      | refine ⟨_, _, rfl, rfl, ?_⟩
      | refine Or.inl ⟨_, rfl, ?_⟩
      | refine Or.inr ⟨_, rfl, ?_⟩
      | refine ⟨Or.inl ⟨by decide, by decide⟩, ?_⟩
      | refine ⟨Or.inr ⟨by decide, by decide⟩, ?_⟩
      | refine ⟨⟨by decide, by decide⟩, ?_⟩
      | refine ⟨⟨by decide, by decide, by decide⟩, ?_⟩
      | refine ⟨by decide, ?_⟩
      | refine ⟨(by show (0 : Int) < _; decide), ?_⟩
      | refine ⟨rfl, ?_⟩
      | refine ⟨⟨_, rfl⟩, ?_⟩
      | refine ⟨_, rfl, rfl, trivial, ?_⟩
      | refine ⟨_, _, rfl, ?_⟩))
  refine ⟨p, _, 1, _, rfl, rfl, hT, atI_nat (j := 1) rfl, ?_⟩
  (repeat (first
      | refine ifF ?_
      | refine ifT ?_
      | refine ⟨_, rfl, ?_⟩
      | refine ⟨_, _, rfl, rfl, ?_⟩
      | refine Or.inl ⟨_, rfl, ?_⟩
      | refine Or.inr ⟨_, rfl, ?_⟩
      | refine ⟨Or.inl ⟨by decide, by decide⟩, ?_⟩
      | refine ⟨Or.inr ⟨by decide, by decide⟩, ?_⟩
      | refine ⟨⟨by decide, by decide⟩, ?_⟩
      | refine ⟨⟨by decide, by decide, by decide⟩, ?_⟩
      | refine ⟨by decide, ?_⟩
      | refine ⟨(by show (0 : Int) < _; decide), ?_⟩
      | refine ⟨rfl, ?_⟩
      | refine ⟨⟨_, rfl⟩, ?_⟩
      | refine ⟨_, rfl, rfl, trivial, ?_⟩
      | refine ⟨_, _, rfl, ?_⟩))
  refine ⟨pa, rw', a, row, rfl, h1, hk.1, hza.1, hR, hok, hl, fun C cs H1 s1 hC0 hC hPc => ?_⟩
  have lcs := Paired.length hPc
  rw [an_len] at lcs
  (repeat (first
      | refine ifF ?_
      | refine ifT ?_
      | refine ⟨_, rfl, ?_⟩
      | refine ⟨_, _, rfl, rfl, ?_⟩
      | refine Or.inl ⟨_, rfl, ?_⟩
      | refine Or.inr ⟨_, rfl, ?_⟩
      | refine ⟨Or.inl ⟨by decide, by decide⟩, ?_⟩
      | refine ⟨Or.inr ⟨by decide, by decide⟩, ?_⟩
      | refine ⟨⟨by decide, by decide⟩, ?_⟩
      | refine ⟨⟨by decide, by decide, by decide⟩, ?_⟩
      | refine ⟨by decide, ?_⟩
      | refine ⟨(by show (0 : Int) < _; decide), ?_⟩
      | refine ⟨rfl, ?_⟩
      | refine ⟨⟨_, rfl⟩, ?_⟩
      | refine ⟨_, rfl, rfl, trivial, ?_⟩
      | refine ⟨_, _, rfl, ?_⟩))
  refine ⟨rw', C, ts, cs, rfl, s1.seq hL, SqL.of hC, fun L hL0 => ?_⟩
  have smL : L2.Same H1 (upd H1 L (.lst [])) := same_upd hL0
  have hLC : L ≠ C := fun z => by rw [z, hC] at hL0; cases hL0
  refine lc_zipL (xs := ts) (ys := cs) (by omega) (fun i H' => ∃ ls, L2.Same H1 H' ∧ H' L = some (.lst ls) ∧ Paired (Rv K H') ls (amongF ((row.zip (an a row)).take i))) ?_ ?_ ?_ ?_
  · exact ⟨[], smL, upd_same, .nil⟩
  · rintro i H' ⟨ls, sm, hLl, hlp⟩
    exact ⟨(s1.trans sm).seq hL, SqL.of (sm _ _ hC)⟩
  · rintro H' ⟨ls, sm, hLl, hlp⟩
    have lz : (row.zip (an a row)).length = ts.length := by rw [List.length_zip, an_len]; omega
    rw [List.take_of_length_le (by omega)] at hlp
    have hlen1 := amongF_len (row.zip (an a row))
    have ll := Paired.length hlp
    have hmem : RowOk (amongF (row.zip (an a row))) := fun r hr => by
      obtain ⟨o, ho⟩ := amongF_mem hr
      exact hok r (List.of_mem_zip ho).1
    have sm2 := s1.trans sm
    have hC2 := sm _ _ hC
    (repeat (first
      | refine ifF ?_
      | refine ifT ?_
      | refine ⟨_, rfl, ?_⟩
      | refine ⟨_, _, rfl, rfl, ?_⟩
      | refine Or.inl ⟨_, rfl, ?_⟩
      | refine Or.inr ⟨_, rfl, ?_⟩
      | refine ⟨Or.inl ⟨by decide, by decide⟩, ?_⟩
      | refine ⟨Or.inr ⟨by decide, by decide⟩, ?_⟩
      | refine ⟨⟨by decide, by decide⟩, ?_⟩
      | refine ⟨⟨by decide, by decide, by decide⟩, ?_⟩
      | refine ⟨by decide, ?_⟩
      | refine ⟨(by show (0 : Int) < _; decide), ?_⟩
      | refine ⟨rfl, ?_⟩
      | refine ⟨⟨_, rfl⟩, ?_⟩
      | refine ⟨_, rfl, rfl, trivial, ?_⟩
      | refine ⟨_, _, rfl, ?_⟩))
    refine fun l1 hl1 => ?_
    have s3 : L2.Same H' (upd H' l1 (.lst [.non])) := same_upd hl1
    have h13 : (upd H' l1 (.lst [.non])) l1 = some (.lst [.non]) := upd_same
    have hL3 := s3 _ _ hLl
    have hC3 := s3 _ _ hC2
    have sm3 := sm2.trans s3
    have hl3 := Rs.tx (TX.same s3) hlp
    have txC := (TX.same (K := K) sm).trans (TX.same s3)
    generalize upd H' l1 (.lst [.non]) = H3 at s3 h13 hL3 hC3 sm3 hl3 txC ⊢
    (repeat (first
      | refine ifF ?_
      | refine ifT ?_
      | refine ⟨_, rfl, ?_⟩
      | refine ⟨_, _, rfl, rfl, ?_⟩
      | refine Or.inl ⟨_, rfl, ?_⟩
      | refine Or.inr ⟨_, rfl, ?_⟩
      | refine ⟨Or.inl ⟨by decide, by decide⟩, ?_⟩
      | refine ⟨Or.inr ⟨by decide, by decide⟩, ?_⟩
      | refine ⟨⟨by decide, by decide⟩, ?_⟩
      | refine ⟨⟨by decide, by decide, by decide⟩, ?_⟩
      | refine ⟨by decide, ?_⟩
      | refine ⟨(by show (0 : Int) < _; decide), ?_⟩
      | refine ⟨rfl, ?_⟩
      | refine ⟨⟨_, rfl⟩, ?_⟩
      | refine ⟨_, rfl, rfl, trivial, ?_⟩
      | refine ⟨_, _, rfl, ?_⟩))
    refine ⟨p, _, 2, _, rfl, rfl, My.Same.sqT sm3 hT, atI_nat (j := 2) rfl, ?_⟩
    (repeat (first
      | refine ifF ?_
      | refine ifT ?_
      | refine ⟨_, rfl, ?_⟩
      | refine ⟨_, _, rfl, rfl, ?_⟩
      | refine Or.inl ⟨_, rfl, ?_⟩
      | refine Or.inr ⟨_, rfl, ?_⟩
      | refine ⟨Or.inl ⟨by decide, by decide⟩, ?_⟩
      | refine ⟨Or.inr ⟨by decide, by decide⟩, ?_⟩
      | refine ⟨⟨by decide, by decide⟩, ?_⟩
      | refine ⟨⟨by decide, by decide, by decide⟩, ?_⟩
      | refine ⟨by decide, ?_⟩
      | refine ⟨(by show (0 : Int) < _; decide), ?_⟩
      | refine ⟨rfl, ?_⟩
      | refine ⟨⟨_, rfl⟩, ?_⟩
      | refine ⟨_, rfl, rfl, trivial, ?_⟩
      | refine ⟨_, _, rfl, ?_⟩))
    refine ⟨pb, L, b, amongF (row.zip (an a row)), rfl, Dp.same sm3 h2, hk.2, hza.2, ⟨ls, SqL.of hL3, hl3⟩, hmem, by omega, fun E' es H4 s4 hE1 hE hPe => ?_⟩
    have lel := Paired.length hPe
    rw [an_len] at lel
    refine ⟨l1, E', _, es, rfl, rfl, s4 _ _ h13, hE, small (by show 1 + es.length ≤ _; omega), fun G hG => ?_⟩
    have s5 : L2.Same H4 (upd H4 G (.lst ([.non] ++ es))) := same_upd hG
    have h5 : (upd H4 G (.lst ([.non] ++ es))) G = some (.lst ([.non] ++ es)) := upd_same
    have hC5 := s5 _ _ (s4 _ _ hC3)
    have sm5 := (sm3.trans s4).trans s5
    have txC5 := (txC.trans (TX.same s4)).trans (TX.same s5)
    have hv5 : Paired (Ov K (upd H4 G (.lst ([.non] ++ es)))) ([.non] ++ es) (none :: an b (amongF (row.zip (an a row)))) := .cons rfl (Os.tx (TX.same s5) hPe)
    generalize upd H4 G (.lst ([.non] ++ es)) = H5 at s5 h5 hC5 sm5 txC5 hv5 ⊢
    (repeat (first
      | refine ifF ?_
      | refine ifT ?_
      | refine ⟨_, rfl, ?_⟩
      | refine ⟨_, _, rfl, rfl, ?_⟩
      | refine Or.inl ⟨_, rfl, ?_⟩
      | refine Or.inr ⟨_, rfl, ?_⟩
      | refine ⟨Or.inl ⟨by decide, by decide⟩, ?_⟩
      | refine ⟨Or.inr ⟨by decide, by decide⟩, ?_⟩
      | refine ⟨⟨by decide, by decide⟩, ?_⟩
      | refine ⟨⟨by decide, by decide, by decide⟩, ?_⟩
      | refine ⟨by decide, ?_⟩
      | refine ⟨(by show (0 : Int) < _; decide), ?_⟩
      | refine ⟨rfl, ?_⟩
      | refine ⟨⟨_, rfl⟩, ?_⟩
      | refine ⟨_, rfl, rfl, trivial, ?_⟩
      | refine ⟨_, _, rfl, ?_⟩))
    refine ⟨C, an a row, rfl, ⟨cs, SqL.of hC5, Os.tx txC5 hPc⟩, by rw [an_len]; omega, fun B H6 s6 hB0 hB => ?_⟩
    have h6 := s6 _ _ h5
    have hv6 := Os.tx (TX.same s6) hv5
    (repeat (first
      | refine ifF ?_
      | refine ifT ?_
      | refine ⟨_, rfl, ?_⟩
      | refine ⟨_, _, rfl, rfl, ?_⟩
      | refine Or.inl ⟨_, rfl, ?_⟩
      | refine Or.inr ⟨_, rfl, ?_⟩
      | refine ⟨Or.inl ⟨by decide, by decide⟩, ?_⟩
      | refine ⟨Or.inr ⟨by decide, by decide⟩, ?_⟩
      | refine ⟨⟨by decide, by decide⟩, ?_⟩
      | refine ⟨⟨by decide, by decide, by decide⟩, ?_⟩
      | refine ⟨by decide, ?_⟩
      | refine ⟨(by show (0 : Int) < _; decide), ?_⟩
      | refine ⟨rfl, ?_⟩
      | refine ⟨⟨_, rfl⟩, ?_⟩
      | refine ⟨_, rfl, rfl, trivial, ?_⟩
      | refine ⟨_, _, rfl, ?_⟩))
    refine ⟨⟨_, SqL.of hB⟩, fun N hN => ?_⟩
    have sN : L2.Same H6 (upd H6 N (.lst [])) := same_upd hN
    refine lc_list (xs := (pf cntF (an a row)).map cV) (fun i H' => ∃ vs', H' = upd H6 N (.lst vs') ∧ Paired (Ov K H6) vs' ((an (.among a b) row).take i)) ⟨[], rfl, .nil⟩ ?_ ?_ ?_
    · rintro i H' _ ⟨vs', rfl, _⟩
      exact (same_upd hN).seq (SqL.of hB)
    · rintro i x H' hx ⟨vs', rfl, hvp⟩
      have hi : i < row.length := by
        have := (List.getElem?_eq_some_iff.mp hx).1
        rw [List.length_map, pf_len, an_len] at this
        exact this
      have ex : x = cV (cntF ((an a row).take (i + 1))) := by
        rw [List.getElem?_map, pf_get _ (by rw [an_len]; exact hi)] at hx
        exact (Option.some.inj hx).symm
      subst ex
      have hat := an_among_at (a := a) hk.2 row hi
      obtain ⟨o, ho⟩ : ∃ o, (an (.among a b) row)[i]? = some o := ⟨_, List.getElem?_eq_getElem (by rw [an_len]; exact hi)⟩
      rw [ho] at hat
      obtain ⟨hcl, hce⟩ := List.getElem?_eq_some_iff.mp hat
      obtain ⟨v, hv, ov⟩ := pget3 hv6 hcl
      rw [hce] at ov
      have lv := Paired.length hvp
      rw [List.length_take, an_len] at lv
      refine ⟨rfl, ?_⟩
      refine ⟨_, rfl, ?_⟩
      refine ⟨_, rfl, G, _, _, v, rfl, rfl, (same_upd hN).seq (SqL.of h6), atI_nat hv, ?_⟩
      refine ⟨_, upd_same, smallL (by omega), vs' ++ [v], upd_upd, ?_⟩
      rw [List.take_succ, ho]
      exact papp hvp (.cons ov .nil)
    · rintro H' ⟨vs', rfl, hvp⟩
      rw [List.length_map, pf_len] at hvp
      have sF : L2.Same H (upd H6 N (.lst vs')) := (sm5.trans s6).trans (same_upd hN)
      have hNH : H N = none := by
        cases e : H N with
        | none => rfl
        | some o => rw [(sm5.trans s6) _ _ e] at hN; cases hN
      refine q N vs' _ sF hNH upd_same (Os.tx (TX.same (same_upd hN)) ?_)
      have e : (an a row).length = (an (.among a b) row).length := by rw [an_len, an_len]
      rwa [e, List.take_length] at hvp
  · rintro i H' x y Z hx hy ⟨ls, sm, hLl, hlp⟩ hZ
    obtain ⟨hir, ro⟩ := pget2 hP hx
    obtain ⟨hio, ao⟩ := pget2 hPc hy
    have hz1 := zip_step hir hio
    have ll := Paired.length hlp
    have hlen1 := amongF_len ((row.zip (an a row)).take i)
    have hlen2 : ((row.zip (an a row)).take i).length ≤ 100 := by rw [List.length_take, List.length_zip]; omega
    have hZu : L2.Same H' (upd H' Z (.tup [x, y])) := same_upd hZ
    have hZ0 : (upd H' Z (.tup [x, y])) Z = some (.tup [x, y]) := upd_same
    have sm3 := sm.trans hZu
    have ro3 := Rv.tx (TX.same (s1.trans sm3)) ro
    have ao3 := Ov.tx (TX.same sm3) ao
    have hL3 := hZu _ _ hLl
    have hl3 := Rs.tx (TX.same hZu) hlp
    generalize upd H' Z (.tup [x, y]) = H3 at hZ0 sm3 ro3 ao3 hL3 hl3 ⊢
    refine ⟨Z, _, rfl, SqT.of hZ0, rfl, ?_⟩
    (repeat (first
      | refine ifF ?_
      | refine ifT ?_
      | refine ⟨_, rfl, ?_⟩
      | refine ⟨_, _, rfl, rfl, ?_⟩
      | refine Or.inl ⟨_, rfl, ?_⟩
      | refine Or.inr ⟨_, rfl, ?_⟩
      | refine ⟨Or.inl ⟨by decide, by decide⟩, ?_⟩
      | refine ⟨Or.inr ⟨by decide, by decide⟩, ?_⟩
      | refine ⟨⟨by decide, by decide⟩, ?_⟩
      | refine ⟨⟨by decide, by decide, by decide⟩, ?_⟩
      | refine ⟨by decide, ?_⟩
      | refine ⟨(by show (0 : Int) < _; decide), ?_⟩
      | refine ⟨rfl, ?_⟩
      | refine ⟨⟨_, rfl⟩, ?_⟩
      | refine ⟨_, rfl, rfl, trivial, ?_⟩
      | refine ⟨_, _, rfl, ?_⟩))
    cases ho : (an a row)[i] with
    | none =>
      rw [ho] at ao3 hz1
      have ey : y = .non := ao3
      subst ey
      refine ifF ?_
      refine ⟨ls, sm3, hL3, ?_⟩
      rw [hz1, amongF_snoc, show (if ((row[i], (none : O2)) : Rec × O2).2.isSome = true then [row[i]] else []) = ([] : List Rec) from rfl, List.append_nil]
      exact hl3
    | some u =>
      rw [ho] at ao3 hz1
      obtain ⟨pu, rfl, nu⟩ := ao3
      (repeat (first
      | refine ifF ?_
      | refine ifT ?_
      | refine ⟨_, rfl, ?_⟩
      | refine ⟨_, _, rfl, rfl, ?_⟩
      | refine Or.inl ⟨_, rfl, ?_⟩
      | refine Or.inr ⟨_, rfl, ?_⟩
      | refine ⟨Or.inl ⟨by decide, by decide⟩, ?_⟩
      | refine ⟨Or.inr ⟨by decide, by decide⟩, ?_⟩
      | refine ⟨⟨by decide, by decide⟩, ?_⟩
      | refine ⟨⟨by decide, by decide, by decide⟩, ?_⟩
      | refine ⟨by decide, ?_⟩
      | refine ⟨(by show (0 : Int) < _; decide), ?_⟩
      | refine ⟨rfl, ?_⟩
      | refine ⟨⟨_, rfl⟩, ?_⟩
      | refine ⟨_, rfl, rfl, trivial, ?_⟩
      | refine ⟨_, _, rfl, ?_⟩))
      refine ⟨_, hL3, smallL (by omega), ls ++ [x], same_upd2 hL0 sm3, upd_same, ?_⟩
      have tx4 : TX K H3 (upd H3 L (.lst (ls ++ [x]))) := TX.lst hL3
      rw [hz1, amongF_snoc]
      exact papp (Rs.tx tx4 hl3) (.cons (Rv.tx tx4 ro3) .nil)
end
end My

namespace My
open PySem PySem.Spec PyProof.Rows L2
theorem in_strs (s : Str) : ∀ ns : List Str, inV (.str s) (ns.map V.str) = decide (s ∈ ns)
  | [] => rfl
  | k :: ks => by
    have ih := in_strs s ks
    unfold inV at ih ⊢
    rw [List.map_cons, List.any_cons, ih]
    show (k == s || decide (s ∈ ks)) = _
    by_cases h : k = s
    · subst h; simp
    · have e : (k == s) = false := by
        cases z : k == s with
        | false => rfl
        | true => exact absurd (eq_of_beq z) h
      rw [e, Bool.false_or]
      have : (s ∈ k :: ks) ↔ s ∈ ks := by
        rw [List.mem_cons]
        exact ⟨fun z => z.resolve_left fun e => h e.symm, .inr⟩
      simp [this]
def w6 : List Str := ["now", "nothing", "is", "less", "same", "if"]
theorem word_w6 (q : Qn) : decide (word q ∈ w6) = isNow q := by cases q <;> rfl
def TO (K : PySem.W.Frag) (H : Hp) (p : Addr) (os : List O2) : Prop := ∃ ts, H p = some (.lst ts) ∧ Paired (Ov K H) ts os
theorem TO.same {K : PySem.W.Frag} {H H' : Hp} {p : Addr} {os : List O2} (e : L2.Same H H') (h : TO K H p os) : TO K H' p os := by
  obtain ⟨ts, h1, h2⟩ := h
  exact ⟨ts, e _ _ h1, Os.tx (TX.same e) h2⟩
theorem TO.upd {K : PySem.W.Frag} {H : Hp} {p D : Addr} {os : List O2} {xs ys : List V} (hD : H D = some (.lst xs)) (hn : p ≠ D) (h : TO K H p os) : TO K (L2.upd H D (.lst ys)) p os := by
  obtain ⟨ts, h1, h2⟩ := h
  exact ⟨ts, by rw [upd_ne hn]; exact h1, Os.tx (TX.lst hD) h2⟩
theorem none_of {H H' : Hp} {p : Addr} (s : L2.Same H H') (h : H' p = none) : H p = none := by
  cases e : H p with
  | none => rfl
  | some o => rw [s _ _ e] at h; cases h
theorem NewO.mono {K : PySem.W.Frag} {H H' : Hp} {os : List O2} {Q : VK} (s : L2.Same H H') (h : NewO K H os Q) : NewO K H' os Q := fun D vs' H2 s2 h0 h1 h2 => h D vs' H2 (s.trans s2) (none_of s h0) h1 h2
theorem cut_but {xs : List V} : cutV xs none (some (-1)) = xs.take (xs.length - 1) := by
  unfold cutV
  rw [HT.sIx_none, List.drop_zero, Nat.sub_zero]
  have e : HT.sIx xs.length xs.length (some (-1)) = xs.length - 1 := by
    unfold HT.sIx
    dsimp only
    rw [if_pos (by decide)]
    omega
  rw [e]
theorem ptake {α β : Type} {R : α → β → Prop} : ∀ {xs : List α} {ys : List β} (n : Nat), Paired R xs ys → Paired R (xs.take n) (ys.take n)
  | _, _, 0, _ => .nil
  | _, _, n + 1, .nil => .nil
  | _, _, n + 1, .cons r t => .cons r (ptake n t)
theorem TO.o {K : PySem.W.Frag} {H : Hp} {p : Addr} {os : List O2} (h : TO K H p os) : SqO K H p os := by
  obtain ⟨ts, h1, h2⟩ := h
  exact ⟨ts, SqL.of h1, h2⟩
section
variable {P : Program} {w : World} {K : PySem.W.Frag} {mg : Str → Option Value} {base : Heap}
/-! ### _answers -/
theorem answers_step (T : Top K mg w) (n k : Nat) (hk5 : 5 ≤ k) (G_answers : ∀ m, m + 1 = n → FnOk P w K mg base CX0 k T.a_answers T.d_answers ["tree", "row"] (sp_ans K m)) (G_answers_since : FnOk P w K mg base CX0 k T.a_answers_since T.d_answers_since ["tree", "row"] (sp_si K n)) (G_answers_among : FnOk P w K mg base CX0 k T.a_answers_among T.d_answers_among ["tree", "row"] (sp_am K n)) : FnOk P w K mg base CX0 (k + 1) T.a_answers T.d_answers ["tree", "row"] (sp_ans K n) := by
  have no0 : FnOk P w K mg base CX0 k T.a_answers T.d_answers ["tree", "row"] (fun _ _ _ _ => False) := ⟨fun vs H Q E h => h.elim, fun A outer s H args us vs Q E _ _ _ _ h => h.elim⟩
  have G_answers : FnOk P w K mg base CX0 k T.a_answers T.d_answers ["tree", "row"] (fun vs H Q E => ∃ m, m + 1 = n ∧ sp_ans K m vs H Q E) := by
    cases n with
    | zero => exact no0.imp fun vs H Q E ⟨m, h, _⟩ => by omega
    | succ n =>
      refine (G_answers n rfl).imp fun vs H Q E h => ?_
      obtain ⟨m, h, q⟩ := h
      have e : m = n := by omega
      subst e
      exact q
  have G_questions_in : FnOk P w K mg base CX0 k T.a_questions_in T.d_questions_in ["tree"] (sp_qin K) := (ok_questions_in T).mono (by omega)
  have G_answer_now : FnOk P w K mg base CX0 k T.a_answer_now T.d_answer_now ["tree", "told", "name", "number"] (sp_now K) := (ok_answer_now T).mono (by omega)
  have G_latest_or_first : FnOk P w K mg base CX0 k T.a_latest_or_first T.d_latest_or_first ["word", "told"] (sp_lof K) := (ok_latest_or_first T).mono (by omega)
  have G_by_order : FnOk P w K mg base CX0 k T.a_by_order T.d_by_order ["word", "k", "told"] (sp_bo K) := (ok_by_order T).mono (by omega)
  have G_by_count : FnOk P w K mg base CX0 k T.a_by_count T.d_by_count ["tree", "told", "row"] (sp_bc K) := (ok_by_count T).mono (by omega)
  refine T.F_answers.ok sc_answers (fun vs H Q E h => ?_) (fun cdv A outer s H vs Q E hr h => ?_)
  · obtain ⟨p, rw', qq, row, rfl, _⟩ := h
    rfl
  obtain ⟨p, rw', qq, row, rfl, hd, hk, hz, hR, hok, hl, q⟩ := h
  refine ⟨_, (pss_cons (ps_set (i := 2) sc_answers.nd rfl (Or.inl rfl) (pe_ix ix_tup (pv 0) pe_int (fun _ _ => rfl)))
      (pss_cons (ps_if (pt_cmpR op_eq (pv 2) pe_str (nomark _))
        (pss_one (ps_ret (pe_call G_answers_since hr (by rfl) T.m_answers_since T.F_answers_since.kp T.b_answers_since .nil pass0 (pa_cons (pv 0) (pa_cons (pv 1) pa_nil)))))
        pss_nil)
      (pss_cons (ps_if (pt_cmpR op_eq (pv 2) pe_str (nomark _))
        (pss_one (ps_ret (pe_call G_answers_among hr (by rfl) T.m_answers_among T.F_answers_among.kp T.b_answers_among .nil pass0 (pa_cons (pv 0) (pa_cons (pv 1) pa_nil)))))
        pss_nil)
      (pss_cons (ps_set (i := 3) sc_answers.nd rfl (Or.inr rfl) (pe_lc (own := [("part", 4)]) (g := gName 4) (by rfl) sc_answers.nd (pi_list (pe_call G_questions_in hr (by rfl) T.m_questions_in T.F_questions_in.kp T.b_questions_in .nil pass0 (pa_cons (pv 0) pa_nil))) (blkOk_by (own := [("part", 4)]) (N := ["tree", "row", "word", "told", "part", "at", "name", "number", "answers"]) (sc := defScope s_answers) (by decide +kernel)) (fun _ _ _ _ _ => (pg_name (i := 4) sc_answers.nd rfl (Or.inl rfl))) (fun _ _ _ _ _ => pts_nil) (fun _ _ _ _ _ => (pe_call G_answers hr (by rfl) T.m_answers T.F_answers.kp T.b_answers .nil pass0 (pa_cons (pv 4) (pa_cons (pv 1) pa_nil))))))
      (pss_cons (ps_if (pt_cmpR op_in_seq (pv 2) (pe_tup (pa_cons pe_str (pa_cons pe_str (pa_cons pe_str (pa_cons pe_str (pa_cons pe_str (pa_cons pe_str pa_nil))))))) (by rfl))
        (pss_one (ps_ret (pe_lc (own := [("at", 5), ("name", 6), ("number", 7)]) (g := gTup K 2 (gCons (gName 5) (gCons (gTup K 2 (gCons (gName 6) (gCons (gName 7) gNil))) gNil))) (by rfl) sc_answers.nd (pi_enum (by rfl) T.z_enumerate (pa_cons (pv 1) pa_nil)) (blkOk_by (own := [("at", 5), ("name", 6), ("number", 7)]) (N := ["tree", "row", "word", "told", "part", "at", "name", "number", "answers"]) (sc := defScope s_answers) (by decide +kernel)) (fun _ _ _ _ _ => (pg_tup (by rfl) (pgs_cons (pg_name (i := 5) sc_answers.nd rfl (Or.inr rfl)) (pgs_cons (pg_tup (by rfl) (pgs_cons (pg_name (i := 6) sc_answers.nd rfl (Or.inl rfl)) (pgs_cons (pg_name (i := 7) sc_answers.nd rfl (Or.inl rfl)) pgs_nil))) pgs_nil)))) (fun _ _ _ _ _ => pts_nil) (fun _ _ _ _ _ => (pe_call G_answer_now hr (by rfl) T.m_answer_now T.F_answer_now.kp T.b_answer_now .nil pass0 (pa_cons (pv 0) (pa_cons (by exact pe_lc (own := [("answers", 8)]) (g := gName 8) (by rfl) sc_answers.nd (show PI _ _ _ (iList K _) from pi_list (pv 3)) (blkOk_by (own := [("answers", 8)]) (N := ["tree", "row", "word", "told", "part", "at", "name", "number", "answers"]) (sc := _) (by rfl)) (fun _ _ _ _ _ => (pg_name (i := 8) sc_answers.nd rfl (Or.inl rfl))) (fun _ _ _ _ _ => pts_nil) (fun _ _ _ _ _ => (pe_ix (show IxR _ (rIxL K) from ix_list) (pv 8) (pv 5) (fun _ _ => rfl)))) (pa_cons (pv 6) (pa_cons (pv 7) pa_nil)))))))))
        pss_nil)
      (pss_cons (ps_if (pt_cmpR op_eq (pv 2) pe_str (nomark _))
        (pss_one (ps_ret (pe_slice sl_list (pe_op op_cat (pe_lst (pa_cons pe_non pa_nil)) (pe_ix ix_list (pv 3) pe_int (fun _ _ => rfl))) po_none (po_some (pe_un un_neg pe_int)))))
        pss_nil)
      (pss_cons (ps_if (pt_cmpR op_in_seq (pv 2) (pe_tup (pa_cons pe_str (pa_cons pe_str pa_nil))) (by rfl))
        (pss_one (ps_ret (pe_call G_latest_or_first hr (by rfl) T.m_latest_or_first T.F_latest_or_first.kp T.b_latest_or_first .nil pass0 (pa_cons (pv 2) (pa_cons (pe_ix ix_list (pv 3) pe_int (fun _ _ => rfl)) pa_nil)))))
        pss_nil)
      (pss_cons (ps_if (pt_cmpR op_in_seq (pv 2) (pe_tup (pa_cons pe_str (pa_cons pe_str pa_nil))) (by rfl))
        (pss_one (ps_ret (pe_call G_by_order hr (by rfl) T.m_by_order T.F_by_order.kp T.b_by_order .nil pass0 (pa_cons (pv 2) (pa_cons (pe_ix ix_tup (pv 0) pe_int (fun _ _ => rfl)) (pa_cons (pe_ix ix_list (pv 3) pe_int (fun _ _ => rfl)) pa_nil))))))
        pss_nil)
      (pss_one (ps_ret (pe_call G_by_count hr (by rfl) T.m_by_count T.F_by_count.kp T.b_by_count .nil pass0 (pa_cons (pv 0) (pa_cons (pe_ix ix_list (pv 3) pe_int (fun _ _ => rfl)) (pa_cons (pv 1) pa_nil)))))))))))))), ?_⟩
  have hd' := hd
  rw [qt_eq] at hd'
  cases hd' with
  | @tup _ txs _ hT hA =>
  have hx0 : txs[0]? = some (.str (word qq)) := by
    cases hA with
    | cons h0 _ => cases h0; rfl
  obtain ⟨ts, hL, hP⟩ := id hR
  have el := Paired.length hP
  (repeat (first
      | refine ifF ?_
      | refine ifT ?_
      | refine ⟨_, rfl, ?_⟩
      | refine ⟨_, _, rfl, rfl, ?_⟩
      | refine Or.inl ⟨_, rfl, ?_⟩
      | refine Or.inr ⟨_, rfl, ?_⟩
      | refine ⟨Or.inl ⟨by decide, by decide⟩, ?_⟩
      | refine ⟨Or.inr ⟨by decide, by decide⟩, ?_⟩
      | refine ⟨⟨by decide, by decide⟩, ?_⟩
      | refine ⟨⟨by decide, by decide, by decide⟩, ?_⟩
      | refine ⟨by decide, ?_⟩
      | refine ⟨(by show (0 : Int) < _; decide), ?_⟩
      | refine ⟨rfl, ?_⟩
      | refine ⟨⟨_, rfl⟩, ?_⟩
      | refine ⟨_, rfl, rfl, trivial, ?_⟩
      | refine ⟨_, _, rfl, ?_⟩))
  refine ⟨p, _, 0, _, rfl, rfl, hT, atI_nat (j := 0) hx0, ?_⟩
  (repeat (first
      | refine ifF ?_
      | refine ifT ?_
      | refine ⟨_, rfl, ?_⟩
      | refine ⟨_, _, rfl, rfl, ?_⟩
      | refine Or.inl ⟨_, rfl, ?_⟩
      | refine Or.inr ⟨_, rfl, ?_⟩
      | refine ⟨Or.inl ⟨by decide, by decide⟩, ?_⟩
      | refine ⟨Or.inr ⟨by decide, by decide⟩, ?_⟩
      | refine ⟨⟨by decide, by decide⟩, ?_⟩
      | refine ⟨⟨by decide, by decide, by decide⟩, ?_⟩
      | refine ⟨by decide, ?_⟩
      | refine ⟨(by show (0 : Int) < _; decide), ?_⟩
      | refine ⟨rfl, ?_⟩
      | refine ⟨⟨_, rfl⟩, ?_⟩
      | refine ⟨_, rfl, rfl, trivial, ?_⟩
      | refine ⟨_, _, rfl, ?_⟩))
  by_cases hs : ∃ a b, qq = .since a b
  · obtain ⟨a, b, rfl⟩ := hs
    (repeat (first
      | refine ifF ?_
      | refine ifT ?_
      | refine ⟨_, rfl, ?_⟩
      | refine ⟨_, _, rfl, rfl, ?_⟩
      | refine Or.inl ⟨_, rfl, ?_⟩
      | refine Or.inr ⟨_, rfl, ?_⟩
      | refine ⟨Or.inl ⟨by decide, by decide⟩, ?_⟩
      | refine ⟨Or.inr ⟨by decide, by decide⟩, ?_⟩
      | refine ⟨⟨by decide, by decide⟩, ?_⟩
      | refine ⟨⟨by decide, by decide, by decide⟩, ?_⟩
      | refine ⟨by decide, ?_⟩
      | refine ⟨(by show (0 : Int) < _; decide), ?_⟩
      | refine ⟨rfl, ?_⟩
      | refine ⟨⟨_, rfl⟩, ?_⟩
      | refine ⟨_, rfl, rfl, trivial, ?_⟩
      | refine ⟨_, _, rfl, ?_⟩))
    exact ⟨p, rw', a, b, row, rfl, hd, hk, hz, hR, hok, hl, q⟩
  have ns : word qq ≠ Str.ofString "since" := by
    intro z
    cases qq <;> first | (exact hs ⟨_, _, rfl⟩) | (simp only [word] at z; revert z; decide)
  refine ite_dec (fun c => absurd (V.str.inj c) ns) (fun nc1 => ?_)
  (repeat (first
      | refine ifF ?_
      | refine ifT ?_
      | refine ⟨_, rfl, ?_⟩
      | refine ⟨_, _, rfl, rfl, ?_⟩
      | refine Or.inl ⟨_, rfl, ?_⟩
      | refine Or.inr ⟨_, rfl, ?_⟩
      | refine ⟨Or.inl ⟨by decide, by decide⟩, ?_⟩
      | refine ⟨Or.inr ⟨by decide, by decide⟩, ?_⟩
      | refine ⟨⟨by decide, by decide⟩, ?_⟩
      | refine ⟨⟨by decide, by decide, by decide⟩, ?_⟩
      | refine ⟨by decide, ?_⟩
      | refine ⟨(by show (0 : Int) < _; decide), ?_⟩
      | refine ⟨rfl, ?_⟩
      | refine ⟨⟨_, rfl⟩, ?_⟩
      | refine ⟨_, rfl, rfl, trivial, ?_⟩
      | refine ⟨_, _, rfl, ?_⟩))
  by_cases hs2 : ∃ a b, qq = .among a b
  · obtain ⟨a, b, rfl⟩ := hs2
    (repeat (first
      | refine ifF ?_
      | refine ifT ?_
      | refine ⟨_, rfl, ?_⟩
      | refine ⟨_, _, rfl, rfl, ?_⟩
      | refine Or.inl ⟨_, rfl, ?_⟩
      | refine Or.inr ⟨_, rfl, ?_⟩
      | refine ⟨Or.inl ⟨by decide, by decide⟩, ?_⟩
      | refine ⟨Or.inr ⟨by decide, by decide⟩, ?_⟩
      | refine ⟨⟨by decide, by decide⟩, ?_⟩
      | refine ⟨⟨by decide, by decide, by decide⟩, ?_⟩
      | refine ⟨by decide, ?_⟩
      | refine ⟨(by show (0 : Int) < _; decide), ?_⟩
      | refine ⟨rfl, ?_⟩
      | refine ⟨⟨_, rfl⟩, ?_⟩
      | refine ⟨_, rfl, rfl, trivial, ?_⟩
      | refine ⟨_, _, rfl, ?_⟩))
    exact ⟨p, rw', a, b, row, rfl, hd, hk, hz, hR, hok, hl, q⟩
  have ns2 : word qq ≠ Str.ofString "among" := by
    intro z
    cases qq <;> first | (exact hs2 ⟨_, _, rfl⟩) | (simp only [word] at z; revert z; decide)
  refine ite_dec (fun c => absurd (V.str.inj c) ns2) (fun nc2 => ?_)
  (repeat (first
      | refine ifF ?_
      | refine ifT ?_
      | refine ⟨_, rfl, ?_⟩
      | refine ⟨_, _, rfl, rfl, ?_⟩
      | refine Or.inl ⟨_, rfl, ?_⟩
      | refine Or.inr ⟨_, rfl, ?_⟩
      | refine ⟨Or.inl ⟨by decide, by decide⟩, ?_⟩
      | refine ⟨Or.inr ⟨by decide, by decide⟩, ?_⟩
      | refine ⟨⟨by decide, by decide⟩, ?_⟩
      | refine ⟨⟨by decide, by decide, by decide⟩, ?_⟩
      | refine ⟨by decide, ?_⟩
      | refine ⟨(by show (0 : Int) < _; decide), ?_⟩
      | refine ⟨rfl, ?_⟩
      | refine ⟨⟨_, rfl⟩, ?_⟩
      | refine ⟨_, rfl, rfl, trivial, ?_⟩
      | refine ⟨_, _, rfl, ?_⟩))
  refine ⟨p, qq, rfl, hd, hk, fun D0 qs H1 s1 hD0 hQ => ?_⟩
  have lqs := DpAll.len hQ
  rw [List.length_map] at lqs
  refine ⟨D0, rfl, ⟨_, SqL.of hD0⟩, fun Tl hTl => ?_⟩
  have sT : L2.Same H1 (upd H1 Tl (.lst [])) := same_upd hTl
  refine lc_list (xs := qs) (fun i H' => ∃ ps : List Addr, L2.Same H1 H' ∧ H' Tl = some (.lst (ps.map V.ref)) ∧ Paired (fun p' os => p' ≠ Tl ∧ TO K H' p' os) ps (((kids qq).take i).map fun a => an a row)) ⟨[], sT, upd_same, .nil⟩ ?_ ?_ ?_
  · rintro i H' _ ⟨ps, sm, _⟩
    exact SqL.of (sm _ _ hD0)
  · rintro i x H' hx ⟨ps, sm, hTs, hps⟩
    obtain ⟨d, hdi, px⟩ := DpAll.at2 hQ hx
    rw [List.getElem?_map] at hdi
    obtain ⟨a, ha, rfl⟩ : ∃ a, (kids qq)[i]? = some a ∧ qt a = d := by
      cases e : (kids qq)[i]? with
      | none => rw [e] at hdi; cases hdi
      | some a => rw [e] at hdi; exact ⟨a, rfl, Option.some.inj hdi⟩
    have ham := List.mem_of_getElem? ha
    have hsz := kids_sz ham
    obtain ⟨pa, rfl⟩ := dp_ref px (qt_isT a)
    have lps := Paired.length hps
    rw [List.length_map, List.length_take] at lps
    have lk : (kids qq).length ≤ 3 := by cases qq <;> simp [kids]
    refine ⟨rfl, ?_⟩
    (repeat (first
      | refine ifF ?_
      | refine ifT ?_
      | refine ⟨_, rfl, ?_⟩
      | refine ⟨_, _, rfl, rfl, ?_⟩
      | refine Or.inl ⟨_, rfl, ?_⟩
      | refine Or.inr ⟨_, rfl, ?_⟩
      | refine ⟨Or.inl ⟨by decide, by decide⟩, ?_⟩
      | refine ⟨Or.inr ⟨by decide, by decide⟩, ?_⟩
      | refine ⟨⟨by decide, by decide⟩, ?_⟩
      | refine ⟨⟨by decide, by decide, by decide⟩, ?_⟩
      | refine ⟨by decide, ?_⟩
      | refine ⟨(by show (0 : Int) < _; decide), ?_⟩
      | refine ⟨rfl, ?_⟩
      | refine ⟨⟨_, rfl⟩, ?_⟩
      | refine ⟨_, rfl, rfl, trivial, ?_⟩
      | refine ⟨_, _, rfl, ?_⟩))
    refine ⟨n - 1, by omega, pa, rw', a, row, rfl, Dp.same sm px, kids_ok hk ham, by omega, hR.same (s1.trans sm), hok, hl, fun E' es H4 s4 hE0 hE hPe => ?_⟩
    have hT4 := s4 _ _ hTs
    have hET : E' ≠ Tl := fun z => by rw [z, hTs] at hE0; cases hE0
    refine ⟨_, hT4, smallL (by rw [List.length_map]; omega), ps ++ [E'], same_upd2 hTl (sm.trans s4), by rw [List.map_append]; exact upd_same, ?_⟩
    rw [List.take_succ, ha, List.map_append]
    exact papp (pmono (fun p' os h => ⟨h.1, TO.upd hT4 h.1 (TO.same s4 h.2)⟩) hps) (.cons ⟨hET, TO.upd hT4 hET ⟨es, hE, hPe⟩⟩ .nil)
  rintro H2 ⟨ps, sm, hTs, hps⟩
  rw [lqs, List.take_length] at hps
  have sm2 := s1.trans sm
  have hd2 := Dp.same sm2 hd
  have hT2 := My.Same.sqT sm2 hT
  have lps := Paired.length hps
  rw [List.length_map] at lps
  (repeat (first
      | refine ifF ?_
      | refine ifT ?_
      | refine ⟨_, rfl, ?_⟩
      | refine ⟨_, _, rfl, rfl, ?_⟩
      | refine Or.inl ⟨_, rfl, ?_⟩
      | refine Or.inr ⟨_, rfl, ?_⟩
      | refine ⟨Or.inl ⟨by decide, by decide⟩, ?_⟩
      | refine ⟨Or.inr ⟨by decide, by decide⟩, ?_⟩
      | refine ⟨⟨by decide, by decide⟩, ?_⟩
      | refine ⟨⟨by decide, by decide, by decide⟩, ?_⟩
      | refine ⟨by decide, ?_⟩
      | refine ⟨(by show (0 : Int) < _; decide), ?_⟩
      | refine ⟨rfl, ?_⟩
      | refine ⟨⟨_, rfl⟩, ?_⟩
      | refine ⟨_, rfl, rfl, trivial, ?_⟩
      | refine ⟨_, _, rfl, ?_⟩))
  refine fun t1 ht1 => ?_
  have s3 : L2.Same H2 (upd H2 t1 (.tup [.str "now", .str "nothing", .str "is", .str "less", .str "same", .str "if"])) := same_upd ht1
  refine ⟨t1, _, rfl, .inr (SqT.of upd_same), rfl, rfl, ?_⟩
  have m1 : (if false = true then !inV (V.str (word qq)) (w6.map V.str) else inV (V.str (word qq)) (w6.map V.str)) = isNow qq := by
    rw [if_neg (by decide), in_strs, word_w6]
  refine ⟨_, congrArg V.bl m1, ?_⟩
  have sm3 := sm2.trans s3
  have hT3 := s3 _ _ hTs
  have hps3 := pmono (fun p' os (h : p' ≠ Tl ∧ TO K H2 p' os) => (⟨h.1, TO.same s3 h.2⟩ : p' ≠ Tl ∧ TO K _ p' os)) hps
  have hd3 := Dp.same s3 hd2
  have hTt3 := My.Same.sqT s3 hT2
  show (if isNow qq = true then _ else _)
  generalize upd H2 t1 (.tup [.str "now", .str "nothing", .str "is", .str "less", .str "same", .str "if"]) = H3 at s3 sm3 hT3 hps3 hd3 hTt3 ⊢
  refine ite_b (fun hn => ?_) (fun hn => ?_)
  · have hL3 := sm3.seq hL
    (repeat (first
      | refine ifF ?_
      | refine ifT ?_
      | refine ⟨_, rfl, ?_⟩
      | refine ⟨_, _, rfl, rfl, ?_⟩
      | refine Or.inl ⟨_, rfl, ?_⟩
      | refine Or.inr ⟨_, rfl, ?_⟩
      | refine ⟨Or.inl ⟨by decide, by decide⟩, ?_⟩
      | refine ⟨Or.inr ⟨by decide, by decide⟩, ?_⟩
      | refine ⟨⟨by decide, by decide⟩, ?_⟩
      | refine ⟨⟨by decide, by decide, by decide⟩, ?_⟩
      | refine ⟨by decide, ?_⟩
      | refine ⟨(by show (0 : Int) < _; decide), ?_⟩
      | refine ⟨rfl, ?_⟩
      | refine ⟨⟨_, rfl⟩, ?_⟩
      | refine ⟨_, rfl, rfl, trivial, ?_⟩
      | refine ⟨_, _, rfl, ?_⟩))
    refine ⟨rw', _, rfl, hL3, fun N hN => ?_⟩
    have sN : L2.Same H3 (upd H3 N (.lst [])) := same_upd hN
    refine lc_enumL (xs := ts) (fun i H' => ∃ vs', L2.Same H3 H' ∧ H' N = some (.lst vs') ∧ Paired (Ov K H') vs' ((an qq row).take i)) ⟨[], sN, upd_same, .nil⟩ ?_ ?_ ?_
    · rintro i H' ⟨vs', sm', _⟩
      exact sm'.seq hL3
    · rintro H' ⟨vs', sm', hNl, hv⟩
      rw [List.take_of_length_le (by rw [an_len]; omega)] at hv
      exact q N vs' H' (sm3.trans sm') (none_of sm3 hN) hNl hv
    · rintro i H' x Z hx ⟨vs', sm', hNl, hv⟩ hZ
      obtain ⟨hir, ro⟩ := pget2 hP hx
      have lv := Paired.length hv
      rw [List.length_take, an_len] at lv
      have hZu : L2.Same H' (upd H' Z (.tup [.int (i : Nat), x])) := same_upd hZ
      have hZ0 : (upd H' Z (.tup [.int (i : Nat), x])) Z = some (.tup [.int (i : Nat), x]) := upd_same
      have sm4 := sm'.trans hZu
      have ro4 := Rv.tx (TX.same (sm3.trans sm4)) ro
      have hN4 := hZu _ _ hNl
      have hv4 := Os.tx (TX.same hZu) hv
      generalize upd H' Z (.tup [.int (i : Nat), x]) = H4 at hZ0 sm4 ro4 hN4 hv4 ⊢
      obtain ⟨pr, pn, rfl, hpr, hpn⟩ := ro4
      refine ⟨Z, _, rfl, SqT.of hZ0, rfl, ?_⟩
      (repeat (first
      | refine ifF ?_
      | refine ifT ?_
      | refine ⟨_, rfl, ?_⟩
      | refine ⟨_, _, rfl, rfl, ?_⟩
      | refine Or.inl ⟨_, rfl, ?_⟩
      | refine Or.inr ⟨_, rfl, ?_⟩
      | refine ⟨Or.inl ⟨by decide, by decide⟩, ?_⟩
      | refine ⟨Or.inr ⟨by decide, by decide⟩, ?_⟩
      | refine ⟨⟨by decide, by decide⟩, ?_⟩
      | refine ⟨⟨by decide, by decide, by decide⟩, ?_⟩
      | refine ⟨by decide, ?_⟩
      | refine ⟨(by show (0 : Int) < _; decide), ?_⟩
      | refine ⟨rfl, ?_⟩
      | refine ⟨⟨_, rfl⟩, ?_⟩
      | refine ⟨_, rfl, rfl, trivial, ?_⟩
      | refine ⟨_, _, rfl, ?_⟩))
      refine ⟨pr, _, rfl, hpr, rfl, ?_⟩
      (repeat (first
      | refine ifF ?_
      | refine ifT ?_
      | refine ⟨_, rfl, ?_⟩
      | refine ⟨_, _, rfl, rfl, ?_⟩
      | refine Or.inl ⟨_, rfl, ?_⟩
      | refine Or.inr ⟨_, rfl, ?_⟩
      | refine ⟨Or.inl ⟨by decide, by decide⟩, ?_⟩
      | refine ⟨Or.inr ⟨by decide, by decide⟩, ?_⟩
      | refine ⟨⟨by decide, by decide⟩, ?_⟩
      | refine ⟨⟨by decide, by decide, by decide⟩, ?_⟩
      | refine ⟨by decide, ?_⟩
      | refine ⟨(by show (0 : Int) < _; decide), ?_⟩
      | refine ⟨rfl, ?_⟩
      | refine ⟨⟨_, rfl⟩, ?_⟩
      | refine ⟨_, rfl, rfl, trivial, ?_⟩
      | refine ⟨_, _, rfl, ?_⟩))
      refine ⟨⟨_, SqL.of (sm4 _ _ hT3)⟩, fun M hM => ?_⟩
      have sM : L2.Same H4 (upd H4 M (.lst [])) := same_upd hM
      have hps4 := pmono (fun p' os (h : p' ≠ Tl ∧ TO K H3 p' os) => TO.same sm4 h.2) hps3
      have hlk : (kids qq).length ≤ 3 := by cases qq <;> simp [kids]
      refine lc_list (xs := ps.map V.ref) (fun j H' => ∃ us, H' = upd H4 M (.lst us) ∧ Paired (Ov K H4) us (((kids qq).take j).map fun a => mean a (row.take (i + 1)))) ⟨[], rfl, .nil⟩ ?_ ?_ ?_
      · rintro j H' _ ⟨us, rfl, _⟩
        exact (same_upd hM).seq (SqL.of (sm4 _ _ hT3))
      · rintro j y H' hy ⟨us, rfl, hus⟩
        have lus := Paired.length hus
        rw [List.length_map, List.length_take] at lus
        obtain ⟨pj, rfl, hpj⟩ := ref_at hy
        obtain ⟨os, hos, cs, hcs, hcp⟩ := pget hps4 hpj
        rw [List.getElem?_map] at hos
        cases ea : (kids qq)[j]? with
        | none => rw [ea] at hos; cases hos
        | some a =>
        rw [ea] at hos
        cases hos
        have hia : i < (an a row).length := by rw [an_len]; exact hir
        obtain ⟨v, hv', ov⟩ := pget3 hcp hia
        have ev : (an a row)[i] = mean a (row.take (i + 1)) := by
          have e1 : (an a row)[i]? = some (mean a (row.take (i + 1))) := pf_get _ hir
          rw [List.getElem?_eq_getElem hia] at e1
          exact Option.some.inj e1
        rw [ev] at ov
        refine ⟨rfl, ?_⟩
        (repeat (first
      | refine ifF ?_
      | refine ifT ?_
      | refine ⟨_, rfl, ?_⟩
      | refine ⟨_, _, rfl, rfl, ?_⟩
      | refine Or.inl ⟨_, rfl, ?_⟩
      | refine Or.inr ⟨_, rfl, ?_⟩
      | refine ⟨Or.inl ⟨by decide, by decide⟩, ?_⟩
      | refine ⟨Or.inr ⟨by decide, by decide⟩, ?_⟩
      | refine ⟨⟨by decide, by decide⟩, ?_⟩
      | refine ⟨⟨by decide, by decide, by decide⟩, ?_⟩
      | refine ⟨by decide, ?_⟩
      | refine ⟨(by show (0 : Int) < _; decide), ?_⟩
      | refine ⟨rfl, ?_⟩
      | refine ⟨⟨_, rfl⟩, ?_⟩
      | refine ⟨_, rfl, rfl, trivial, ?_⟩
      | refine ⟨_, _, rfl, ?_⟩))
        refine ⟨pj, cs, _, v, rfl, rfl, (same_upd hM).seq (SqL.of hcs), atI_nat hv', ?_⟩
        refine ⟨_, upd_same, smallL (by omega), us ++ [v], upd_upd, ?_⟩
        rw [show (kids qq).take (j + 1) = (kids qq).take j ++ [a] from by rw [List.take_succ, ea]; rfl, List.map_append]
        exact papp hus (.cons ov .nil)
      · rintro H' ⟨us, rfl, hus⟩
        rw [List.length_map, lps, List.take_length] at hus
        have s5 : L2.Same H4 (upd H4 M (.lst us)) := same_upd hM
        have hM5 : (upd H4 M (.lst us)) M = some (.lst us) := upd_same
        generalize upd H4 M (.lst us) = H5 at s5 hM5 ⊢
        have etk : row.take (i + 1) = row.take i ++ [(row[i].1, row[i].2)] := take_snoc hir
        have emn : mean qq (row.take (i + 1)) = nowF qq ((kids qq).map fun a => mean a (row.take (i + 1))) row[i].1 row[i].2 := by
          rw [etk]
          exact mean_now hn (row.take i) row[i].1 row[i].2
        (repeat (first
      | refine ifF ?_
      | refine ifT ?_
      | refine ⟨_, rfl, ?_⟩
      | refine ⟨_, _, rfl, rfl, ?_⟩
      | refine Or.inl ⟨_, rfl, ?_⟩
      | refine Or.inr ⟨_, rfl, ?_⟩
      | refine ⟨Or.inl ⟨by decide, by decide⟩, ?_⟩
      | refine ⟨Or.inr ⟨by decide, by decide⟩, ?_⟩
      | refine ⟨⟨by decide, by decide⟩, ?_⟩
      | refine ⟨⟨by decide, by decide, by decide⟩, ?_⟩
      | refine ⟨by decide, ?_⟩
      | refine ⟨(by show (0 : Int) < _; decide), ?_⟩
      | refine ⟨rfl, ?_⟩
      | refine ⟨⟨_, rfl⟩, ?_⟩
      | refine ⟨_, rfl, rfl, trivial, ?_⟩
      | refine ⟨_, _, rfl, ?_⟩))
        refine ⟨p, M, pn, qq, us, (kids qq).map fun a => mean a (row.take (i + 1)), row[i].1, row[i].2, rfl, Dp.same (sm4.trans s5) hd3, hn, SqL.of hM5, Os.tx (TX.same s5) hus, by rw [List.length_map], fun y hy => ?_, Nm.same s5 hpn, fun v H6 s6 ov => ?_⟩
        · obtain ⟨a, _, ea⟩ := List.mem_map.mp hy
          obtain ⟨r, hr', er⟩ := mean_num ea
          rw [← er]
          exact hok r (List.mem_of_mem_take hr')
        · have hN6 := (s5.trans s6) _ _ hN4
          refine ⟨_, hN6, smallL (by omega), vs' ++ [v], same_upd2 hN ((sm4.trans s5).trans s6), upd_same, ?_⟩
          have tx : TX K H6 (upd H6 N (.lst (vs' ++ [v]))) := TX.lst hN6
          have eat : (an qq row)[i]? = some (mean qq (row.take (i + 1))) := pf_get _ hir
          rw [show (an qq row).take (i + 1) = (an qq row).take i ++ [mean qq (row.take (i + 1))] from by rw [List.take_succ, eat]; rfl]
          refine papp (Os.tx ((TX.same (s5.trans s6)).trans tx) hv4) (.cons (Ov.tx tx ?_) .nil)
          rw [emn]
          exact ov
  · have hSL := SqL.of (K := K) hT3
    have kid1 : ∀ {a : Qn}, kids qq = [a] → ∃ p1, ps = [p1] ∧ TO K H3 p1 (an a row) := fun e => by
      rw [e] at hps3
      cases hps3 with
      | cons r t => cases t; exact ⟨_, rfl, r.2⟩
    have q3 := NewO.mono sm3 q
    cases qq <;> first | (cases hn; done) | (exact (hs ⟨_, _, rfl⟩).elim) | (exact (hs2 ⟨_, _, rfl⟩).elim) | skip
    · rename_i a
      obtain ⟨p1, rfl, hTO⟩ := kid1 rfl
      (repeat (first
      | refine ifF ?_
      | refine ifT ?_
      | refine ⟨_, rfl, ?_⟩
      | refine ⟨_, _, rfl, rfl, ?_⟩
      | refine Or.inl ⟨_, rfl, ?_⟩
      | refine Or.inr ⟨_, rfl, ?_⟩
      | refine ⟨Or.inl ⟨by decide, by decide⟩, ?_⟩
      | refine ⟨Or.inr ⟨by decide, by decide⟩, ?_⟩
      | refine ⟨⟨by decide, by decide⟩, ?_⟩
      | refine ⟨⟨by decide, by decide, by decide⟩, ?_⟩
      | refine ⟨by decide, ?_⟩
      | refine ⟨(by show (0 : Int) < _; decide), ?_⟩
      | refine ⟨rfl, ?_⟩
      | refine ⟨⟨_, rfl⟩, ?_⟩
      | refine ⟨_, rfl, rfl, trivial, ?_⟩
      | refine ⟨_, _, rfl, ?_⟩))
      refine fun t2 ht2 => ?_
      have s5 : L2.Same H3 (upd H3 t2 (.tup [.str "last", .str "first"])) := same_upd ht2
      have q5 := NewO.mono s5 q3
      have hT5 := SqL.of (K := K) (s5 _ _ hT3)
      have hTO5 := TO.same s5 hTO
      have hd5 := Dp.same s5 hd3
      have hTt5 := My.Same.sqT s5 hTt3
      refine ⟨t2, _, rfl, .inr (SqT.of upd_same), rfl, rfl, ?_⟩
      generalize upd H3 t2 (.tup [.str "last", .str "first"]) = H5 at s5 q5 hT5 hTO5 hd5 hTt5 ⊢
      (repeat (first
      | refine ifF ?_
      | refine ifT ?_
      | refine ⟨_, rfl, ?_⟩
      | refine ⟨_, _, rfl, rfl, ?_⟩
      | refine Or.inl ⟨_, rfl, ?_⟩
      | refine Or.inr ⟨_, rfl, ?_⟩
      | refine ⟨Or.inl ⟨by decide, by decide⟩, ?_⟩
      | refine ⟨Or.inr ⟨by decide, by decide⟩, ?_⟩
      | refine ⟨⟨by decide, by decide⟩, ?_⟩
      | refine ⟨⟨by decide, by decide, by decide⟩, ?_⟩
      | refine ⟨by decide, ?_⟩
      | refine ⟨(by show (0 : Int) < _; decide), ?_⟩
      | refine ⟨rfl, ?_⟩
      | refine ⟨⟨_, rfl⟩, ?_⟩
      | refine ⟨_, rfl, rfl, trivial, ?_⟩
      | refine ⟨_, _, rfl, ?_⟩))
      refine ⟨Tl, _, 0, _, rfl, rfl, hT5, atI_nat (j := 0) rfl, ?_⟩
      (repeat (first
      | refine ifF ?_
      | refine ifT ?_
      | refine ⟨_, rfl, ?_⟩
      | refine ⟨_, _, rfl, rfl, ?_⟩
      | refine Or.inl ⟨_, rfl, ?_⟩
      | refine Or.inr ⟨_, rfl, ?_⟩
      | refine ⟨Or.inl ⟨by decide, by decide⟩, ?_⟩
      | refine ⟨Or.inr ⟨by decide, by decide⟩, ?_⟩
      | refine ⟨⟨by decide, by decide⟩, ?_⟩
      | refine ⟨⟨by decide, by decide, by decide⟩, ?_⟩
      | refine ⟨by decide, ?_⟩
      | refine ⟨(by show (0 : Int) < _; decide), ?_⟩
      | refine ⟨rfl, ?_⟩
      | refine ⟨⟨_, rfl⟩, ?_⟩
      | refine ⟨_, rfl, rfl, trivial, ?_⟩
      | refine ⟨_, _, rfl, ?_⟩))
      refine ⟨true, p1, an a row, rfl, TO.o hTO5, by rw [an_len]; omega, ?_⟩
      rw [show pf (LF true) (an a row) = an (.last a) row from (an_last_q a row).symm]
      exact q5
    · rename_i a
      obtain ⟨p1, rfl, hTO⟩ := kid1 rfl
      (repeat (first
      | refine ifF ?_
      | refine ifT ?_
      | refine ⟨_, rfl, ?_⟩
      | refine ⟨_, _, rfl, rfl, ?_⟩
      | refine Or.inl ⟨_, rfl, ?_⟩
      | refine Or.inr ⟨_, rfl, ?_⟩
      | refine ⟨Or.inl ⟨by decide, by decide⟩, ?_⟩
      | refine ⟨Or.inr ⟨by decide, by decide⟩, ?_⟩
      | refine ⟨⟨by decide, by decide⟩, ?_⟩
      | refine ⟨⟨by decide, by decide, by decide⟩, ?_⟩
      | refine ⟨by decide, ?_⟩
      | refine ⟨(by show (0 : Int) < _; decide), ?_⟩
      | refine ⟨rfl, ?_⟩
      | refine ⟨⟨_, rfl⟩, ?_⟩
      | refine ⟨_, rfl, rfl, trivial, ?_⟩
      | refine ⟨_, _, rfl, ?_⟩))
      refine fun t2 ht2 => ?_
      have s5 : L2.Same H3 (upd H3 t2 (.tup [.str "last", .str "first"])) := same_upd ht2
      have q5 := NewO.mono s5 q3
      have hT5 := SqL.of (K := K) (s5 _ _ hT3)
      have hTO5 := TO.same s5 hTO
      have hd5 := Dp.same s5 hd3
      have hTt5 := My.Same.sqT s5 hTt3
      refine ⟨t2, _, rfl, .inr (SqT.of upd_same), rfl, rfl, ?_⟩
      generalize upd H3 t2 (.tup [.str "last", .str "first"]) = H5 at s5 q5 hT5 hTO5 hd5 hTt5 ⊢
      (repeat (first
      | refine ifF ?_
      | refine ifT ?_
      | refine ⟨_, rfl, ?_⟩
      | refine ⟨_, _, rfl, rfl, ?_⟩
      | refine Or.inl ⟨_, rfl, ?_⟩
      | refine Or.inr ⟨_, rfl, ?_⟩
      | refine ⟨Or.inl ⟨by decide, by decide⟩, ?_⟩
      | refine ⟨Or.inr ⟨by decide, by decide⟩, ?_⟩
      | refine ⟨⟨by decide, by decide⟩, ?_⟩
      | refine ⟨⟨by decide, by decide, by decide⟩, ?_⟩
      | refine ⟨by decide, ?_⟩
      | refine ⟨(by show (0 : Int) < _; decide), ?_⟩
      | refine ⟨rfl, ?_⟩
      | refine ⟨⟨_, rfl⟩, ?_⟩
      | refine ⟨_, rfl, rfl, trivial, ?_⟩
      | refine ⟨_, _, rfl, ?_⟩))
      refine ⟨Tl, _, 0, _, rfl, rfl, hT5, atI_nat (j := 0) rfl, ?_⟩
      (repeat (first
      | refine ifF ?_
      | refine ifT ?_
      | refine ⟨_, rfl, ?_⟩
      | refine ⟨_, _, rfl, rfl, ?_⟩
      | refine Or.inl ⟨_, rfl, ?_⟩
      | refine Or.inr ⟨_, rfl, ?_⟩
      | refine ⟨Or.inl ⟨by decide, by decide⟩, ?_⟩
      | refine ⟨Or.inr ⟨by decide, by decide⟩, ?_⟩
      | refine ⟨⟨by decide, by decide⟩, ?_⟩
      | refine ⟨⟨by decide, by decide, by decide⟩, ?_⟩
      | refine ⟨by decide, ?_⟩
      | refine ⟨(by show (0 : Int) < _; decide), ?_⟩
      | refine ⟨rfl, ?_⟩
      | refine ⟨⟨_, rfl⟩, ?_⟩
      | refine ⟨_, rfl, rfl, trivial, ?_⟩
      | refine ⟨_, _, rfl, ?_⟩))
      refine ⟨false, p1, an a row, rfl, TO.o hTO5, by rw [an_len]; omega, ?_⟩
      rw [show pf (LF false) (an a row) = an (.first a) row from (an_first_q a row).symm]
      exact q5
    · rename_i a
      obtain ⟨p1, rfl, hTO⟩ := kid1 rfl
      (repeat (first
      | refine ifF ?_
      | refine ifT ?_
      | refine ⟨_, rfl, ?_⟩
      | refine ⟨_, _, rfl, rfl, ?_⟩
      | refine Or.inl ⟨_, rfl, ?_⟩
      | refine Or.inr ⟨_, rfl, ?_⟩
      | refine ⟨Or.inl ⟨by decide, by decide⟩, ?_⟩
      | refine ⟨Or.inr ⟨by decide, by decide⟩, ?_⟩
      | refine ⟨⟨by decide, by decide⟩, ?_⟩
      | refine ⟨⟨by decide, by decide, by decide⟩, ?_⟩
      | refine ⟨by decide, ?_⟩
      | refine ⟨(by show (0 : Int) < _; decide), ?_⟩
      | refine ⟨rfl, ?_⟩
      | refine ⟨⟨_, rfl⟩, ?_⟩
      | refine ⟨_, rfl, rfl, trivial, ?_⟩
      | refine ⟨_, _, rfl, ?_⟩))
      refine fun l1 hl1 => ?_
      have s5 : L2.Same H3 (upd H3 l1 (.lst [.non])) := same_upd hl1
      have h15 : (upd H3 l1 (.lst [.non])) l1 = some (.lst [.non]) := upd_same
      have q5 := NewO.mono s5 q3
      have hT5 := SqL.of (K := K) (s5 _ _ hT3)
      obtain ⟨vs1, hv1, hp1⟩ := TO.same s5 hTO
      generalize upd H3 l1 (.lst [.non]) = H5 at s5 h15 q5 hT5 hv1 hp1 ⊢
      have lv1 := Paired.length hp1
      rw [an_len] at lv1
      refine ⟨_, rfl, Tl, _, 0, _, rfl, rfl, hT5, atI_nat (j := 0) rfl, ?_⟩
      refine ⟨l1, p1, _, vs1, rfl, rfl, h15, hv1, small (by show 1 + _ ≤ _; omega), fun G hG => ?_⟩
      (repeat (first
      | refine ifF ?_
      | refine ifT ?_
      | refine ⟨_, rfl, ?_⟩
      | refine ⟨_, _, rfl, rfl, ?_⟩
      | refine Or.inl ⟨_, rfl, ?_⟩
      | refine Or.inr ⟨_, rfl, ?_⟩
      | refine ⟨Or.inl ⟨by decide, by decide⟩, ?_⟩
      | refine ⟨Or.inr ⟨by decide, by decide⟩, ?_⟩
      | refine ⟨⟨by decide, by decide⟩, ?_⟩
      | refine ⟨⟨by decide, by decide, by decide⟩, ?_⟩
      | refine ⟨by decide, ?_⟩
      | refine ⟨(by show (0 : Int) < _; decide), ?_⟩
      | refine ⟨rfl, ?_⟩
      | refine ⟨⟨_, rfl⟩, ?_⟩
      | refine ⟨_, rfl, rfl, trivial, ?_⟩
      | refine ⟨_, _, rfl, ?_⟩))
      refine ⟨G, _, rfl, SqL.of upd_same, fun N hN => ?_⟩
      have sG : L2.Same H5 (upd H5 G (.lst ([.non] ++ vs1))) := same_upd hG
      have sN := sG.trans (same_upd (o := .lst (cutV ([.non] ++ vs1) none (some (-1)))) hN)
      have ecut : cutV ([V.non] ++ vs1) none (some (-1)) = ([V.non] ++ vs1).take row.length := by
        have e : ([V.non] ++ vs1).length - 1 = row.length := by
          rw [List.length_append, lv1]
          show 1 + row.length - 1 = row.length
          omega
        rw [cut_but, e]
      have hfin : ∀ H9, TX K H5 H9 → Paired (Ov K H9) (cutV ([V.non] ++ vs1) none (some (-1))) (an (.before a) row) := fun H9 t => by
        rw [ecut, an_before (a := a) hk]
        exact ptake _ (show Paired (Ov K H9) (.non :: vs1) (none :: an a row) from .cons rfl (Os.tx t hp1))
      exact q5 N (cutV ([V.non] ++ vs1) none (some (-1))) _ sN (none_of sG hN) upd_same (hfin _ (TX.same sN))
    · rename_i k' a
      obtain ⟨p1, rfl, hTO⟩ := kid1 rfl
      (repeat (first
      | refine ifF ?_
      | refine ifT ?_
      | refine ⟨_, rfl, ?_⟩
      | refine ⟨_, _, rfl, rfl, ?_⟩
      | refine Or.inl ⟨_, rfl, ?_⟩
      | refine Or.inr ⟨_, rfl, ?_⟩
      | refine ⟨Or.inl ⟨by decide, by decide⟩, ?_⟩
      | refine ⟨Or.inr ⟨by decide, by decide⟩, ?_⟩
      | refine ⟨⟨by decide, by decide⟩, ?_⟩
      | refine ⟨⟨by decide, by decide, by decide⟩, ?_⟩
      | refine ⟨by decide, ?_⟩
      | refine ⟨(by show (0 : Int) < _; decide), ?_⟩
      | refine ⟨rfl, ?_⟩
      | refine ⟨⟨_, rfl⟩, ?_⟩
      | refine ⟨_, rfl, rfl, trivial, ?_⟩
      | refine ⟨_, _, rfl, ?_⟩))
      refine fun t2 ht2 => ?_
      have s5 : L2.Same H3 (upd H3 t2 (.tup [.str "last", .str "first"])) := same_upd ht2
      have q5 := NewO.mono s5 q3
      have hT5 := SqL.of (K := K) (s5 _ _ hT3)
      have hTO5 := TO.same s5 hTO
      have hd5 := Dp.same s5 hd3
      have hTt5 := My.Same.sqT s5 hTt3
      refine ⟨t2, _, rfl, .inr (SqT.of upd_same), rfl, rfl, ?_⟩
      generalize upd H3 t2 (.tup [.str "last", .str "first"]) = H5 at s5 q5 hT5 hTO5 hd5 hTt5 ⊢
      (repeat (first
      | refine ifF ?_
      | refine ifT ?_
      | refine ⟨_, rfl, ?_⟩
      | refine ⟨_, _, rfl, rfl, ?_⟩
      | refine Or.inl ⟨_, rfl, ?_⟩
      | refine Or.inr ⟨_, rfl, ?_⟩
      | refine ⟨Or.inl ⟨by decide, by decide⟩, ?_⟩
      | refine ⟨Or.inr ⟨by decide, by decide⟩, ?_⟩
      | refine ⟨⟨by decide, by decide⟩, ?_⟩
      | refine ⟨⟨by decide, by decide, by decide⟩, ?_⟩
      | refine ⟨by decide, ?_⟩
      | refine ⟨(by show (0 : Int) < _; decide), ?_⟩
      | refine ⟨rfl, ?_⟩
      | refine ⟨⟨_, rfl⟩, ?_⟩
      | refine ⟨_, rfl, rfl, trivial, ?_⟩
      | refine ⟨_, _, rfl, ?_⟩))
      refine fun t6 ht6 => ?_
      have s6 : L2.Same H5 (upd H5 t6 (.tup [.str "great", .str "least"])) := same_upd ht6
      have q6 := NewO.mono s6 q5
      have hT6 := s6.seq hT5
      have hTO6 := TO.same s6 hTO5
      have hd6 := Dp.same s6 hd5
      have hTt6 := My.Same.sqT s6 hTt5
      refine ⟨t6, _, rfl, .inr (SqT.of upd_same), rfl, rfl, ?_⟩
      generalize upd H5 t6 (.tup [.str "great", .str "least"]) = H6 at s6 q6 hT6 hTO6 hd6 hTt6 ⊢
      (repeat (first
      | refine ifF ?_
      | refine ifT ?_
      | refine ⟨_, rfl, ?_⟩
      | refine ⟨_, _, rfl, rfl, ?_⟩
      | refine Or.inl ⟨_, rfl, ?_⟩
      | refine Or.inr ⟨_, rfl, ?_⟩
      | refine ⟨Or.inl ⟨by decide, by decide⟩, ?_⟩
      | refine ⟨Or.inr ⟨by decide, by decide⟩, ?_⟩
      | refine ⟨⟨by decide, by decide⟩, ?_⟩
      | refine ⟨⟨by decide, by decide, by decide⟩, ?_⟩
      | refine ⟨by decide, ?_⟩
      | refine ⟨(by show (0 : Int) < _; decide), ?_⟩
      | refine ⟨rfl, ?_⟩
      | refine ⟨⟨_, rfl⟩, ?_⟩
      | refine ⟨_, rfl, rfl, trivial, ?_⟩
      | refine ⟨_, _, rfl, ?_⟩))
      have hx1 : txs[1]? = some (.int (k' : Int)) := by
        cases hA with
        | cons _ hr => cases hr with
          | cons h1 _ => cases h1; rfl
      refine ⟨p, _, 1, _, rfl, rfl, hTt6, atI_nat (j := 1) hx1, ?_⟩
      (repeat (first
      | refine ifF ?_
      | refine ifT ?_
      | refine ⟨_, rfl, ?_⟩
      | refine ⟨_, _, rfl, rfl, ?_⟩
      | refine Or.inl ⟨_, rfl, ?_⟩
      | refine Or.inr ⟨_, rfl, ?_⟩
      | refine ⟨Or.inl ⟨by decide, by decide⟩, ?_⟩
      | refine ⟨Or.inr ⟨by decide, by decide⟩, ?_⟩
      | refine ⟨⟨by decide, by decide⟩, ?_⟩
      | refine ⟨⟨by decide, by decide, by decide⟩, ?_⟩
      | refine ⟨by decide, ?_⟩
      | refine ⟨(by show (0 : Int) < _; decide), ?_⟩
      | refine ⟨rfl, ?_⟩
      | refine ⟨⟨_, rfl⟩, ?_⟩
      | refine ⟨_, rfl, rfl, trivial, ?_⟩
      | refine ⟨_, _, rfl, ?_⟩))
      refine ⟨Tl, _, 0, _, rfl, rfl, hT6, atI_nat (j := 0) rfl, ?_⟩
      (repeat (first
      | refine ifF ?_
      | refine ifT ?_
      | refine ⟨_, rfl, ?_⟩
      | refine ⟨_, _, rfl, rfl, ?_⟩
      | refine Or.inl ⟨_, rfl, ?_⟩
      | refine Or.inr ⟨_, rfl, ?_⟩
      | refine ⟨Or.inl ⟨by decide, by decide⟩, ?_⟩
      | refine ⟨Or.inr ⟨by decide, by decide⟩, ?_⟩
      | refine ⟨⟨by decide, by decide⟩, ?_⟩
      | refine ⟨⟨by decide, by decide, by decide⟩, ?_⟩
      | refine ⟨by decide, ?_⟩
      | refine ⟨(by show (0 : Int) < _; decide), ?_⟩
      | refine ⟨rfl, ?_⟩
      | refine ⟨⟨_, rfl⟩, ?_⟩
      | refine ⟨_, rfl, rfl, trivial, ?_⟩
      | refine ⟨_, _, rfl, ?_⟩))
      refine ⟨true, k', p1, an a row, rfl, TO.o hTO6, hk.1, an_ok hok, by rw [an_len]; omega, ?_⟩
      rw [show pf (GF true k') (an a row) = _ from (an_great k' a row).symm]
      exact q6
    · rename_i k' a
      obtain ⟨p1, rfl, hTO⟩ := kid1 rfl
      (repeat (first
      | refine ifF ?_
      | refine ifT ?_
      | refine ⟨_, rfl, ?_⟩
      | refine ⟨_, _, rfl, rfl, ?_⟩
      | refine Or.inl ⟨_, rfl, ?_⟩
      | refine Or.inr ⟨_, rfl, ?_⟩
      | refine ⟨Or.inl ⟨by decide, by decide⟩, ?_⟩
      | refine ⟨Or.inr ⟨by decide, by decide⟩, ?_⟩
      | refine ⟨⟨by decide, by decide⟩, ?_⟩
      | refine ⟨⟨by decide, by decide, by decide⟩, ?_⟩
      | refine ⟨by decide, ?_⟩
      | refine ⟨(by show (0 : Int) < _; decide), ?_⟩
      | refine ⟨rfl, ?_⟩
      | refine ⟨⟨_, rfl⟩, ?_⟩
      | refine ⟨_, rfl, rfl, trivial, ?_⟩
      | refine ⟨_, _, rfl, ?_⟩))
      refine fun t2 ht2 => ?_
      have s5 : L2.Same H3 (upd H3 t2 (.tup [.str "last", .str "first"])) := same_upd ht2
      have q5 := NewO.mono s5 q3
      have hT5 := SqL.of (K := K) (s5 _ _ hT3)
      have hTO5 := TO.same s5 hTO
      have hd5 := Dp.same s5 hd3
      have hTt5 := My.Same.sqT s5 hTt3
      refine ⟨t2, _, rfl, .inr (SqT.of upd_same), rfl, rfl, ?_⟩
      generalize upd H3 t2 (.tup [.str "last", .str "first"]) = H5 at s5 q5 hT5 hTO5 hd5 hTt5 ⊢
      (repeat (first
      | refine ifF ?_
      | refine ifT ?_
      | refine ⟨_, rfl, ?_⟩
      | refine ⟨_, _, rfl, rfl, ?_⟩
      | refine Or.inl ⟨_, rfl, ?_⟩
      | refine Or.inr ⟨_, rfl, ?_⟩
      | refine ⟨Or.inl ⟨by decide, by decide⟩, ?_⟩
      | refine ⟨Or.inr ⟨by decide, by decide⟩, ?_⟩
      | refine ⟨⟨by decide, by decide⟩, ?_⟩
      | refine ⟨⟨by decide, by decide, by decide⟩, ?_⟩
      | refine ⟨by decide, ?_⟩
      | refine ⟨(by show (0 : Int) < _; decide), ?_⟩
      | refine ⟨rfl, ?_⟩
      | refine ⟨⟨_, rfl⟩, ?_⟩
      | refine ⟨_, rfl, rfl, trivial, ?_⟩
      | refine ⟨_, _, rfl, ?_⟩))
      refine fun t6 ht6 => ?_
      have s6 : L2.Same H5 (upd H5 t6 (.tup [.str "great", .str "least"])) := same_upd ht6
      have q6 := NewO.mono s6 q5
      have hT6 := s6.seq hT5
      have hTO6 := TO.same s6 hTO5
      have hd6 := Dp.same s6 hd5
      have hTt6 := My.Same.sqT s6 hTt5
      refine ⟨t6, _, rfl, .inr (SqT.of upd_same), rfl, rfl, ?_⟩
      generalize upd H5 t6 (.tup [.str "great", .str "least"]) = H6 at s6 q6 hT6 hTO6 hd6 hTt6 ⊢
      (repeat (first
      | refine ifF ?_
      | refine ifT ?_
      | refine ⟨_, rfl, ?_⟩
      | refine ⟨_, _, rfl, rfl, ?_⟩
      | refine Or.inl ⟨_, rfl, ?_⟩
      | refine Or.inr ⟨_, rfl, ?_⟩
      | refine ⟨Or.inl ⟨by decide, by decide⟩, ?_⟩
      | refine ⟨Or.inr ⟨by decide, by decide⟩, ?_⟩
      | refine ⟨⟨by decide, by decide⟩, ?_⟩
      | refine ⟨⟨by decide, by decide, by decide⟩, ?_⟩
      | refine ⟨by decide, ?_⟩
      | refine ⟨(by show (0 : Int) < _; decide), ?_⟩
      | refine ⟨rfl, ?_⟩
      | refine ⟨⟨_, rfl⟩, ?_⟩
      | refine ⟨_, rfl, rfl, trivial, ?_⟩
      | refine ⟨_, _, rfl, ?_⟩))
      have hx1 : txs[1]? = some (.int (k' : Int)) := by
        cases hA with
        | cons _ hr => cases hr with
          | cons h1 _ => cases h1; rfl
      refine ⟨p, _, 1, _, rfl, rfl, hTt6, atI_nat (j := 1) hx1, ?_⟩
      (repeat (first
      | refine ifF ?_
      | refine ifT ?_
      | refine ⟨_, rfl, ?_⟩
      | refine ⟨_, _, rfl, rfl, ?_⟩
      | refine Or.inl ⟨_, rfl, ?_⟩
      | refine Or.inr ⟨_, rfl, ?_⟩
      | refine ⟨Or.inl ⟨by decide, by decide⟩, ?_⟩
      | refine ⟨Or.inr ⟨by decide, by decide⟩, ?_⟩
      | refine ⟨⟨by decide, by decide⟩, ?_⟩
      | refine ⟨⟨by decide, by decide, by decide⟩, ?_⟩
      | refine ⟨by decide, ?_⟩
      | refine ⟨(by show (0 : Int) < _; decide), ?_⟩
      | refine ⟨rfl, ?_⟩
      | refine ⟨⟨_, rfl⟩, ?_⟩
      | refine ⟨_, rfl, rfl, trivial, ?_⟩
      | refine ⟨_, _, rfl, ?_⟩))
      refine ⟨Tl, _, 0, _, rfl, rfl, hT6, atI_nat (j := 0) rfl, ?_⟩
      (repeat (first
      | refine ifF ?_
      | refine ifT ?_
      | refine ⟨_, rfl, ?_⟩
      | refine ⟨_, _, rfl, rfl, ?_⟩
      | refine Or.inl ⟨_, rfl, ?_⟩
      | refine Or.inr ⟨_, rfl, ?_⟩
      | refine ⟨Or.inl ⟨by decide, by decide⟩, ?_⟩
      | refine ⟨Or.inr ⟨by decide, by decide⟩, ?_⟩
      | refine ⟨⟨by decide, by decide⟩, ?_⟩
      | refine ⟨⟨by decide, by decide, by decide⟩, ?_⟩
      | refine ⟨by decide, ?_⟩
      | refine ⟨(by show (0 : Int) < _; decide), ?_⟩
      | refine ⟨rfl, ?_⟩
      | refine ⟨⟨_, rfl⟩, ?_⟩
      | refine ⟨_, rfl, rfl, trivial, ?_⟩
      | refine ⟨_, _, rfl, ?_⟩))
      refine ⟨false, k', p1, an a row, rfl, TO.o hTO6, hk.1, an_ok hok, by rw [an_len]; omega, ?_⟩
      rw [show pf (GF false k') (an a row) = _ from (an_least k' a row).symm]
      exact q6
    · rename_i k' a
      obtain ⟨p1, rfl, hTO⟩ := kid1 rfl
      (repeat (first
      | refine ifF ?_
      | refine ifT ?_
      | refine ⟨_, rfl, ?_⟩
      | refine ⟨_, _, rfl, rfl, ?_⟩
      | refine Or.inl ⟨_, rfl, ?_⟩
      | refine Or.inr ⟨_, rfl, ?_⟩
      | refine ⟨Or.inl ⟨by decide, by decide⟩, ?_⟩
      | refine ⟨Or.inr ⟨by decide, by decide⟩, ?_⟩
      | refine ⟨⟨by decide, by decide⟩, ?_⟩
      | refine ⟨⟨by decide, by decide, by decide⟩, ?_⟩
      | refine ⟨by decide, ?_⟩
      | refine ⟨(by show (0 : Int) < _; decide), ?_⟩
      | refine ⟨rfl, ?_⟩
      | refine ⟨⟨_, rfl⟩, ?_⟩
      | refine ⟨_, rfl, rfl, trivial, ?_⟩
      | refine ⟨_, _, rfl, ?_⟩))
      refine fun t2 ht2 => ?_
      have s5 : L2.Same H3 (upd H3 t2 (.tup [.str "last", .str "first"])) := same_upd ht2
      have q5 := NewO.mono s5 q3
      have hT5 := SqL.of (K := K) (s5 _ _ hT3)
      have hTO5 := TO.same s5 hTO
      have hd5 := Dp.same s5 hd3
      have hTt5 := My.Same.sqT s5 hTt3
      refine ⟨t2, _, rfl, .inr (SqT.of upd_same), rfl, rfl, ?_⟩
      generalize upd H3 t2 (.tup [.str "last", .str "first"]) = H5 at s5 q5 hT5 hTO5 hd5 hTt5 ⊢
      (repeat (first
      | refine ifF ?_
      | refine ifT ?_
      | refine ⟨_, rfl, ?_⟩
      | refine ⟨_, _, rfl, rfl, ?_⟩
      | refine Or.inl ⟨_, rfl, ?_⟩
      | refine Or.inr ⟨_, rfl, ?_⟩
      | refine ⟨Or.inl ⟨by decide, by decide⟩, ?_⟩
      | refine ⟨Or.inr ⟨by decide, by decide⟩, ?_⟩
      | refine ⟨⟨by decide, by decide⟩, ?_⟩
      | refine ⟨⟨by decide, by decide, by decide⟩, ?_⟩
      | refine ⟨by decide, ?_⟩
      | refine ⟨(by show (0 : Int) < _; decide), ?_⟩
      | refine ⟨rfl, ?_⟩
      | refine ⟨⟨_, rfl⟩, ?_⟩
      | refine ⟨_, rfl, rfl, trivial, ?_⟩
      | refine ⟨_, _, rfl, ?_⟩))
      refine fun t6 ht6 => ?_
      have s6 : L2.Same H5 (upd H5 t6 (.tup [.str "great", .str "least"])) := same_upd ht6
      have q6 := NewO.mono s6 q5
      have hT6 := s6.seq hT5
      have hTO6 := TO.same s6 hTO5
      have hd6 := Dp.same s6 hd5
      have hTt6 := My.Same.sqT s6 hTt5
      refine ⟨t6, _, rfl, .inr (SqT.of upd_same), rfl, rfl, ?_⟩
      generalize upd H5 t6 (.tup [.str "great", .str "least"]) = H6 at s6 q6 hT6 hTO6 hd6 hTt6 ⊢
      (repeat (first
      | refine ifF ?_
      | refine ifT ?_
      | refine ⟨_, rfl, ?_⟩
      | refine ⟨_, _, rfl, rfl, ?_⟩
      | refine Or.inl ⟨_, rfl, ?_⟩
      | refine Or.inr ⟨_, rfl, ?_⟩
      | refine ⟨Or.inl ⟨by decide, by decide⟩, ?_⟩
      | refine ⟨Or.inr ⟨by decide, by decide⟩, ?_⟩
      | refine ⟨⟨by decide, by decide⟩, ?_⟩
      | refine ⟨⟨by decide, by decide, by decide⟩, ?_⟩
      | refine ⟨by decide, ?_⟩
      | refine ⟨(by show (0 : Int) < _; decide), ?_⟩
      | refine ⟨rfl, ?_⟩
      | refine ⟨⟨_, rfl⟩, ?_⟩
      | refine ⟨_, rfl, rfl, trivial, ?_⟩
      | refine ⟨_, _, rfl, ?_⟩))
      refine ⟨Tl, _, 0, _, rfl, rfl, hT6, atI_nat (j := 0) rfl, ?_⟩
      (repeat (first
      | refine ifF ?_
      | refine ifT ?_
      | refine ⟨_, rfl, ?_⟩
      | refine ⟨_, _, rfl, rfl, ?_⟩
      | refine Or.inl ⟨_, rfl, ?_⟩
      | refine Or.inr ⟨_, rfl, ?_⟩
      | refine ⟨Or.inl ⟨by decide, by decide⟩, ?_⟩
      | refine ⟨Or.inr ⟨by decide, by decide⟩, ?_⟩
      | refine ⟨⟨by decide, by decide⟩, ?_⟩
      | refine ⟨⟨by decide, by decide, by decide⟩, ?_⟩
      | refine ⟨by decide, ?_⟩
      | refine ⟨(by show (0 : Int) < _; decide), ?_⟩
      | refine ⟨rfl, ?_⟩
      | refine ⟨⟨_, rfl⟩, ?_⟩
      | refine ⟨_, rfl, rfl, trivial, ?_⟩
      | refine ⟨_, _, rfl, ?_⟩))
      exact ⟨p, p1, rw', _, row, rfl, hd6, hk, rfl, TO.o hTO6, ((hR.same sm3).same s5).same s6, by omega, q6⟩
    · rename_i m' k' a
      obtain ⟨p1, rfl, hTO⟩ := kid1 rfl
      (repeat (first
      | refine ifF ?_
      | refine ifT ?_
      | refine ⟨_, rfl, ?_⟩
      | refine ⟨_, _, rfl, rfl, ?_⟩
      | refine Or.inl ⟨_, rfl, ?_⟩
      | refine Or.inr ⟨_, rfl, ?_⟩
      | refine ⟨Or.inl ⟨by decide, by decide⟩, ?_⟩
      | refine ⟨Or.inr ⟨by decide, by decide⟩, ?_⟩
      | refine ⟨⟨by decide, by decide⟩, ?_⟩
      | refine ⟨⟨by decide, by decide, by decide⟩, ?_⟩
      | refine ⟨by decide, ?_⟩
      | refine ⟨(by show (0 : Int) < _; decide), ?_⟩
      | refine ⟨rfl, ?_⟩
      | refine ⟨⟨_, rfl⟩, ?_⟩
      | refine ⟨_, rfl, rfl, trivial, ?_⟩
      | refine ⟨_, _, rfl, ?_⟩))
      refine fun t2 ht2 => ?_
      have s5 : L2.Same H3 (upd H3 t2 (.tup [.str "last", .str "first"])) := same_upd ht2
      have q5 := NewO.mono s5 q3
      have hT5 := SqL.of (K := K) (s5 _ _ hT3)
      have hTO5 := TO.same s5 hTO
      have hd5 := Dp.same s5 hd3
      have hTt5 := My.Same.sqT s5 hTt3
      refine ⟨t2, _, rfl, .inr (SqT.of upd_same), rfl, rfl, ?_⟩
      generalize upd H3 t2 (.tup [.str "last", .str "first"]) = H5 at s5 q5 hT5 hTO5 hd5 hTt5 ⊢
      (repeat (first
      | refine ifF ?_
      | refine ifT ?_
      | refine ⟨_, rfl, ?_⟩
      | refine ⟨_, _, rfl, rfl, ?_⟩
      | refine Or.inl ⟨_, rfl, ?_⟩
      | refine Or.inr ⟨_, rfl, ?_⟩
      | refine ⟨Or.inl ⟨by decide, by decide⟩, ?_⟩
      | refine ⟨Or.inr ⟨by decide, by decide⟩, ?_⟩
      | refine ⟨⟨by decide, by decide⟩, ?_⟩
      | refine ⟨⟨by decide, by decide, by decide⟩, ?_⟩
      | refine ⟨by decide, ?_⟩
      | refine ⟨(by show (0 : Int) < _; decide), ?_⟩
      | refine ⟨rfl, ?_⟩
      | refine ⟨⟨_, rfl⟩, ?_⟩
      | refine ⟨_, rfl, rfl, trivial, ?_⟩
      | refine ⟨_, _, rfl, ?_⟩))
      refine fun t6 ht6 => ?_
      have s6 : L2.Same H5 (upd H5 t6 (.tup [.str "great", .str "least"])) := same_upd ht6
      have q6 := NewO.mono s6 q5
      have hT6 := s6.seq hT5
      have hTO6 := TO.same s6 hTO5
      have hd6 := Dp.same s6 hd5
      have hTt6 := My.Same.sqT s6 hTt5
      refine ⟨t6, _, rfl, .inr (SqT.of upd_same), rfl, rfl, ?_⟩
      generalize upd H5 t6 (.tup [.str "great", .str "least"]) = H6 at s6 q6 hT6 hTO6 hd6 hTt6 ⊢
      (repeat (first
      | refine ifF ?_
      | refine ifT ?_
      | refine ⟨_, rfl, ?_⟩
      | refine ⟨_, _, rfl, rfl, ?_⟩
      | refine Or.inl ⟨_, rfl, ?_⟩
      | refine Or.inr ⟨_, rfl, ?_⟩
      | refine ⟨Or.inl ⟨by decide, by decide⟩, ?_⟩
      | refine ⟨Or.inr ⟨by decide, by decide⟩, ?_⟩
      | refine ⟨⟨by decide, by decide⟩, ?_⟩
      | refine ⟨⟨by decide, by decide, by decide⟩, ?_⟩
      | refine ⟨by decide, ?_⟩
      | refine ⟨(by show (0 : Int) < _; decide), ?_⟩
      | refine ⟨rfl, ?_⟩
      | refine ⟨⟨_, rfl⟩, ?_⟩
      | refine ⟨_, rfl, rfl, trivial, ?_⟩
      | refine ⟨_, _, rfl, ?_⟩))
      refine ⟨Tl, _, 0, _, rfl, rfl, hT6, atI_nat (j := 0) rfl, ?_⟩
      (repeat (first
      | refine ifF ?_
      | refine ifT ?_
      | refine ⟨_, rfl, ?_⟩
      | refine ⟨_, _, rfl, rfl, ?_⟩
      | refine Or.inl ⟨_, rfl, ?_⟩
      | refine Or.inr ⟨_, rfl, ?_⟩
      | refine ⟨Or.inl ⟨by decide, by decide⟩, ?_⟩
      | refine ⟨Or.inr ⟨by decide, by decide⟩, ?_⟩
      | refine ⟨⟨by decide, by decide⟩, ?_⟩
      | refine ⟨⟨by decide, by decide, by decide⟩, ?_⟩
      | refine ⟨by decide, ?_⟩
      | refine ⟨(by show (0 : Int) < _; decide), ?_⟩
      | refine ⟨rfl, ?_⟩
      | refine ⟨⟨_, rfl⟩, ?_⟩
      | refine ⟨_, rfl, rfl, trivial, ?_⟩
      | refine ⟨_, _, rfl, ?_⟩))
      exact ⟨p, p1, rw', _, row, rfl, hd6, hk, rfl, TO.o hTO6, ((hR.same sm3).same s5).same s6, by omega, q6⟩
end
end My

namespace My
open PySem PySem.Spec PyProof.Rows L2
section
variable {P : Program} {w : World} {K : PySem.W.Frag} {mg : Str → Option Value} {base : Heap}
theorem ok_answers (T : Top K mg w) : ∀ n : Nat, FnOk P w K mg base CX0 (2 * n + 6) T.a_answers T.d_answers ["tree", "row"] (sp_ans K n)
  | 0 => by
    have no0 : FnOk P w K mg base CX0 6 T.a_answers T.d_answers ["tree", "row"] (fun _ _ _ _ => False) := ⟨fun vs H Q E h => h.elim, fun A outer s H args us vs Q E _ _ _ _ h => h.elim⟩
    refine no0.imp fun vs H Q E h => ?_
    obtain ⟨p, rw', qq, row, _, _, _, hz, _⟩ := h
    have := qsz_pos qq
    omega
  | n + 1 => by
    have ih := ok_answers T n
    have s := since_step T n (2 * n + 6) ih
    have a := among_step T n (2 * n + 6) (by omega) ih
    refine answers_step T (n + 1) (2 * n + 7) (by omega) (fun m h => ?_) s a
    have e : m = n := by omega
    subst e
    exact ih.mono (by omega)
/-! ### meaning -/
def sp_mean (K : PySem.W.Frag) (n : Nat) : Sp := fun vs H Q _ => ∃ (p rw' : Addr) (qq : Qn) (row : List Rec), vs = [.ref p, .ref rw'] ∧ Dp K H (.ref p) (qt qq) ∧ Qk qq ∧ qsz qq ≤ n ∧ SqR K H rw' row ∧ RowOk row ∧ row.length ≤ 100 ∧ ∀ v H', L2.Same H H' → Ov K H' v (mean qq row) → Q v H'
theorem ok_meaning (T : Top K mg w) (n : Nat) : FnOk P w K mg base CX0 (2 * n + 7) T.a_meaning T.d_meaning ["tree", "row"] (sp_mean K n) := by
  have G_answers := ok_answers (P := P) (base := base) T n
  refine T.F_meaning.ok sc_meaning (fun vs H Q E h => ?_) (fun cdv A outer s H vs Q E hr h => ?_)
  · obtain ⟨p, rw', qq, row, rfl, _⟩ := h
    rfl
  obtain ⟨p, rw', qq, row, rfl, hd, hk, hz, hR, hok, hl, q⟩ := h
  obtain ⟨ts, hL, hP⟩ := id hR
  have el := Paired.length hP
  refine ⟨_, (pss_cons (ps_if (pt_cmpR op_eq (pe_callB call_len_seq (by rfl) T.z_len (by decide +kernel) (pa_cons (pv 1) pa_nil)) pe_int (nomark _))
        (pss_one (ps_ret pe_non))
        pss_nil)
      (pss_one (ps_ret (pe_ix ix_list (pe_call G_answers hr (by rfl) T.m_answers T.F_answers.kp T.b_answers .nil pass0 (pa_cons (pv 0) (pa_cons (pv 1) pa_nil))) (pe_un un_neg pe_int) (fun _ _ => rfl))))), ?_⟩
  (repeat (first
      | refine ifF ?_
      | refine ifT ?_
      | refine ⟨_, rfl, ?_⟩
      | refine ⟨_, _, rfl, rfl, ?_⟩
      | refine Or.inl ⟨_, rfl, ?_⟩
      | refine Or.inr ⟨_, rfl, ?_⟩
      | refine ⟨Or.inl ⟨by decide, by decide⟩, ?_⟩
      | refine ⟨Or.inr ⟨by decide, by decide⟩, ?_⟩
      | refine ⟨⟨by decide, by decide⟩, ?_⟩
      | refine ⟨⟨by decide, by decide, by decide⟩, ?_⟩
      | refine ⟨by decide, ?_⟩
      | refine ⟨(by show (0 : Int) < _; decide), ?_⟩
      | refine ⟨rfl, ?_⟩
      | refine ⟨⟨_, rfl⟩, ?_⟩
      | refine ⟨_, rfl, rfl, trivial, ?_⟩
      | refine ⟨_, _, rfl, ?_⟩))
  refine ⟨rw', _, rfl, .inl hL, ?_⟩
  (repeat (first
      | refine ifF ?_
      | refine ifT ?_
      | refine ⟨_, rfl, ?_⟩
      | refine ⟨_, _, rfl, rfl, ?_⟩
      | refine Or.inl ⟨_, rfl, ?_⟩
      | refine Or.inr ⟨_, rfl, ?_⟩
      | refine ⟨Or.inl ⟨by decide, by decide⟩, ?_⟩
      | refine ⟨Or.inr ⟨by decide, by decide⟩, ?_⟩
      | refine ⟨⟨by decide, by decide⟩, ?_⟩
      | refine ⟨⟨by decide, by decide, by decide⟩, ?_⟩
      | refine ⟨by decide, ?_⟩
      | refine ⟨(by show (0 : Int) < _; decide), ?_⟩
      | refine ⟨rfl, ?_⟩
      | refine ⟨⟨_, rfl⟩, ?_⟩
      | refine ⟨_, rfl, rfl, trivial, ?_⟩
      | refine ⟨_, _, rfl, ?_⟩))
  rw [el]
  refine ite_dec (fun c => ?_) (fun c => ?_)
  · have e0 : row = [] := List.length_eq_zero_iff.mp (by have := V.int.inj c; omega)
    subst e0
    refine q .non H (.refl H) ?_
    rw [mean_nil hk]
    rfl
  · have h0 : 0 < row.length := Nat.pos_of_ne_zero fun z => c (by rw [z]; rfl)
    (repeat (first
      | refine ifF ?_
      | refine ifT ?_
      | refine ⟨_, rfl, ?_⟩
      | refine ⟨_, _, rfl, rfl, ?_⟩
      | refine Or.inl ⟨_, rfl, ?_⟩
      | refine Or.inr ⟨_, rfl, ?_⟩
      | refine ⟨Or.inl ⟨by decide, by decide⟩, ?_⟩
      | refine ⟨Or.inr ⟨by decide, by decide⟩, ?_⟩
      | refine ⟨⟨by decide, by decide⟩, ?_⟩
      | refine ⟨⟨by decide, by decide, by decide⟩, ?_⟩
      | refine ⟨by decide, ?_⟩
      | refine ⟨(by show (0 : Int) < _; decide), ?_⟩
      | refine ⟨rfl, ?_⟩
      | refine ⟨⟨_, rfl⟩, ?_⟩
      | refine ⟨_, rfl, rfl, trivial, ?_⟩
      | refine ⟨_, _, rfl, ?_⟩))
    refine ⟨p, rw', qq, row, rfl, hd, hk, hz, hR, hok, hl, fun D vs' H' s1 hD0 hD hv => ?_⟩
    have lv := Paired.length hv
    rw [an_len] at lv
    have hi : row.length - 1 < (an qq row).length := by rw [an_len]; omega
    obtain ⟨v, ev, ov⟩ := pget3 hv hi
    have e2 : (an qq row)[row.length - 1] = mean qq row := by
      have e1 : (an qq row)[row.length - 1]? = some (mean qq (row.take (row.length - 1 + 1))) := pf_get _ (by omega)
      rw [List.getElem?_eq_getElem hi, show row.length - 1 + 1 = row.length by omega, List.take_length] at e1
      exact Option.some.inj e1
    rw [e2] at ov
    (repeat (first
      | refine ifF ?_
      | refine ifT ?_
      | refine ⟨_, rfl, ?_⟩
      | refine ⟨_, _, rfl, rfl, ?_⟩
      | refine Or.inl ⟨_, rfl, ?_⟩
      | refine Or.inr ⟨_, rfl, ?_⟩
      | refine ⟨Or.inl ⟨by decide, by decide⟩, ?_⟩
      | refine ⟨Or.inr ⟨by decide, by decide⟩, ?_⟩
      | refine ⟨⟨by decide, by decide⟩, ?_⟩
      | refine ⟨⟨by decide, by decide, by decide⟩, ?_⟩
      | refine ⟨by decide, ?_⟩
      | refine ⟨(by show (0 : Int) < _; decide), ?_⟩
      | refine ⟨rfl, ?_⟩
      | refine ⟨⟨_, rfl⟩, ?_⟩
      | refine ⟨_, rfl, rfl, trivial, ?_⟩
      | refine ⟨_, _, rfl, ?_⟩))
    refine ⟨D, vs', -1, v, rfl, rfl, SqL.of hD, ?_, q v H' s1 ov⟩
    have := atI_neg (k := 1) (xs := vs') (v := v) (Nat.le_refl _) (by omega) (by rw [lv]; exact ev)
    exact this
end
end My

namespace My
open PySem PySem.Spec PyProof.Rows L2
/-! ### cells -/
abbrev Cell := O2 × Nat × List Q2
def cell0 : Cell := (none, 0, [])
def hdO (cs : List Cell) : O2 := (cs.headD cell0).1
def sl (cs : List Cell) (i n : Nat) : List Cell := (cs.drop i).take n
def keepG (k : Nat) (s : List Q2) : List Q2 := s.drop (s.length - k)
/-- a question's own cell behind a record -/
def ownC (q : Qn) (cs : List Cell) (told : List O2) (nm : Str) (x : Q2) : Cell :=
  match q with
  | .last _ => (lastS (cs.headD cell0).1 (told.getD 0 none), (cs.headD cell0).2.1, (cs.headD cell0).2.2)
  | .first _ => (firstS (cs.headD cell0).1 (told.getD 0 none), (cs.headD cell0).2.1, (cs.headD cell0).2.2)
  | .before _ => ((cs.getD 1 cell0).1, (cs.headD cell0).2.1, (cs.headD cell0).2.2)
  | .since _ _ => (told.getD 1 none, (cs.headD cell0).2.1, (cs.headD cell0).2.2)
  | .among _ _ => (told.getD 1 none, (cs.headD cell0).2.1, (cs.headD cell0).2.2)
  | .great k _ => (if (keepG k (setS (cs.headD cell0).2.2 (told.getD 0 none))).length = k then (keepG k (setS (cs.headD cell0).2.2 (told.getD 0 none)))[0]? else none, (cs.headD cell0).2.1, keepG k (setS (cs.headD cell0).2.2 (told.getD 0 none)))
  | .least k _ => (if ((setS (cs.headD cell0).2.2 (told.getD 0 none)).take k).length = k then ((setS (cs.headD cell0).2.2 (told.getD 0 none)).take k)[k - 1]? else none, (cs.headD cell0).2.1, (setS (cs.headD cell0).2.2 (told.getD 0 none)).take k)
  | .times k _ => (if (if (told.getD 0 none).isSome then min ((cs.headD cell0).2.1 + 1) k else (cs.headD cell0).2.1) = k then some x else none, if (told.getD 0 none).isSome then min ((cs.headD cell0).2.1 + 1) k else (cs.headD cell0).2.1, (cs.headD cell0).2.2)
  | .circle m k _ => (if (if (told.getD 0 none).isSome then ((cs.headD cell0).2.1 + 1) % m else (cs.headD cell0).2.1) = k then some x else none, if (told.getD 0 none).isSome then ((cs.headD cell0).2.1 + 1) % m else (cs.headD cell0).2.1, (cs.headD cell0).2.2)
  | q => (nowF q told nm x, (cs.headD cell0).2.1, (cs.headD cell0).2.2)
def finC (q : Qn) (cs : List Cell) (hs : List (List Cell)) (nm : Str) (x : Q2) : List Cell := ownC q cs (hs.map hdO) nm x :: hs.flatten
def hearC : Qn → List Cell → Str → Q2 → List Cell
  | .now => fun cs nm x => finC .now cs [] nm x
  | .nothing => fun cs nm x => finC .nothing cs [] nm x
  | .is n => fun cs nm x => finC (.is n) cs [] nm x
  | .less a b => fun cs nm x => finC (.less a b) cs [hearC a (sl cs 1 (qsz a)) nm x, hearC b (sl cs (1 + qsz a) (qsz b)) nm x] nm x
  | .same a b => fun cs nm x => finC (.same a b) cs [hearC a (sl cs 1 (qsz a)) nm x, hearC b (sl cs (1 + qsz a) (qsz b)) nm x] nm x
  | .iff a b c => fun cs nm x => finC (.iff a b c) cs [hearC a (sl cs 1 (qsz a)) nm x, hearC b (sl cs (1 + qsz a) (qsz b)) nm x, hearC c (sl cs (1 + qsz a + qsz b) (qsz c)) nm x] nm x
  | .last a => fun cs nm x => finC (.last a) cs [hearC a (sl cs 1 (qsz a)) nm x] nm x
  | .first a => fun cs nm x => finC (.first a) cs [hearC a (sl cs 1 (qsz a)) nm x] nm x
  | .before a => fun cs nm x => finC (.before a) cs [hearC a (sl cs 1 (qsz a)) nm x] nm x
  | .great k a => fun cs nm x => finC (.great k a) cs [hearC a (sl cs 1 (qsz a)) nm x] nm x
  | .least k a => fun cs nm x => finC (.least k a) cs [hearC a (sl cs 1 (qsz a)) nm x] nm x
  | .times k a => fun cs nm x => finC (.times k a) cs [hearC a (sl cs 1 (qsz a)) nm x] nm x
  | .circle m k a => fun cs nm x => finC (.circle m k a) cs [hearC a (sl cs 1 (qsz a)) nm x] nm x
  | .since a b => fun cs nm x => finC (.since a b) cs [hearC a (sl cs 1 (qsz a)) nm x, if (hdO (hearC a (sl cs 1 (qsz a)) nm x)).isSome then List.replicate (qsz b) cell0 else hearC b (sl cs (1 + qsz a) (qsz b)) nm x] nm x
  | .among a b => fun cs nm x => finC (.among a b) cs [hearC a (sl cs 1 (qsz a)) nm x, if (hdO (hearC a (sl cs 1 (qsz a)) nm x)).isSome then hearC b (sl cs (1 + qsz a) (qsz b)) nm x else sl cs (1 + qsz a) (qsz b)] nm x
/-- what stands in a cell -/
def CellOk (q : Qn) (c : Cell) : Prop := (∀ y, c.1 = some y → gd2 y) ∧ Srt c.2.2 ∧ (∀ y ∈ c.2.2, gd2 y) ∧ c.2.2.length ≤ 3 ∧ (match q with | .times k _ => c.2.1 ≤ k | .circle m _ _ => c.2.1 < m | _ => c.2.1 ≤ 3)
def CellsOk : Qn → List Cell → Prop
  | .now => fun cs => cs.length = 1 ∧ CellOk .now (cs.headD cell0)
  | .nothing => fun cs => cs.length = 1 ∧ CellOk .nothing (cs.headD cell0)
  | .is n => fun cs => cs.length = 1 ∧ CellOk (.is n) (cs.headD cell0)
  | .less a b => fun cs => cs.length = qsz a + qsz b + 1 ∧ CellOk (.less a b) (cs.headD cell0) ∧ CellsOk a (sl cs 1 (qsz a)) ∧ CellsOk b (sl cs (1 + qsz a) (qsz b))
  | .same a b => fun cs => cs.length = qsz a + qsz b + 1 ∧ CellOk (.same a b) (cs.headD cell0) ∧ CellsOk a (sl cs 1 (qsz a)) ∧ CellsOk b (sl cs (1 + qsz a) (qsz b))
  | .iff a b c => fun cs => cs.length = qsz a + qsz b + qsz c + 1 ∧ CellOk (.iff a b c) (cs.headD cell0) ∧ CellsOk a (sl cs 1 (qsz a)) ∧ CellsOk b (sl cs (1 + qsz a) (qsz b)) ∧ CellsOk c (sl cs (1 + qsz a + qsz b) (qsz c))
  | .last a => fun cs => cs.length = qsz a + 1 ∧ CellOk (.last a) (cs.headD cell0) ∧ CellsOk a (sl cs 1 (qsz a))
  | .first a => fun cs => cs.length = qsz a + 1 ∧ CellOk (.first a) (cs.headD cell0) ∧ CellsOk a (sl cs 1 (qsz a))
  | .before a => fun cs => cs.length = qsz a + 1 ∧ CellOk (.before a) (cs.headD cell0) ∧ CellsOk a (sl cs 1 (qsz a))
  | .great k a => fun cs => cs.length = qsz a + 1 ∧ CellOk (.great k a) (cs.headD cell0) ∧ CellsOk a (sl cs 1 (qsz a))
  | .least k a => fun cs => cs.length = qsz a + 1 ∧ CellOk (.least k a) (cs.headD cell0) ∧ CellsOk a (sl cs 1 (qsz a))
  | .times k a => fun cs => cs.length = qsz a + 1 ∧ CellOk (.times k a) (cs.headD cell0) ∧ CellsOk a (sl cs 1 (qsz a))
  | .circle m k a => fun cs => cs.length = qsz a + 1 ∧ CellOk (.circle m k a) (cs.headD cell0) ∧ CellsOk a (sl cs 1 (qsz a))
  | .since a b => fun cs => cs.length = qsz a + qsz b + 1 ∧ CellOk (.since a b) (cs.headD cell0) ∧ CellsOk a (sl cs 1 (qsz a)) ∧ CellsOk b (sl cs (1 + qsz a) (qsz b))
  | .among a b => fun cs => cs.length = qsz a + qsz b + 1 ∧ CellOk (.among a b) (cs.headD cell0) ∧ CellsOk a (sl cs 1 (qsz a)) ∧ CellsOk b (sl cs (1 + qsz a) (qsz b))
theorem CellsOk.len : ∀ {q : Qn} {cs : List Cell}, CellsOk q cs → cs.length = qsz q := by
  intro q cs h
  cases q <;> exact h.1
theorem CellsOk.hd {q : Qn} {cs : List Cell} (h : CellsOk q cs) : CellOk q (cs.headD cell0) := by
  cases q <;> first | exact h.2.1 | exact h.2
theorem hdO_ok {q : Qn} {cs : List Cell} (h : CellsOk q cs) {y : Q2} (e : hdO cs = some y) : gd2 y := h.hd.1 y e
theorem cell0_ok (q : Qn) (hq : Qk q) : CellOk q cell0 := by
  refine ⟨fun y h => (by cases h), ⟨List.Pairwise.nil, fun _ h => by cases h⟩, (fun _ h => by cases h), Nat.zero_le _, ?_⟩
  cases q <;> first | exact Nat.zero_le _ | (have := hq.1; exact Nat.lt_of_lt_of_le Nat.zero_lt_one this.1)
theorem sl_rep {n i m : Nat} (h : i + m ≤ n) : sl (List.replicate n cell0) i m = List.replicate m cell0 := by
  unfold sl
  rw [List.drop_replicate, List.take_replicate]
  congr 1
  omega
theorem hd_rep {n : Nat} : (List.replicate n cell0).headD cell0 = cell0 := by
  cases n <;> rfl
theorem rep_ok : ∀ {q : Qn}, Qk q → CellsOk q (List.replicate (qsz q) cell0) := by
  intro q
  induction q with
  | now => intro h; exact ⟨List.length_replicate, cell0_ok _ h⟩
  | nothing => intro h; exact ⟨List.length_replicate, cell0_ok _ h⟩
  | is n => intro h; exact ⟨List.length_replicate, cell0_ok _ h⟩
  | less a b iha ihb => intro h; exact ⟨List.length_replicate, by rw [hd_rep]; exact cell0_ok _ h, by rw [sl_rep (by simp only [qsz]; omega)]; exact iha h.1, by rw [sl_rep (by simp only [qsz]; omega)]; exact ihb h.2⟩
  | same a b iha ihb => intro h; exact ⟨List.length_replicate, by rw [hd_rep]; exact cell0_ok _ h, by rw [sl_rep (by simp only [qsz]; omega)]; exact iha h.1, by rw [sl_rep (by simp only [qsz]; omega)]; exact ihb h.2⟩
  | since a b iha ihb => intro h; exact ⟨List.length_replicate, by rw [hd_rep]; exact cell0_ok _ h, by rw [sl_rep (by simp only [qsz]; omega)]; exact iha h.1, by rw [sl_rep (by simp only [qsz]; omega)]; exact ihb h.2⟩
  | among a b iha ihb => intro h; exact ⟨List.length_replicate, by rw [hd_rep]; exact cell0_ok _ h, by rw [sl_rep (by simp only [qsz]; omega)]; exact iha h.1, by rw [sl_rep (by simp only [qsz]; omega)]; exact ihb h.2⟩
  | iff a b c iha ihb ihc => intro h; exact ⟨List.length_replicate, by rw [hd_rep]; exact cell0_ok _ h, by rw [sl_rep (by simp only [qsz]; omega)]; exact iha h.1, by rw [sl_rep (by simp only [qsz]; omega)]; exact ihb h.2.1, by rw [sl_rep (by simp only [qsz]; omega)]; exact ihc h.2.2⟩
  | last a ih => intro h; exact ⟨List.length_replicate, by rw [hd_rep]; exact cell0_ok _ h, by rw [sl_rep (by simp only [qsz]; omega)]; exact ih h⟩
  | first a ih => intro h; exact ⟨List.length_replicate, by rw [hd_rep]; exact cell0_ok _ h, by rw [sl_rep (by simp only [qsz]; omega)]; exact ih h⟩
  | before a ih => intro h; exact ⟨List.length_replicate, by rw [hd_rep]; exact cell0_ok _ h, by rw [sl_rep (by simp only [qsz]; omega)]; exact ih h⟩
  | great k a ih => intro h; exact ⟨List.length_replicate, by rw [hd_rep]; exact cell0_ok _ h, by rw [sl_rep (by simp only [qsz]; omega)]; exact ih h.2⟩
  | least k a ih => intro h; exact ⟨List.length_replicate, by rw [hd_rep]; exact cell0_ok _ h, by rw [sl_rep (by simp only [qsz]; omega)]; exact ih h.2⟩
  | times k a ih => intro h; exact ⟨List.length_replicate, by rw [hd_rep]; exact cell0_ok _ h, by rw [sl_rep (by simp only [qsz]; omega)]; exact ih h.2⟩
  | circle m k a ih => intro h; exact ⟨List.length_replicate, by rw [hd_rep]; exact cell0_ok _ h, by rw [sl_rep (by simp only [qsz]; omega)]; exact ih h.2⟩
/-! ### held numbers -/
theorem setS_ok {s : List Q2} {a : O2} (hs : Srt s) (hg : ∀ y ∈ s, gd2 y) (ha : ∀ y, a = some y → gd2 y) : Srt (setS s a) ∧ (∀ y ∈ setS s a, gd2 y) ∧ (setS s a).length ≤ s.length + 1 := by
  cases a with
  | none => exact ⟨hs, hg, Nat.le_succ _⟩
  | some x =>
    have gx := ha x rfl
    refine ⟨with2_srt hs gx.1, fun y hy => ?_, with2_len s x⟩
    rcases with2_mem hy with rfl | hy
    · exact gx
    · exact hg y hy
theorem srt_sub {s t : List Q2} (h : t.Sublist s) (hs : Srt s) : Srt t := ⟨hs.1.sublist h, fun x hx => hs.2 x (h.subset hx)⟩
theorem keepG_sub (k : Nat) (s : List Q2) : (keepG k s).Sublist s := List.drop_sublist _ _
theorem keepG_len (k : Nat) (s : List Q2) : (keepG k s).length ≤ k := by
  unfold keepG
  rw [List.length_drop]
  omega
theorem nowF_ok {q : Qn} {told : List O2} {nm : Str} {x y : Q2} (ht : ∀ z, some z ∈ told → gd2 z) (hx : gd2 x) (h : nowF q told nm x = some y) : gd2 y := by
  have gd : ∀ i z, told.getD i none = some z → gd2 z := fun i z e => by
    rw [List.getD_eq_getElem?_getD] at e
    cases e2 : told[i]? with
    | none => rw [e2] at e; cases e
    | some o =>
      rw [e2] at e
      have e : o = some z := e
      exact ht z (by rw [← e]; exact List.mem_of_getElem? e2)
  cases q with
  | now => cases h; exact hx
  | is n =>
    have h : (if nm = n then some x else none) = some y := h
    split at h
    · cases h; exact hx
    · cases h
  | less a b =>
    have h : lessO (told.getD 0 none) (told.getD 1 none) = some y := h
    unfold lessO at h
    split at h
    · rename_i u v e1 e2
      split at h
      · cases h; exact gd 0 _ e1
      · cases h
    · cases h
  | same a b =>
    have h : sameO (told.getD 0 none) (told.getD 1 none) = some y := h
    unfold sameO at h
    split at h
    · rename_i u v e1 e2
      split at h
      · cases h; exact gd 0 _ e1
      · cases h
    · cases h
  | iff a b c =>
    have h : (if (told.getD 0 none).isSome then told.getD 1 none else told.getD 2 none) = some y := h
    split at h
    · exact gd 1 _ h
    · exact gd 2 _ h
  | _ => cases h
theorem some_if {x y : Q2} (c : Prop) [Decidable c] (hx : gd2 x) (e : (if c then some x else none) = some y) : gd2 y := by
  by_cases h : c
  · rw [if_pos h] at e
    cases e
    exact hx
  · rw [if_neg h] at e
    cases e
theorem own_ok {q : Qn} (hq : Qk q) {cs : List Cell} (h : CellsOk q cs) {told : List O2} (ht : ∀ z, some z ∈ told → gd2 z) {nm : Str} {x : Q2} (hx : gd2 x) : CellOk q (ownC q cs told nm x) := by
  have gd : ∀ i z, told.getD i none = some z → gd2 z := fun i z e => by
    rw [List.getD_eq_getElem?_getD] at e
    cases e2 : told[i]? with
    | none => rw [e2] at e; cases e
    | some o =>
      rw [e2] at e
      have e : o = some z := e
      exact ht z (by rw [← e]; exact List.mem_of_getElem? e2)
  obtain ⟨h1, h2, h3, h4, h5⟩ := h.hd
  have hset := setS_ok (a := told.getD 0 none) h2 h3 (gd 0)
  cases q with
  | last a =>
    refine ⟨fun y e => ?_, h2, h3, h4, h5⟩
    have e : lastS (cs.headD cell0).1 (told.getD 0 none) = some y := e
    unfold lastS at e
    split at e
    · exact gd 0 _ e
    · exact h1 y e
  | first a =>
    refine ⟨fun y e => ?_, h2, h3, h4, h5⟩
    have e : firstS (cs.headD cell0).1 (told.getD 0 none) = some y := e
    unfold firstS at e
    split at e
    · exact h1 y e
    · exact gd 0 _ e
  | before a =>
    refine ⟨fun y e => ?_, h2, h3, h4, h5⟩
    have hb : CellsOk a (sl cs 1 (qsz a)) := h.2.2
    refine hdO_ok hb ?_
    have e : (cs.getD 1 cell0).1 = some y := e
    have hp := qsz_pos a
    have e2 : (sl cs 1 (qsz a)).headD cell0 = cs.getD 1 cell0 := by
      unfold sl
      rw [List.headD_eq_head?_getD, List.head?_take, if_neg (by omega), List.head?_drop, List.getD_eq_getElem?_getD]
    unfold hdO
    rw [e2]
    exact e
  | since a b => exact ⟨fun y e => gd 1 _ e, h2, h3, h4, h5⟩
  | among a b => exact ⟨fun y e => gd 1 _ e, h2, h3, h4, h5⟩
  | great k a =>
    have hl := keepG_len k (setS (cs.headD cell0).2.2 (told.getD 0 none))
    have hm : ∀ y ∈ keepG k (setS (cs.headD cell0).2.2 (told.getD 0 none)), gd2 y := fun y hy => hset.2.1 y ((keepG_sub _ _).subset hy)
    refine ⟨fun y e => ?_, srt_sub (keepG_sub _ _) hset.1, hm, Nat.le_trans hl hq.1.2, h5⟩
    have e : (if (keepG k (setS (cs.headD cell0).2.2 (told.getD 0 none))).length = k then (keepG k (setS (cs.headD cell0).2.2 (told.getD 0 none)))[0]? else none) = some y := e
    split at e
    · exact hm y (List.mem_of_getElem? e)
    · cases e
  | least k a =>
    have hm : ∀ y ∈ (setS (cs.headD cell0).2.2 (told.getD 0 none)).take k, gd2 y := fun y hy => hset.2.1 y (List.mem_of_mem_take hy)
    refine ⟨fun y e => ?_, srt_sub (List.take_sublist _ _) hset.1, hm, Nat.le_trans (by show ((setS (cs.headD cell0).2.2 (told.getD 0 none)).take k).length ≤ k; rw [List.length_take]; omega) hq.1.2, h5⟩
    have e : (if ((setS (cs.headD cell0).2.2 (told.getD 0 none)).take k).length = k then ((setS (cs.headD cell0).2.2 (told.getD 0 none)).take k)[k - 1]? else none) = some y := e
    split at e
    · exact hm y (List.mem_of_getElem? e)
    · cases e
  | times k a =>
    refine ⟨fun y e => ?_, h2, h3, h4, ?_⟩
    · exact some_if _ hx e
    · show (if (told.getD 0 none).isSome then min ((cs.headD cell0).2.1 + 1) k else (cs.headD cell0).2.1) ≤ k
      split
      · exact Nat.min_le_right _ _
      · exact h5
  | circle m k a =>
    refine ⟨fun y e => ?_, h2, h3, h4, ?_⟩
    · exact some_if _ hx e
    · show (if (told.getD 0 none).isSome then ((cs.headD cell0).2.1 + 1) % m else (cs.headD cell0).2.1) < m
      split
      · exact Nat.mod_lt _ (by have := hq.1.1; omega)
      · exact h5
  | now => exact ⟨fun y e => nowF_ok (q := .now) (nm := nm) ht hx e, h2, h3, h4, h5⟩
  | nothing => exact ⟨fun y e => nowF_ok (q := .nothing) (nm := nm) ht hx e, h2, h3, h4, h5⟩
  | is n => exact ⟨fun y e => nowF_ok (q := .is n) (nm := nm) ht hx e, h2, h3, h4, h5⟩
  | less a b => exact ⟨fun y e => nowF_ok (q := .less a b) (nm := nm) ht hx e, h2, h3, h4, h5⟩
  | same a b => exact ⟨fun y e => nowF_ok (q := .same a b) (nm := nm) ht hx e, h2, h3, h4, h5⟩
  | iff a b c => exact ⟨fun y e => nowF_ok (q := .iff a b c) (nm := nm) ht hx e, h2, h3, h4, h5⟩
end My

namespace My
open PySem PySem.Spec PyProof.Rows L2
theorem sl_1 {c : Cell} {A R : List Cell} {n : Nat} (h : A.length = n) : sl (c :: (A ++ R)) 1 n = A := by
  unfold sl
  rw [List.drop_succ_cons, List.drop_zero, List.take_left' h]
theorem sl_2 {c : Cell} {A B R : List Cell} {n m : Nat} (h : A.length = n) (h' : B.length = m) : sl (c :: (A ++ (B ++ R))) (1 + n) m = B := by
  unfold sl
  rw [Nat.add_comm, List.drop_succ_cons, List.drop_left' h, List.take_left' h']
theorem sl_3 {c : Cell} {A B C R : List Cell} {n m l : Nat} (h : A.length = n) (h' : B.length = m) (h'' : C.length = l) : sl (c :: (A ++ (B ++ (C ++ R)))) (1 + n + m) l = C := by
  unfold sl
  rw [show 1 + n + m = (n + m) + 1 by omega, List.drop_succ_cons, ← List.drop_drop, List.drop_left' h, List.drop_left' h', List.take_left' h'']
theorem fin1_ok {q : Qn} (hq : Qk q) {cs : List Cell} (h : CellsOk q cs) {a : Qn} {A : List Cell} (hA : CellsOk a A) {nm : Str} {x : Q2} (hx : gd2 x) : (finC q cs [A] nm x).length = qsz a + 1 ∧ CellOk q ((finC q cs [A] nm x).headD cell0) ∧ CellsOk a (sl (finC q cs [A] nm x) 1 (qsz a)) := by
  have hl := hA.len
  refine ⟨?_, ?_, ?_⟩
  · show (A ++ []).length + 1 = _
    rw [List.append_nil, hl]
  · refine own_ok hq h (fun z hz => ?_) hx
    simp only [List.map, List.mem_cons, List.not_mem_nil, or_false] at hz
    exact hdO_ok hA hz.symm
  · show CellsOk a (sl (_ :: (A ++ [])) 1 (qsz a))
    rw [sl_1 hl]
    exact hA
theorem fin2_ok {q : Qn} (hq : Qk q) {cs : List Cell} (h : CellsOk q cs) {a b : Qn} {A B : List Cell} (hA : CellsOk a A) (hB : CellsOk b B) {nm : Str} {x : Q2} (hx : gd2 x) : (finC q cs [A, B] nm x).length = qsz a + qsz b + 1 ∧ CellOk q ((finC q cs [A, B] nm x).headD cell0) ∧ CellsOk a (sl (finC q cs [A, B] nm x) 1 (qsz a)) ∧ CellsOk b (sl (finC q cs [A, B] nm x) (1 + qsz a) (qsz b)) := by
  have hl := hA.len
  have hl2 := hB.len
  refine ⟨?_, ?_, ?_, ?_⟩
  · show (A ++ (B ++ [])).length + 1 = _
    rw [List.append_nil, List.length_append, hl, hl2]
  · refine own_ok hq h (fun z hz => ?_) hx
    simp only [List.map, List.mem_cons, List.not_mem_nil, or_false] at hz
    rcases hz with hz | hz
    · exact hdO_ok hA hz.symm
    · exact hdO_ok hB hz.symm
  · show CellsOk a (sl (_ :: (A ++ (B ++ []))) 1 (qsz a))
    rw [sl_1 hl]
    exact hA
  · show CellsOk b (sl (_ :: (A ++ (B ++ []))) (1 + qsz a) (qsz b))
    rw [sl_2 hl hl2]
    exact hB
theorem fin3_ok {q : Qn} (hq : Qk q) {cs : List Cell} (h : CellsOk q cs) {a b c : Qn} {A B C : List Cell} (hA : CellsOk a A) (hB : CellsOk b B) (hC : CellsOk c C) {nm : Str} {x : Q2} (hx : gd2 x) : (finC q cs [A, B, C] nm x).length = qsz a + qsz b + qsz c + 1 ∧ CellOk q ((finC q cs [A, B, C] nm x).headD cell0) ∧ CellsOk a (sl (finC q cs [A, B, C] nm x) 1 (qsz a)) ∧ CellsOk b (sl (finC q cs [A, B, C] nm x) (1 + qsz a) (qsz b)) ∧ CellsOk c (sl (finC q cs [A, B, C] nm x) (1 + qsz a + qsz b) (qsz c)) := by
  have hl := hA.len
  have hl2 := hB.len
  have hl3 := hC.len
  refine ⟨?_, ?_, ?_, ?_, ?_⟩
  · show (A ++ (B ++ (C ++ []))).length + 1 = _
    rw [List.append_nil, List.length_append, List.length_append, hl, hl2, hl3]
    omega
  · refine own_ok hq h (fun z hz => ?_) hx
    simp only [List.map, List.mem_cons, List.not_mem_nil, or_false] at hz
    rcases hz with hz | hz | hz
    · exact hdO_ok hA hz.symm
    · exact hdO_ok hB hz.symm
    · exact hdO_ok hC hz.symm
  · show CellsOk a (sl (_ :: (A ++ (B ++ (C ++ [])))) 1 (qsz a))
    rw [sl_1 hl]
    exact hA
  · show CellsOk b (sl (_ :: (A ++ (B ++ (C ++ [])))) (1 + qsz a) (qsz b))
    rw [sl_2 hl hl2]
    exact hB
  · show CellsOk c (sl (_ :: (A ++ (B ++ (C ++ [])))) (1 + qsz a + qsz b) (qsz c))
    rw [sl_3 hl hl2 hl3]
    exact hC
theorem fin0_ok {q : Qn} (hq : Qk q) {cs : List Cell} (h : CellsOk q cs) {nm : Str} {x : Q2} (hx : gd2 x) : (finC q cs [] nm x).length = 1 ∧ CellOk q ((finC q cs [] nm x).headD cell0) := ⟨rfl, own_ok hq h (fun z hz => by cases hz) hx⟩
theorem hear_ok : ∀ {q : Qn}, Qk q → ∀ {cs : List Cell}, CellsOk q cs → ∀ {nm : Str} {x : Q2}, gd2 x → CellsOk q (hearC q cs nm x) := by
  intro q
  induction q with
  | now => intro hq cs h nm x hx; exact fin0_ok hq h hx
  | nothing => intro hq cs h nm x hx; exact fin0_ok hq h hx
  | is n => intro hq cs h nm x hx; exact fin0_ok hq h hx
  | less a b iha ihb => intro hq cs h nm x hx; exact fin2_ok hq h (iha hq.1 h.2.2.1 hx) (ihb hq.2 h.2.2.2 hx) hx
  | same a b iha ihb => intro hq cs h nm x hx; exact fin2_ok hq h (iha hq.1 h.2.2.1 hx) (ihb hq.2 h.2.2.2 hx) hx
  | iff a b c iha ihb ihc => intro hq cs h nm x hx; exact fin3_ok hq h (iha hq.1 h.2.2.1 hx) (ihb hq.2.1 h.2.2.2.1 hx) (ihc hq.2.2 h.2.2.2.2 hx) hx
  | last a ih => intro hq cs h nm x hx; exact fin1_ok hq h (ih hq h.2.2 hx) hx
  | first a ih => intro hq cs h nm x hx; exact fin1_ok hq h (ih hq h.2.2 hx) hx
  | before a ih => intro hq cs h nm x hx; exact fin1_ok hq h (ih hq h.2.2 hx) hx
  | great k a ih => intro hq cs h nm x hx; exact fin1_ok hq h (ih hq.2 h.2.2 hx) hx
  | least k a ih => intro hq cs h nm x hx; exact fin1_ok hq h (ih hq.2 h.2.2 hx) hx
  | times k a ih => intro hq cs h nm x hx; exact fin1_ok hq h (ih hq.2 h.2.2 hx) hx
  | circle m k a ih => intro hq cs h nm x hx; exact fin1_ok hq h (ih hq.2 h.2.2 hx) hx
  | since a b iha ihb =>
    intro hq cs h nm x hx
    refine fin2_ok hq h (iha hq.1 h.2.2.1 hx) ?_ hx
    split
    · exact rep_ok hq.2
    · exact ihb hq.2 h.2.2.2 hx
  | among a b iha ihb =>
    intro hq cs h nm x hx
    refine fin2_ok hq h (iha hq.1 h.2.2.1 hx) ?_ hx
    split
    · exact ihb hq.2 h.2.2.2 hx
    · exact h.2.2.2
/-! ### the parts' cells, in order -/
def belowC : List Qn → List Cell → Nat → List (List Cell)
  | [], _, _ => []
  | a :: r, cs, i => sl cs i (qsz a) :: belowC r cs (i + qsz a)
def heardC (q : Qn) (cs : List Cell) (nm : Str) (x : Q2) : List (List Cell) := match q with
  | .since a b => [hearC a (sl cs 1 (qsz a)) nm x, if (hdO (hearC a (sl cs 1 (qsz a)) nm x)).isSome then List.replicate (qsz b) cell0 else hearC b (sl cs (1 + qsz a) (qsz b)) nm x]
  | .among a b => [hearC a (sl cs 1 (qsz a)) nm x, if (hdO (hearC a (sl cs 1 (qsz a)) nm x)).isSome then hearC b (sl cs (1 + qsz a) (qsz b)) nm x else sl cs (1 + qsz a) (qsz b)]
  | q => ((kids q).zip (belowC (kids q) cs 1)).map fun p => hearC p.1 p.2 nm x
theorem hear_eq (q : Qn) (cs : List Cell) (nm : Str) (x : Q2) : hearC q cs nm x = finC q cs (heardC q cs nm x) nm x := by
  cases q <;> rfl
end My


namespace My
open PySem PySem.Spec PyProof.Rows L2
theorem DpAll.last {K : PySem.W.Frag} {H : Hp} : ∀ {xs : List V} {ds : List PyData}, DpAll K H xs ds → xs ≠ [] → ∃ xs' y ds' e, xs = xs' ++ [y] ∧ ds = ds' ++ [e] ∧ DpAll K H xs' ds' ∧ Dp K H y e
  | _, _, .nil, h => absurd rfl h
  | _, _, .cons (v := x) (d := d) h .nil, _ => ⟨[], x, [], d, rfl, rfl, .nil, h⟩
  | _, _, .cons (v := x) (d := d) h (.cons h2 t), _ => by
    obtain ⟨xs', y, ds', e, e1, e2, h3, h4⟩ := DpAll.last (.cons h2 t) (List.cons_ne_nil _ _)
    exact ⟨x :: xs', y, d :: ds', e, by rw [e1]; rfl, by rw [e2]; rfl, .cons h h3, h4⟩
theorem qsz_kids (q : Qn) : qsz q = 1 + ((kids q).map qsz).sum := by
  cases q <;> simp [qsz, kids] <;> omega
section
variable {P : Program} {w : World} {K : PySem.W.Frag} {mg : Str → Option Value} {base : Heap}
/-! ### cells on the heap -/
def Cv (K : PySem.W.Frag) (H : Hp) (v : V) (c : Cell) : Prop := ∃ (p hp : Addr) (u : V), v = .ref p ∧ SqT K H p [u, .int (c.2.1 : Int), .ref hp] ∧ Ov K H u c.1 ∧ Am K H hp c.2.2
theorem Cv.tx {H H' : Hp} {v : V} {c : Cell} (e : TX K H H') (h : Cv K H v c) : Cv K H' v c := by
  obtain ⟨p, hp, u, e1, h1, h2, h3⟩ := h
  exact ⟨p, hp, u, e1, e _ _ h1, Ov.tx e h2, Am.tx e h3⟩
theorem Cs.tx {H H' : Hp} {vs : List V} {cs : List Cell} (e : TX K H H') (h : Paired (Cv K H) vs cs) : Paired (Cv K H') vs cs := pmono (fun _ _ => Cv.tx e) h
def SqC (K : PySem.W.Frag) (H : Hp) (a : Addr) (cs : List Cell) : Prop := ∃ vs, SqL K H a vs ∧ Paired (Cv K H) vs cs
theorem SqC.same {H H' : Hp} {a : Addr} {cs : List Cell} (e : L2.Same H H') (h : SqC K H a cs) : SqC K H' a cs := by
  obtain ⟨ts, h1, h2⟩ := h
  exact ⟨ts, e.seq h1, Cs.tx (TX.same e) h2⟩
abbrev NewC (K : PySem.W.Frag) (H : Hp) (cs : List Cell) (Q : VK) : Prop := ∀ D vs' H', L2.Same H H' → H D = none → H' D = some (.lst vs') → Paired (Cv K H') vs' cs → Q (.ref D) H'
theorem NewC.mono {H H' : Hp} {cs : List Cell} {Q : VK} (s : L2.Same H H') (h : NewC K H cs Q) : NewC K H' cs Q := fun D vs' H2 s2 h0 h1 h2 => h D vs' H2 (s.trans s2) (none_of s h0) h1 h2
/-! ### parts -/
def sp_pq (K : PySem.W.Frag) : Sp := fun vs H Q _ => ∃ (p : Addr) (q : Qn), vs = [.ref p] ∧ Dp K H (.ref p) (qt q) ∧ Qk q ∧ qsz q ≤ 1000 ∧ ∀ H', L2.Same H H' → Q (.int (qsz q : Int)) H'
theorem ok_parts (T : Top K mg w) : FnOk P w K mg base CX0 2 T.a_parts T.d_parts ["tree"] (sp_pq K) := by
  refine T.F_parts.ok sc_parts (fun vs H Q E h => ?_) (fun cdv A outer s H vs Q E hr h => ?_)
  · obtain ⟨p, q, rfl, _⟩ := h
    rfl
  obtain ⟨p, q, rfl, hd, hk, hz, k⟩ := h
  refine ⟨_, (pss_cons (ps_set (i := 1) sc_parts.nd rfl (Or.inl rfl) pe_int)
      (pss_cons (ps_set (i := 2) sc_parts.nd rfl (Or.inl rfl) (pe_lst (pa_cons (pv 0) pa_nil)))
      (pss_cons (ps_while PassesOwn.never (pt_truth (pv 2) (by intro _; rfl))
        (pss_cons (ps_set (i := 3) sc_parts.nd rfl (Or.inl rfl) (pe_bm0 PySem.F.plainAttrs_list PySem.F.slot_list_pop PySem.F.type_list_pop mt_pop (pv 2)))
      (pss_cons (ps_aug (i := 1) sc_parts.nd rfl (Or.inl rfl) pe_int ip_add)
      (pss_one (ps_expr (pe_bm PySem.F.plainAttrs_list PySem.F.slot_list_extend PySem.F.type_list_extend mt_extend (pv 2) (pa_cons (pe_call ((ok_questions_in T).mono (by decide)) hr (by rfl) T.m_questions_in T.F_questions_in.kp T.b_questions_in .nil pass0 (pa_cons (pv 3) pa_nil)) pa_nil)))))))
      (pss_one (ps_ret (pv 1)))))), ?_⟩
  (repeat (first
      | refine ⟨_, rfl, ?_⟩
      | refine ⟨_, _, rfl, rfl, ?_⟩
      | refine Or.inl ⟨_, rfl, ?_⟩
      | refine Or.inr ⟨_, rfl, ?_⟩
      | refine ⟨Or.inl ⟨by decide, by decide⟩, ?_⟩
      | refine ⟨Or.inr ⟨by decide, by decide⟩, ?_⟩
      | refine ⟨⟨by decide, by decide⟩, ?_⟩
      | refine ⟨⟨by decide, by decide, by decide⟩, ?_⟩
      | refine ⟨by decide, ?_⟩
      | refine ⟨(by show (0 : Int) < _; decide), ?_⟩
      | refine ⟨rfl, ?_⟩
      | refine ⟨⟨_, rfl⟩, ?_⟩
      | refine ⟨_, rfl, rfl, trivial, ?_⟩
      | refine ⟨_, _, rfl, ?_⟩))
  refine ⟨by show 1 ≤ sizeLine; decide, fun wt hwt => ?_⟩
  have sm0 : L2.Same H (upd H wt (.lst [.ref p])) := same_upd hwt
  refine ⟨fun m σ H' => ∃ (xs : List V) (ws : List Qn) (c : Nat) (y3 : Option V), σ = [some (.ref p), some (.int (c : Int)), some (.ref wt), y3] ∧ H' wt = some (.lst xs) ∧ DpAll K H' xs (ws.map qt) ∧ (∀ a ∈ ws, Qk a) ∧ L2.Same H H' ∧ c + (ws.map qsz).sum = qsz q ∧ m = (ws.map qsz).sum, ⟨_, [.ref p], [q], 0, none, rfl, upd_same, .cons (Dp.same sm0 hd) .nil, fun a ha => by rw [List.mem_singleton.mp ha]; exact hk, sm0, by simp, rfl⟩, ?_⟩
  rintro m σ H' ⟨xs, ws, c, y3, rfl, hx, hdd, hqs, sm, hc, rfl⟩
  have lx := DpAll.len hdd
  rw [List.length_map] at lx
  have hlen : ∀ l : List Qn, l.length ≤ (l.map qsz).sum := by
    intro l
    induction l with
    | nil => exact Nat.le_refl _
    | cons a l ih =>
      have := qsz_pos a
      rw [List.map_cons, List.sum_cons, List.length_cons]
      omega
  refine ⟨_, rfl, !xs.isEmpty, .inl ⟨xs, SqL.of hx, rfl⟩, ?_⟩
  refine ite_b (fun cb => ?_) (fun cb => ?_)
  · have hxs : xs ≠ [] := fun e => by rw [e] at cb; cases cb
    obtain ⟨xs', y, ds', e, rfl, hws, hd', hy⟩ := DpAll.last hdd hxs
    obtain ⟨ws', a, rfl⟩ : ∃ ws' a, ws = ws' ++ [a] := by
      have hne : ws ≠ [] := fun z => by rw [z] at hws; simp at hws
      exact ⟨ws.dropLast, ws.getLast hne, (List.dropLast_concat_getLast hne).symm⟩
    rw [List.map_append] at hws
    obtain ⟨e1, e2⟩ := List.append_inj' hws rfl
    rw [← e1] at hd'
    have e3 : qt a = e := by simpa using e2
    rw [← e3] at hy
    have hka := hqs a (by simp)
    have hsum : ((ws' ++ [a]).map qsz).sum = (ws'.map qsz).sum + qsz a := by simp
    rw [hsum] at hc ⊢
    have hl1 := hlen ws'
    refine ⟨fun σ' H'' => ∃ m', m' < (ws'.map qsz).sum + qsz a ∧ ∃ (xs : List V) (ws : List Qn) (c : Nat) (y3 : Option V), σ' = [some (.ref p), some (.int (c : Int)), some (.ref wt), y3] ∧ H'' wt = some (.lst xs) ∧ DpAll K H'' xs (ws.map qt) ∧ (∀ a ∈ ws, Qk a) ∧ L2.Same H H'' ∧ c + (ws.map qsz).sum = qsz q ∧ m' = (ws.map qsz).sum, fun _ _ h => h, ?_⟩
    (repeat (first
      | refine ⟨_, rfl, ?_⟩
      | refine ⟨_, _, rfl, rfl, ?_⟩
      | refine Or.inl ⟨_, rfl, ?_⟩
      | refine Or.inr ⟨_, rfl, ?_⟩
      | refine ⟨Or.inl ⟨by decide, by decide⟩, ?_⟩
      | refine ⟨Or.inr ⟨by decide, by decide⟩, ?_⟩
      | refine ⟨⟨by decide, by decide⟩, ?_⟩
      | refine ⟨⟨by decide, by decide, by decide⟩, ?_⟩
      | refine ⟨by decide, ?_⟩
      | refine ⟨(by show (0 : Int) < _; decide), ?_⟩
      | refine ⟨rfl, ?_⟩
      | refine ⟨⟨_, rfl⟩, ?_⟩
      | refine ⟨_, rfl, rfl, trivial, ?_⟩
      | refine ⟨_, _, rfl, ?_⟩))
    refine ⟨.inl ⟨rfl, _, SqL.of hx⟩, ?_⟩
    refine ⟨wt, _, y, rfl, rfl, hx, by simp, ?_⟩
    rw [List.dropLast_concat]
    have tx1 : TX K H' (upd H' wt (.lst xs')) := TX.lst hx
    have hx1 : (upd H' wt (.lst xs')) wt = some (.lst xs') := upd_same
    have sm1 : L2.Same H (upd H' wt (.lst xs')) := same_upd2 hwt sm
    have trs : trL (ws'.map qt) = true := trL_iff.mpr fun d hd => by
      obtain ⟨b, hb, rfl⟩ := List.mem_map.mp hd
      exact qt_tr b (hqs b (by simp [hb]))
    have hy1 := Dp.tx tx1 hy (qt_tr a hka)
    have hd1 := DpAll.tx tx1 hd' trs
    have lxs := DpAll.len hd1
    rw [List.length_map] at lxs
    generalize upd H' wt (.lst xs') = H1 at hx1 sm1 hy1 hd1 ⊢
    obtain ⟨pa, rfl⟩ := dp_ref hy1 (qt_isT a)
    (repeat (first
      | refine ⟨_, rfl, ?_⟩
      | refine ⟨_, _, rfl, rfl, ?_⟩
      | refine Or.inl ⟨_, rfl, ?_⟩
      | refine Or.inr ⟨_, rfl, ?_⟩
      | refine ⟨Or.inl ⟨by decide, by decide⟩, ?_⟩
      | refine ⟨Or.inr ⟨by decide, by decide⟩, ?_⟩
      | refine ⟨⟨by decide, by decide⟩, ?_⟩
      | refine ⟨⟨by decide, by decide, by decide⟩, ?_⟩
      | refine ⟨by decide, ?_⟩
      | refine ⟨(by show (0 : Int) < _; decide), ?_⟩
      | refine ⟨rfl, ?_⟩
      | refine ⟨⟨_, rfl⟩, ?_⟩
      | refine ⟨_, rfl, rfl, trivial, ?_⟩
      | refine ⟨_, _, rfl, ?_⟩))
    refine ⟨.inl ⟨rfl, _, SqL.of hx1⟩, ?_⟩
    (repeat (first
      | refine ⟨_, rfl, ?_⟩
      | refine ⟨_, _, rfl, rfl, ?_⟩
      | refine Or.inl ⟨_, rfl, ?_⟩
      | refine Or.inr ⟨_, rfl, ?_⟩
      | refine ⟨Or.inl ⟨by decide, by decide⟩, ?_⟩
      | refine ⟨Or.inr ⟨by decide, by decide⟩, ?_⟩
      | refine ⟨⟨by decide, by decide⟩, ?_⟩
      | refine ⟨⟨by decide, by decide, by decide⟩, ?_⟩
      | refine ⟨by decide, ?_⟩
      | refine ⟨(by show (0 : Int) < _; decide), ?_⟩
      | refine ⟨rfl, ?_⟩
      | refine ⟨⟨_, rfl⟩, ?_⟩
      | refine ⟨_, rfl, rfl, trivial, ?_⟩
      | refine ⟨_, _, rfl, ?_⟩))
    refine ⟨pa, a, rfl, hy1, hka, fun D vs2 H4 s4 hD hds => ?_⟩
    have lsel := DpAll.len hds
    rw [List.length_map] at lsel
    have lk : (kids a).length ≤ 3 := by cases a <;> simp [kids]
    have hx3 : H4 wt = some (.lst xs') := s4 _ _ hx1
    have tx4 : TX K H1 (upd H4 wt (.lst (xs' ++ vs2))) := (TX.same s4).trans (TX.lst hx3)
    have tx5 : TX K H4 (upd H4 wt (.lst (xs' ++ vs2))) := TX.lst hx3
    have trk : trL ((kids a).map qt) = true := trL_iff.mpr fun d hd => by
      obtain ⟨b, hb, rfl⟩ := List.mem_map.mp hd
      exact qt_tr b (kids_ok hka hb)
    refine ⟨wt, D, xs', _, rfl, rfl, hx3, hD, small (by omega), ?_⟩
    have hsz := qsz_kids a
    have hs2 : ((ws' ++ kids a).map qsz).sum = (ws'.map qsz).sum + ((kids a).map qsz).sum := by simp
    refine ⟨((ws' ++ kids a).map qsz).sum, by rw [hs2]; omega, xs' ++ vs2, ws' ++ kids a, c + 1, _, rfl, upd_same, by rw [List.map_append]; exact DpAll.app (DpAll.tx tx4 hd1 trs) (DpAll.tx tx5 hds trk), fun b hb => ?_, same_upd2 hwt (sm1.trans s4), by rw [hs2]; omega, rfl⟩
    rcases List.mem_append.mp hb with h | h
    · exact hqs b (by simp [h])
    · exact kids_ok hka h
  · have hxs : xs = [] := by cases xs with
      | nil => rfl
      | cons _ _ => cases cb
    subst hxs
    have hws : ws = [] := List.length_eq_zero_iff.mp lx.symm
    subst hws
    have e0 : c = qsz q := by simpa using hc
    subst e0
    (repeat (first
      | refine ⟨_, rfl, ?_⟩
      | refine ⟨_, _, rfl, rfl, ?_⟩
      | refine Or.inl ⟨_, rfl, ?_⟩
      | refine Or.inr ⟨_, rfl, ?_⟩
      | refine ⟨Or.inl ⟨by decide, by decide⟩, ?_⟩
      | refine ⟨Or.inr ⟨by decide, by decide⟩, ?_⟩
      | refine ⟨⟨by decide, by decide⟩, ?_⟩
      | refine ⟨⟨by decide, by decide, by decide⟩, ?_⟩
      | refine ⟨by decide, ?_⟩
      | refine ⟨(by show (0 : Int) < _; decide), ?_⟩
      | refine ⟨rfl, ?_⟩
      | refine ⟨⟨_, rfl⟩, ?_⟩
      | refine ⟨_, rfl, rfl, trivial, ?_⟩
      | refine ⟨_, _, rfl, ?_⟩))
    exact k _ sm
/-! ### first_cells -/
def sp_fc (K : PySem.W.Frag) : Sp := fun vs H Q _ => ∃ (p : Addr) (q : Qn), vs = [.ref p] ∧ Dp K H (.ref p) (qt q) ∧ Qk q ∧ qsz q ≤ 1000 ∧ NewC K H (List.replicate (qsz q) cell0) Q
theorem prep {α β : Type} {R : α → β → Prop} {x : α} {y : β} (h : R x y) : ∀ n, Paired R (List.replicate n x) (List.replicate n y)
  | 0 => .nil
  | n + 1 => .cons h (prep h n)
theorem flat_rep {α : Type} (x : α) : ∀ n, (List.replicate n [x]).flatten = List.replicate n x
  | 0 => rfl
  | n + 1 => by
    rw [List.replicate_succ, List.flatten_cons, flat_rep x n]
    rfl
theorem ok_first_cells (T : Top K mg w) : FnOk P w K mg base CX0 3 T.a_first_cells T.d_first_cells ["tree"] (sp_fc K) := by
  refine T.F_first_cells.ok sc_first_cells (fun vs H Q E h => ?_) (fun cdv A outer s H vs Q E hr h => ?_)
  · obtain ⟨p, q, rfl, _⟩ := h
    rfl
  obtain ⟨p, q, rfl, hd, hk, hz, k⟩ := h
  refine ⟨_, (pss_one (ps_ret (pe_op op_rep (pe_lst (pa_cons (pe_tup (pa_cons pe_non (pa_cons pe_int (pa_cons (pe_tup pa_nil) pa_nil)))) pa_nil)) (pe_call ((ok_parts T).mono (by decide)) hr (by rfl) T.m_parts T.F_parts.kp T.b_parts .nil pass0 (pa_cons (pv 0) pa_nil))))), ?_⟩
  (repeat (first
      | refine ifF ?_
      | refine ifT ?_
      | refine ⟨_, rfl, ?_⟩
      | refine ⟨_, _, rfl, rfl, ?_⟩
      | refine Or.inl ⟨_, rfl, ?_⟩
      | refine Or.inr ⟨_, rfl, ?_⟩
      | refine ⟨Or.inl ⟨by decide, by decide⟩, ?_⟩
      | refine ⟨Or.inr ⟨by decide, by decide⟩, ?_⟩
      | refine ⟨⟨by decide, by decide⟩, ?_⟩
      | refine ⟨⟨by decide, by decide, by decide⟩, ?_⟩
      | refine ⟨by decide, ?_⟩
      | refine ⟨(by show (0 : Int) < _; decide), ?_⟩
      | refine ⟨rfl, ?_⟩
      | refine ⟨⟨_, rfl⟩, ?_⟩
      | refine ⟨_, rfl, rfl, trivial, ?_⟩
      | refine ⟨_, _, rfl, ?_⟩))
  refine fun t0 ht0 => ?_
  have s0 : L2.Same H (upd H t0 (.tup [])) := same_upd ht0
  have h0 : (upd H t0 (.tup [])) t0 = some (.tup []) := upd_same
  generalize upd H t0 (.tup []) = H0 at s0 h0 ⊢
  refine ⟨by show 3 ≤ sizeLine; decide, fun t1 ht1 => ?_⟩
  have s1 : L2.Same H0 (upd H0 t1 (.tup [.non, .int 0, .ref t0])) := same_upd ht1
  have h1 : (upd H0 t1 (.tup [.non, .int 0, .ref t0])) t1 = some (.tup [.non, .int 0, .ref t0]) := upd_same
  generalize upd H0 t1 (.tup [.non, .int 0, .ref t0]) = H1 at s1 h1 ⊢
  refine ⟨by show 1 ≤ sizeLine; decide, fun l hl => ?_⟩
  have s2 : L2.Same H1 (upd H1 l (.lst [.ref t1])) := same_upd hl
  have h2 : (upd H1 l (.lst [.ref t1])) l = some (.lst [.ref t1]) := upd_same
  generalize upd H1 l (.lst [.ref t1]) = H2 at s2 h2 ⊢
  have s02 := (s0.trans s1).trans s2
  (repeat (first
      | refine ifF ?_
      | refine ifT ?_
      | refine ⟨_, rfl, ?_⟩
      | refine ⟨_, _, rfl, rfl, ?_⟩
      | refine Or.inl ⟨_, rfl, ?_⟩
      | refine Or.inr ⟨_, rfl, ?_⟩
      | refine ⟨Or.inl ⟨by decide, by decide⟩, ?_⟩
      | refine ⟨Or.inr ⟨by decide, by decide⟩, ?_⟩
      | refine ⟨⟨by decide, by decide⟩, ?_⟩
      | refine ⟨⟨by decide, by decide, by decide⟩, ?_⟩
      | refine ⟨by decide, ?_⟩
      | refine ⟨(by show (0 : Int) < _; decide), ?_⟩
      | refine ⟨rfl, ?_⟩
      | refine ⟨⟨_, rfl⟩, ?_⟩
      | refine ⟨_, rfl, rfl, trivial, ?_⟩
      | refine ⟨_, _, rfl, ?_⟩))
  refine ⟨p, q, rfl, Dp.same s02 hd, hk, hz, fun H3 s3 => ?_⟩
  refine ⟨l, (qsz q : Int), [.ref t1], rfl, rfl, s3 _ _ h2, by omega, by omega, small (by show 1 * _ ≤ _; omega), fun N hN => ?_⟩
  have s03 := s02.trans s3
  have sN : ∀ o, L2.Same H3 (upd H3 N o) := fun o => same_upd hN
  refine k N _ _ (s03.trans (sN _)) (none_of s03 hN) upd_same ?_
  rw [flat_rep, show ((qsz q : Nat) : Int).toNat = qsz q from rfl]
  have c0 : Cv K H3 (.ref t1) cell0 := ⟨t1, t0, .non, rfl, SqT.of (s3 _ _ (s2 _ _ h1)), rfl, [], SqT.of (s3 _ _ (s2 _ _ (s1 _ _ h0))), .nil⟩
  exact prep (Cv.tx (TX.same (sN _)) c0) _
end
end My


namespace My
open PySem PySem.Spec PyProof.Rows L2
theorem cut_negK {xs : List V} {k : Nat} (h : 1 ≤ k) : cutV xs (some (-(k : Int))) none = xs.drop (xs.length - k) := by
  unfold cutV
  have e : HT.sIx xs.length 0 (some (-(k : Int))) = xs.length - k := by
    unfold HT.sIx
    dsimp only
    rw [if_pos (by omega)]
    omega
  rw [e, HT.sIx_none]
  exact List.take_of_length_le (by rw [List.length_drop]; omega)
theorem cut_toK {xs : List V} {k : Nat} : cutV xs none (some (k : Int)) = xs.take k := by
  unfold cutV
  rw [HT.sIx_none, HT.sIx_nat, List.drop_zero, Nat.sub_zero]
  by_cases h : k ≤ xs.length
  · rw [Nat.min_eq_left h]
  · rw [Nat.min_eq_right (by omega), List.take_length, List.take_of_length_le (by omega)]
def ownK (b : Bool) (k : Nat) (c : Cell) (o : O2) : Cell :=
  if b = true then (if (keepG k (setS c.2.2 o)).length = k then (keepG k (setS c.2.2 o))[0]? else none, c.2.1, keepG k (setS c.2.2 o))
  else (if ((setS c.2.2 o).take k).length = k then ((setS c.2.2 o).take k)[k - 1]? else none, c.2.1, (setS c.2.2 o).take k)
theorem Am.drop {K : PySem.W.Frag} {H : Hp} {t : Addr} {ps : List Addr} {xs : List Q2} {n : Nat} (h : SqT K H t ((ps.map V.ref).drop n)) (hp : Paired (Nm K H) ps xs) : Am K H t (xs.drop n) := ⟨ps.drop n, by rw [List.map_drop]; exact h, Paired.dropQ n hp⟩
theorem Am.take {K : PySem.W.Frag} {H : Hp} {t : Addr} {ps : List Addr} {xs : List Q2} {n : Nat} (h : SqT K H t ((ps.map V.ref).take n)) (hp : Paired (Nm K H) ps xs) : Am K H t (xs.take n) := ⟨ps.take n, by rw [List.map_take]; exact h, Paired.takeQ n hp⟩
section
variable {P : Program} {w : World} {K : PySem.W.Frag} {mg : Str → Option Value} {base : Heap}
/-! ### _cell_by_order -/
def sp_co (K : PySem.W.Frag) : Sp := fun vs H Q _ => ∃ (b : Bool) (k : Nat) (cp : Addr) (v : V) (c : Cell) (o : O2), vs = [.str (GW b), .int (k : Int), .ref cp, v] ∧ Cv K H (.ref cp) c ∧ Ov K H v o ∧ (1 ≤ k ∧ k ≤ 3) ∧ Srt c.2.2 ∧ (∀ y ∈ c.2.2, gd2 y) ∧ c.2.2.length ≤ 3 ∧ (∀ y, o = some y → gd2 y) ∧ ∀ p H', L2.Same H H' → Cv K H' (.ref p) (ownK b k c o) → Q (.ref p) H'
theorem ok_cell_by_order (T : Top K mg w) : FnOk P w K mg base CX0 4 T.a_cell_by_order T.d_cell_by_order ["word", "k", "cell", "told"] (sp_co K) := by
  refine T.F_cell_by_order.ok sc_cell_by_order (fun vs H Q E h => ?_) (fun cdv A outer s H vs Q E hr h => ?_)
  · obtain ⟨b, k, cp, v, c, o, rfl, _⟩ := h
    rfl
  obtain ⟨b, k, cp, v, c, o, rfl, hc, ho, hk, hs, hg, hl, hog, q⟩ := h
  obtain ⟨p', hp, u, e1, hcT, hcu, hcA⟩ := id hc
  cases e1
  refine ⟨_, (C8.pss_cut (ps_set (i := 4) sc_cell_by_order.nd rfl (Or.inl rfl) (pe_ifExp (pt_cmpR op_isN (pv 3) pe_non (nomark _)) (pe_ix ix_tup (pv 2) pe_int (fun _ _ => rfl)) (pe_call ((ok_put_in T).mono (by decide)) hr (by rfl) T.m_put_in T.F_put_in.kp T.b_put_in .nil pass0 (pa_cons (pv 3) (pa_cons (pe_ix ix_tup (pv 2) pe_int (fun _ _ => rfl)) pa_nil)))))
      (pss_cons (ps_if (pt_cmpR op_eq (pv 0) pe_str (nomark _))
        (C8.pss_cut (ps_set (i := 4) sc_cell_by_order.nd rfl (Or.inl rfl) (pe_slice sl_tupA (pv 4) (po_some (pe_un un_neg (pv 1))) po_none))
      (pss_one (ps_set (i := 5) sc_cell_by_order.nd rfl (Or.inl rfl) (pe_ifExp (pt_cmpR op_eq (pe_callB call_len_seq (by rfl) T.z_len (by decide +kernel) (pa_cons (pv 4) pa_nil)) (pv 1) (nomark _)) (pe_ix ix_tup (pv 4) pe_int (fun _ _ => rfl)) pe_non))))
        (C8.pss_cut (ps_set (i := 4) sc_cell_by_order.nd rfl (Or.inl rfl) (pe_slice sl_tupA (pv 4) po_none (po_some (pv 1))))
      (pss_one (ps_set (i := 5) sc_cell_by_order.nd rfl (Or.inl rfl) (pe_ifExp (pt_cmpR op_eq (pe_callB call_len_seq (by rfl) T.z_len (by decide +kernel) (pa_cons (pv 4) pa_nil)) (pv 1) (nomark _)) (pe_ix ix_tup (pv 4) (pe_un un_neg pe_int) (fun _ _ => rfl)) pe_non)))))
      (pss_one (ps_ret (pe_tup (pa_cons (pv 5) (pa_cons (pe_ix ix_tup (pv 2) pe_int (fun _ _ => rfl)) (pa_cons (pv 4) pa_nil)))))))), ?_⟩
  refine ⟨fun σ H' => ∃ (hd : Addr), σ = [some (.str (GW b)), some (.int (k : Int)), some (.ref cp), some v, some (.ref hd), none] ∧ L2.Same H H' ∧ Am K H' hd (setS c.2.2 o), ?_, ?_⟩
  · (repeat (first
      | refine ⟨_, rfl, ?_⟩
      | refine ⟨_, _, rfl, rfl, ?_⟩
      | refine Or.inl ⟨_, rfl, ?_⟩
      | refine Or.inr ⟨_, rfl, ?_⟩
      | refine ⟨Or.inl ⟨by decide, by decide⟩, ?_⟩
      | refine ⟨Or.inr ⟨by decide, by decide⟩, ?_⟩
      | refine ⟨⟨by decide, by decide⟩, ?_⟩
      | refine ⟨⟨by decide, by decide, by decide⟩, ?_⟩
      | refine ⟨by decide, ?_⟩
      | refine ⟨(by show (0 : Int) < _; decide), ?_⟩
      | refine ⟨rfl, ?_⟩
      | refine ⟨⟨_, rfl⟩, ?_⟩
      | refine ⟨_, rfl, rfl, trivial, ?_⟩
      | refine ⟨_, _, rfl, ?_⟩))
    cases o with
    | none =>
      have ev : v = .non := ho
      subst ev
      (repeat (first
      | refine ifF ?_
      | refine ifT ?_
      | refine ⟨_, rfl, ?_⟩
      | refine ⟨_, _, rfl, rfl, ?_⟩
      | refine Or.inl ⟨_, rfl, ?_⟩
      | refine Or.inr ⟨_, rfl, ?_⟩
      | refine ⟨Or.inl ⟨by decide, by decide⟩, ?_⟩
      | refine ⟨Or.inr ⟨by decide, by decide⟩, ?_⟩
      | refine ⟨⟨by decide, by decide⟩, ?_⟩
      | refine ⟨⟨by decide, by decide, by decide⟩, ?_⟩
      | refine ⟨by decide, ?_⟩
      | refine ⟨(by show (0 : Int) < _; decide), ?_⟩
      | refine ⟨rfl, ?_⟩
      | refine ⟨⟨_, rfl⟩, ?_⟩
      | refine ⟨_, rfl, rfl, trivial, ?_⟩
      | refine ⟨_, _, rfl, ?_⟩))
      refine ⟨cp, _, 2, _, rfl, rfl, hcT, atI_nat (j := 2) rfl, ?_⟩
      exact ⟨hp, rfl, .refl _, hcA⟩
    | some x =>
      obtain ⟨px, rfl, nx⟩ := ho
      have gx := hog x rfl
      (repeat (first
      | refine ifF ?_
      | refine ifT ?_
      | refine ⟨_, rfl, ?_⟩
      | refine ⟨_, _, rfl, rfl, ?_⟩
      | refine Or.inl ⟨_, rfl, ?_⟩
      | refine Or.inr ⟨_, rfl, ?_⟩
      | refine ⟨Or.inl ⟨by decide, by decide⟩, ?_⟩
      | refine ⟨Or.inr ⟨by decide, by decide⟩, ?_⟩
      | refine ⟨⟨by decide, by decide⟩, ?_⟩
      | refine ⟨⟨by decide, by decide, by decide⟩, ?_⟩
      | refine ⟨by decide, ?_⟩
      | refine ⟨(by show (0 : Int) < _; decide), ?_⟩
      | refine ⟨rfl, ?_⟩
      | refine ⟨⟨_, rfl⟩, ?_⟩
      | refine ⟨_, rfl, rfl, trivial, ?_⟩
      | refine ⟨_, _, rfl, ?_⟩))
      refine ⟨cp, _, 2, _, rfl, rfl, hcT, atI_nat (j := 2) rfl, ?_⟩
      (repeat (first
      | refine ifF ?_
      | refine ifT ?_
      | refine ⟨_, rfl, ?_⟩
      | refine ⟨_, _, rfl, rfl, ?_⟩
      | refine Or.inl ⟨_, rfl, ?_⟩
      | refine Or.inr ⟨_, rfl, ?_⟩
      | refine ⟨Or.inl ⟨by decide, by decide⟩, ?_⟩
      | refine ⟨Or.inr ⟨by decide, by decide⟩, ?_⟩
      | refine ⟨⟨by decide, by decide⟩, ?_⟩
      | refine ⟨⟨by decide, by decide, by decide⟩, ?_⟩
      | refine ⟨by decide, ?_⟩
      | refine ⟨(by show (0 : Int) < _; decide), ?_⟩
      | refine ⟨rfl, ?_⟩
      | refine ⟨⟨_, rfl⟩, ?_⟩
      | refine ⟨_, rfl, rfl, trivial, ?_⟩
      | refine ⟨_, _, rfl, ?_⟩))
      refine ⟨px, hp, x, c.2.2, rfl, hcA, nx, BdL_of hg, gd_bd gx, hs, gx.1, by omega, fun r H' s1 hr1 => ?_⟩
      exact ⟨r, rfl, s1, hr1⟩
  rintro σ H1 ⟨hd, rfl, s1, hA⟩
  have hset := setS_ok hs hg hog
  obtain ⟨ps, hT, hP⟩ := id hA
  have el := Paired.length hP
  have hcT1 := My.Same.sqT s1 hcT
  cases b with
  | true =>
    (repeat (first
      | refine ifF ?_
      | refine ifT ?_
      | refine ⟨_, rfl, ?_⟩
      | refine ⟨_, _, rfl, rfl, ?_⟩
      | refine Or.inl ⟨_, rfl, ?_⟩
      | refine Or.inr ⟨_, rfl, ?_⟩
      | refine ⟨Or.inl ⟨by decide, by decide⟩, ?_⟩
      | refine ⟨Or.inr ⟨by decide, by decide⟩, ?_⟩
      | refine ⟨⟨by decide, by decide⟩, ?_⟩
      | refine ⟨⟨by decide, by decide, by decide⟩, ?_⟩
      | refine ⟨by decide, ?_⟩
      | refine ⟨(by show (0 : Int) < _; decide), ?_⟩
      | refine ⟨rfl, ?_⟩
      | refine ⟨⟨_, rfl⟩, ?_⟩
      | refine ⟨_, rfl, rfl, trivial, ?_⟩
      | refine ⟨_, _, rfl, ?_⟩))
    refine ⟨fun σ H' => ∃ hd2 : Addr, σ = [some (.str (GW true)), some (.int (k : Int)), some (.ref cp), some v, some (.ref hd2), none] ∧ L2.Same H H' ∧ Am K H' hd2 (keepG k (setS c.2.2 o)), ?_, ?_⟩
    · (repeat (first
      | refine ifF ?_
      | refine ifT ?_
      | refine ⟨_, rfl, ?_⟩
      | refine ⟨_, _, rfl, rfl, ?_⟩
      | refine Or.inl ⟨_, rfl, ?_⟩
      | refine Or.inr ⟨_, rfl, ?_⟩
      | refine ⟨Or.inl ⟨by decide, by decide⟩, ?_⟩
      | refine ⟨Or.inr ⟨by decide, by decide⟩, ?_⟩
      | refine ⟨⟨by decide, by decide⟩, ?_⟩
      | refine ⟨⟨by decide, by decide, by decide⟩, ?_⟩
      | refine ⟨by decide, ?_⟩
      | refine ⟨(by show (0 : Int) < _; decide), ?_⟩
      | refine ⟨rfl, ?_⟩
      | refine ⟨⟨_, rfl⟩, ?_⟩
      | refine ⟨_, rfl, rfl, trivial, ?_⟩
      | refine ⟨_, _, rfl, ?_⟩))
      dsimp only [tNoPart]
      refine slA_any hT fun p2 H2 s2 h2 => ?_
      rw [cut_negK hk.1, List.length_map, el] at h2
      exact ⟨p2, rfl, s1.trans s2, Am.drop h2 (Paired.mono (fun _ _ r => Nm.same s2 r) hP)⟩
    · rintro σ H2 ⟨hd2, rfl, s2, hA2⟩
      obtain ⟨ps2, hT2, hP2⟩ := id hA2
      have el2 := Paired.length hP2
      have hcT2 := My.Same.sqT s2 hcT
      have fin : ∀ v5 : V, Ov K H2 v5 (ownK true k c o).1 → ∀ p, H2 p = none → Q (.ref p) (upd H2 p (.tup [v5, .int (c.2.1 : Int), .ref hd2])) := fun v5 h5 p hp =>
        q p _ (s2.trans (same_upd hp)) ⟨p, hd2, v5, rfl, SqT.of upd_same, Ov.tx (TX.new hp) h5, Am.same (same_upd hp) hA2⟩
      (repeat (first
      | refine ifF ?_
      | refine ifT ?_
      | refine ⟨_, rfl, ?_⟩
      | refine ⟨_, _, rfl, rfl, ?_⟩
      | refine Or.inl ⟨_, rfl, ?_⟩
      | refine Or.inr ⟨_, rfl, ?_⟩
      | refine ⟨Or.inl ⟨by decide, by decide⟩, ?_⟩
      | refine ⟨Or.inr ⟨by decide, by decide⟩, ?_⟩
      | refine ⟨⟨by decide, by decide⟩, ?_⟩
      | refine ⟨⟨by decide, by decide, by decide⟩, ?_⟩
      | refine ⟨by decide, ?_⟩
      | refine ⟨(by show (0 : Int) < _; decide), ?_⟩
      | refine ⟨rfl, ?_⟩
      | refine ⟨⟨_, rfl⟩, ?_⟩
      | refine ⟨_, rfl, rfl, trivial, ?_⟩
      | refine ⟨_, _, rfl, ?_⟩))
      refine ⟨hd2, _, rfl, .inr hT2, ?_⟩
      (repeat (first
      | refine ifF ?_
      | refine ifT ?_
      | refine ⟨_, rfl, ?_⟩
      | refine ⟨_, _, rfl, rfl, ?_⟩
      | refine Or.inl ⟨_, rfl, ?_⟩
      | refine Or.inr ⟨_, rfl, ?_⟩
      | refine ⟨Or.inl ⟨by decide, by decide⟩, ?_⟩
      | refine ⟨Or.inr ⟨by decide, by decide⟩, ?_⟩
      | refine ⟨⟨by decide, by decide⟩, ?_⟩
      | refine ⟨⟨by decide, by decide, by decide⟩, ?_⟩
      | refine ⟨by decide, ?_⟩
      | refine ⟨(by show (0 : Int) < _; decide), ?_⟩
      | refine ⟨rfl, ?_⟩
      | refine ⟨⟨_, rfl⟩, ?_⟩
      | refine ⟨_, rfl, rfl, trivial, ?_⟩
      | refine ⟨_, _, rfl, ?_⟩))
      rw [List.length_map, el2]
      refine ite_dec (fun c1 => ?_) (fun c1 => ?_)
      · have hkl : (keepG k (setS c.2.2 o)).length = k := by have := V.int.inj c1; omega
        have hi : 0 < (keepG k (setS c.2.2 o)).length := by omega
        obtain ⟨p1, hp1, np1⟩ := Paired.at' hP2 (List.getElem?_eq_getElem hi)
        (repeat (first
      | refine ifF ?_
      | refine ifT ?_
      | refine ⟨_, rfl, ?_⟩
      | refine ⟨_, _, rfl, rfl, ?_⟩
      | refine Or.inl ⟨_, rfl, ?_⟩
      | refine Or.inr ⟨_, rfl, ?_⟩
      | refine ⟨Or.inl ⟨by decide, by decide⟩, ?_⟩
      | refine ⟨Or.inr ⟨by decide, by decide⟩, ?_⟩
      | refine ⟨⟨by decide, by decide⟩, ?_⟩
      | refine ⟨⟨by decide, by decide, by decide⟩, ?_⟩
      | refine ⟨by decide, ?_⟩
      | refine ⟨(by show (0 : Int) < _; decide), ?_⟩
      | refine ⟨rfl, ?_⟩
      | refine ⟨⟨_, rfl⟩, ?_⟩
      | refine ⟨_, rfl, rfl, trivial, ?_⟩
      | refine ⟨_, _, rfl, ?_⟩))
        refine ⟨hd2, _, 0, .ref p1, rfl, rfl, hT2, atI_nat (j := 0) (by rw [List.getElem?_map, hp1]; rfl), ?_⟩
        (repeat (first
      | refine ifF ?_
      | refine ifT ?_
      | refine ⟨_, rfl, ?_⟩
      | refine ⟨_, _, rfl, rfl, ?_⟩
      | refine Or.inl ⟨_, rfl, ?_⟩
      | refine Or.inr ⟨_, rfl, ?_⟩
      | refine ⟨Or.inl ⟨by decide, by decide⟩, ?_⟩
      | refine ⟨Or.inr ⟨by decide, by decide⟩, ?_⟩
      | refine ⟨⟨by decide, by decide⟩, ?_⟩
      | refine ⟨⟨by decide, by decide, by decide⟩, ?_⟩
      | refine ⟨by decide, ?_⟩
      | refine ⟨(by show (0 : Int) < _; decide), ?_⟩
      | refine ⟨rfl, ?_⟩
      | refine ⟨⟨_, rfl⟩, ?_⟩
      | refine ⟨_, rfl, rfl, trivial, ?_⟩
      | refine ⟨_, _, rfl, ?_⟩))
        refine ⟨cp, _, 1, _, rfl, rfl, hcT2, atI_nat (j := 1) rfl, ?_⟩
        (repeat (first
      | refine ifF ?_
      | refine ifT ?_
      | refine ⟨_, rfl, ?_⟩
      | refine ⟨_, _, rfl, rfl, ?_⟩
      | refine Or.inl ⟨_, rfl, ?_⟩
      | refine Or.inr ⟨_, rfl, ?_⟩
      | refine ⟨Or.inl ⟨by decide, by decide⟩, ?_⟩
      | refine ⟨Or.inr ⟨by decide, by decide⟩, ?_⟩
      | refine ⟨⟨by decide, by decide⟩, ?_⟩
      | refine ⟨⟨by decide, by decide, by decide⟩, ?_⟩
      | refine ⟨by decide, ?_⟩
      | refine ⟨(by show (0 : Int) < _; decide), ?_⟩
      | refine ⟨rfl, ?_⟩
      | refine ⟨⟨_, rfl⟩, ?_⟩
      | refine ⟨_, rfl, rfl, trivial, ?_⟩
      | refine ⟨_, _, rfl, ?_⟩))
        refine ⟨by show 3 ≤ sizeLine; decide, fin _ ?_⟩
        show Ov K H2 _ (if (keepG k (setS c.2.2 o)).length = k then (keepG k (setS c.2.2 o))[0]? else none)
        rw [if_pos hkl, List.getElem?_eq_getElem hi]
        exact Ov.of np1
      · (repeat (first
      | refine ifF ?_
      | refine ifT ?_
      | refine ⟨_, rfl, ?_⟩
      | refine ⟨_, _, rfl, rfl, ?_⟩
      | refine Or.inl ⟨_, rfl, ?_⟩
      | refine Or.inr ⟨_, rfl, ?_⟩
      | refine ⟨Or.inl ⟨by decide, by decide⟩, ?_⟩
      | refine ⟨Or.inr ⟨by decide, by decide⟩, ?_⟩
      | refine ⟨⟨by decide, by decide⟩, ?_⟩
      | refine ⟨⟨by decide, by decide, by decide⟩, ?_⟩
      | refine ⟨by decide, ?_⟩
      | refine ⟨(by show (0 : Int) < _; decide), ?_⟩
      | refine ⟨rfl, ?_⟩
      | refine ⟨⟨_, rfl⟩, ?_⟩
      | refine ⟨_, rfl, rfl, trivial, ?_⟩
      | refine ⟨_, _, rfl, ?_⟩))
        refine ⟨cp, _, 1, _, rfl, rfl, hcT2, atI_nat (j := 1) rfl, ?_⟩
        (repeat (first
      | refine ifF ?_
      | refine ifT ?_
      | refine ⟨_, rfl, ?_⟩
      | refine ⟨_, _, rfl, rfl, ?_⟩
      | refine Or.inl ⟨_, rfl, ?_⟩
      | refine Or.inr ⟨_, rfl, ?_⟩
      | refine ⟨Or.inl ⟨by decide, by decide⟩, ?_⟩
      | refine ⟨Or.inr ⟨by decide, by decide⟩, ?_⟩
      | refine ⟨⟨by decide, by decide⟩, ?_⟩
      | refine ⟨⟨by decide, by decide, by decide⟩, ?_⟩
      | refine ⟨by decide, ?_⟩
      | refine ⟨(by show (0 : Int) < _; decide), ?_⟩
      | refine ⟨rfl, ?_⟩
      | refine ⟨⟨_, rfl⟩, ?_⟩
      | refine ⟨_, rfl, rfl, trivial, ?_⟩
      | refine ⟨_, _, rfl, ?_⟩))
        refine ⟨by show 3 ≤ sizeLine; decide, fin _ ?_⟩
        show Ov K H2 _ (if (keepG k (setS c.2.2 o)).length = k then _ else none)
        rw [if_neg (fun z => c1 (by rw [z]))]
        rfl
  | false =>
    (repeat (first
      | refine ifF ?_
      | refine ifT ?_
      | refine ⟨_, rfl, ?_⟩
      | refine ⟨_, _, rfl, rfl, ?_⟩
      | refine Or.inl ⟨_, rfl, ?_⟩
      | refine Or.inr ⟨_, rfl, ?_⟩
      | refine ⟨Or.inl ⟨by decide, by decide⟩, ?_⟩
      | refine ⟨Or.inr ⟨by decide, by decide⟩, ?_⟩
      | refine ⟨⟨by decide, by decide⟩, ?_⟩
      | refine ⟨⟨by decide, by decide, by decide⟩, ?_⟩
      | refine ⟨by decide, ?_⟩
      | refine ⟨(by show (0 : Int) < _; decide), ?_⟩
      | refine ⟨rfl, ?_⟩
      | refine ⟨⟨_, rfl⟩, ?_⟩
      | refine ⟨_, rfl, rfl, trivial, ?_⟩
      | refine ⟨_, _, rfl, ?_⟩))
    refine ⟨fun σ H' => ∃ hd2 : Addr, σ = [some (.str (GW false)), some (.int (k : Int)), some (.ref cp), some v, some (.ref hd2), none] ∧ L2.Same H H' ∧ Am K H' hd2 ((setS c.2.2 o).take k), ?_, ?_⟩
    · (repeat (first
      | refine ifF ?_
      | refine ifT ?_
      | refine ⟨_, rfl, ?_⟩
      | refine ⟨_, _, rfl, rfl, ?_⟩
      | refine Or.inl ⟨_, rfl, ?_⟩
      | refine Or.inr ⟨_, rfl, ?_⟩
      | refine ⟨Or.inl ⟨by decide, by decide⟩, ?_⟩
      | refine ⟨Or.inr ⟨by decide, by decide⟩, ?_⟩
      | refine ⟨⟨by decide, by decide⟩, ?_⟩
      | refine ⟨⟨by decide, by decide, by decide⟩, ?_⟩
      | refine ⟨by decide, ?_⟩
      | refine ⟨(by show (0 : Int) < _; decide), ?_⟩
      | refine ⟨rfl, ?_⟩
      | refine ⟨⟨_, rfl⟩, ?_⟩
      | refine ⟨_, rfl, rfl, trivial, ?_⟩
      | refine ⟨_, _, rfl, ?_⟩))
      refine slA_any hT fun p2 H2 s2 h2 => ?_
      rw [cut_toK] at h2
      exact ⟨p2, rfl, s1.trans s2, Am.take h2 (Paired.mono (fun _ _ r => Nm.same s2 r) hP)⟩
    · rintro σ H2 ⟨hd2, rfl, s2, hA2⟩
      obtain ⟨ps2, hT2, hP2⟩ := id hA2
      have el2 := Paired.length hP2
      have hcT2 := My.Same.sqT s2 hcT
      have fin : ∀ v5 : V, Ov K H2 v5 (ownK false k c o).1 → ∀ p, H2 p = none → Q (.ref p) (upd H2 p (.tup [v5, .int (c.2.1 : Int), .ref hd2])) := fun v5 h5 p hp =>
        q p _ (s2.trans (same_upd hp)) ⟨p, hd2, v5, rfl, SqT.of upd_same, Ov.tx (TX.new hp) h5, Am.same (same_upd hp) hA2⟩
      (repeat (first
      | refine ifF ?_
      | refine ifT ?_
      | refine ⟨_, rfl, ?_⟩
      | refine ⟨_, _, rfl, rfl, ?_⟩
      | refine Or.inl ⟨_, rfl, ?_⟩
      | refine Or.inr ⟨_, rfl, ?_⟩
      | refine ⟨Or.inl ⟨by decide, by decide⟩, ?_⟩
      | refine ⟨Or.inr ⟨by decide, by decide⟩, ?_⟩
      | refine ⟨⟨by decide, by decide⟩, ?_⟩
      | refine ⟨⟨by decide, by decide, by decide⟩, ?_⟩
      | refine ⟨by decide, ?_⟩
      | refine ⟨(by show (0 : Int) < _; decide), ?_⟩
      | refine ⟨rfl, ?_⟩
      | refine ⟨⟨_, rfl⟩, ?_⟩
      | refine ⟨_, rfl, rfl, trivial, ?_⟩
      | refine ⟨_, _, rfl, ?_⟩))
      refine ⟨hd2, _, rfl, .inr hT2, ?_⟩
      (repeat (first
      | refine ifF ?_
      | refine ifT ?_
      | refine ⟨_, rfl, ?_⟩
      | refine ⟨_, _, rfl, rfl, ?_⟩
      | refine Or.inl ⟨_, rfl, ?_⟩
      | refine Or.inr ⟨_, rfl, ?_⟩
      | refine ⟨Or.inl ⟨by decide, by decide⟩, ?_⟩
      | refine ⟨Or.inr ⟨by decide, by decide⟩, ?_⟩
      | refine ⟨⟨by decide, by decide⟩, ?_⟩
      | refine ⟨⟨by decide, by decide, by decide⟩, ?_⟩
      | refine ⟨by decide, ?_⟩
      | refine ⟨(by show (0 : Int) < _; decide), ?_⟩
      | refine ⟨rfl, ?_⟩
      | refine ⟨⟨_, rfl⟩, ?_⟩
      | refine ⟨_, rfl, rfl, trivial, ?_⟩
      | refine ⟨_, _, rfl, ?_⟩))
      rw [List.length_map, el2]
      refine ite_dec (fun c1 => ?_) (fun c1 => ?_)
      · have hkl : ((setS c.2.2 o).take k).length = k := by have := V.int.inj c1; omega
        have hi : k - 1 < ((setS c.2.2 o).take k).length := by omega
        obtain ⟨p1, hp1, np1⟩ := Paired.at' hP2 (List.getElem?_eq_getElem hi)
        (repeat (first
      | refine ifF ?_
      | refine ifT ?_
      | refine ⟨_, rfl, ?_⟩
      | refine ⟨_, _, rfl, rfl, ?_⟩
      | refine Or.inl ⟨_, rfl, ?_⟩
      | refine Or.inr ⟨_, rfl, ?_⟩
      | refine ⟨Or.inl ⟨by decide, by decide⟩, ?_⟩
      | refine ⟨Or.inr ⟨by decide, by decide⟩, ?_⟩
      | refine ⟨⟨by decide, by decide⟩, ?_⟩
      | refine ⟨⟨by decide, by decide, by decide⟩, ?_⟩
      | refine ⟨by decide, ?_⟩
      | refine ⟨(by show (0 : Int) < _; decide), ?_⟩
      | refine ⟨rfl, ?_⟩
      | refine ⟨⟨_, rfl⟩, ?_⟩
      | refine ⟨_, rfl, rfl, trivial, ?_⟩
      | refine ⟨_, _, rfl, ?_⟩))
        refine ⟨hd2, _, -1, .ref p1, rfl, rfl, hT2, atI_neg (k := 1) (Nat.le_refl _) (by rw [List.length_map]; omega) (by rw [List.length_map, el2, hkl, List.getElem?_map, hp1]; rfl), ?_⟩
        (repeat (first
      | refine ifF ?_
      | refine ifT ?_
      | refine ⟨_, rfl, ?_⟩
      | refine ⟨_, _, rfl, rfl, ?_⟩
      | refine Or.inl ⟨_, rfl, ?_⟩
      | refine Or.inr ⟨_, rfl, ?_⟩
      | refine ⟨Or.inl ⟨by decide, by decide⟩, ?_⟩
      | refine ⟨Or.inr ⟨by decide, by decide⟩, ?_⟩
      | refine ⟨⟨by decide, by decide⟩, ?_⟩
      | refine ⟨⟨by decide, by decide, by decide⟩, ?_⟩
      | refine ⟨by decide, ?_⟩
      | refine ⟨(by show (0 : Int) < _; decide), ?_⟩
      | refine ⟨rfl, ?_⟩
      | refine ⟨⟨_, rfl⟩, ?_⟩
      | refine ⟨_, rfl, rfl, trivial, ?_⟩
      | refine ⟨_, _, rfl, ?_⟩))
        refine ⟨cp, _, 1, _, rfl, rfl, hcT2, atI_nat (j := 1) rfl, ?_⟩
        (repeat (first
      | refine ifF ?_
      | refine ifT ?_
      | refine ⟨_, rfl, ?_⟩
      | refine ⟨_, _, rfl, rfl, ?_⟩
      | refine Or.inl ⟨_, rfl, ?_⟩
      | refine Or.inr ⟨_, rfl, ?_⟩
      | refine ⟨Or.inl ⟨by decide, by decide⟩, ?_⟩
      | refine ⟨Or.inr ⟨by decide, by decide⟩, ?_⟩
      | refine ⟨⟨by decide, by decide⟩, ?_⟩
      | refine ⟨⟨by decide, by decide, by decide⟩, ?_⟩
      | refine ⟨by decide, ?_⟩
      | refine ⟨(by show (0 : Int) < _; decide), ?_⟩
      | refine ⟨rfl, ?_⟩
      | refine ⟨⟨_, rfl⟩, ?_⟩
      | refine ⟨_, rfl, rfl, trivial, ?_⟩
      | refine ⟨_, _, rfl, ?_⟩))
        refine ⟨by show 3 ≤ sizeLine; decide, fin _ ?_⟩
        show Ov K H2 _ (if ((setS c.2.2 o).take k).length = k then ((setS c.2.2 o).take k)[k - 1]? else none)
        rw [if_pos hkl, List.getElem?_eq_getElem hi]
        exact Ov.of np1
      · (repeat (first
      | refine ifF ?_
      | refine ifT ?_
      | refine ⟨_, rfl, ?_⟩
      | refine ⟨_, _, rfl, rfl, ?_⟩
      | refine Or.inl ⟨_, rfl, ?_⟩
      | refine Or.inr ⟨_, rfl, ?_⟩
      | refine ⟨Or.inl ⟨by decide, by decide⟩, ?_⟩
      | refine ⟨Or.inr ⟨by decide, by decide⟩, ?_⟩
      | refine ⟨⟨by decide, by decide⟩, ?_⟩
      | refine ⟨⟨by decide, by decide, by decide⟩, ?_⟩
      | refine ⟨by decide, ?_⟩
      | refine ⟨(by show (0 : Int) < _; decide), ?_⟩
      | refine ⟨rfl, ?_⟩
      | refine ⟨⟨_, rfl⟩, ?_⟩
      | refine ⟨_, rfl, rfl, trivial, ?_⟩
      | refine ⟨_, _, rfl, ?_⟩))
        refine ⟨cp, _, 1, _, rfl, rfl, hcT2, atI_nat (j := 1) rfl, ?_⟩
        (repeat (first
      | refine ifF ?_
      | refine ifT ?_
      | refine ⟨_, rfl, ?_⟩
      | refine ⟨_, _, rfl, rfl, ?_⟩
      | refine Or.inl ⟨_, rfl, ?_⟩
      | refine Or.inr ⟨_, rfl, ?_⟩
      | refine ⟨Or.inl ⟨by decide, by decide⟩, ?_⟩
      | refine ⟨Or.inr ⟨by decide, by decide⟩, ?_⟩
      | refine ⟨⟨by decide, by decide⟩, ?_⟩
      | refine ⟨⟨by decide, by decide, by decide⟩, ?_⟩
      | refine ⟨by decide, ?_⟩
      | refine ⟨(by show (0 : Int) < _; decide), ?_⟩
      | refine ⟨rfl, ?_⟩
      | refine ⟨⟨_, rfl⟩, ?_⟩
      | refine ⟨_, rfl, rfl, trivial, ?_⟩
      | refine ⟨_, _, rfl, ?_⟩))
        refine ⟨by show 3 ≤ sizeLine; decide, fin _ ?_⟩
        show Ov K H2 _ (if ((setS c.2.2 o).take k).length = k then _ else none)
        rw [if_neg (fun z => c1 (by rw [z]))]
        rfl
end
end My


namespace My
open PySem PySem.Spec PyProof.Rows L2
def ctK : Qn → Nat
  | .times k _ => k
  | .circle _ k _ => k
  | _ => 0
def ctN (q : Qn) (n : Nat) (o : O2) : Nat := match q with
  | .times k _ => if o.isSome then min (n + 1) k else n
  | .circle m _ _ => if o.isSome then (n + 1) % m else n
  | _ => n
def ownN (q : Qn) (c : Cell) (o : O2) (x : Q2) : Cell := (if ctN q c.2.1 o = ctK q then some x else none, ctN q c.2.1 o, c.2.2)
section
variable {P : Program} {w : World} {K : PySem.W.Frag} {mg : Str → Option Value} {base : Heap}
/-! ### _cell_by_count -/
def sp_cc (K : PySem.W.Frag) : Sp := fun vs H Q _ => ∃ (p cp np : Addr) (v : V) (q : Qn) (c : Cell) (o : O2) (x : Q2), vs = [.ref p, .ref cp, v, .ref np] ∧ Dp K H (.ref p) (qt q) ∧ Qk q ∧ isCt q = true ∧ Cv K H (.ref cp) c ∧ c.2.1 ≤ 10 ∧ Ov K H v o ∧ Nm K H np x ∧ ∀ r H', L2.Same H H' → Cv K H' (.ref r) (ownN q c o x) → Q (.ref r) H'
theorem ok_cell_by_count (T : Top K mg w) : FnOk P w K mg base CX0 1 T.a_cell_by_count T.d_cell_by_count ["tree", "cell", "told", "number"] (sp_cc K) := by
  refine T.F_cell_by_count.ok sc_cell_by_count (fun vs H Q E h => ?_) (fun cdv A outer s H vs Q E hr h => ?_)
  · obtain ⟨p, cp, np, v, q, c, o, x, rfl, _⟩ := h
    rfl
  obtain ⟨p, cp, np, v, q, c, o, x, rfl, hd, hk, hct, hc, hcn, ho, hx, k⟩ := h
  obtain ⟨p', hp, u, e1, hcT, hcu, hcA⟩ := id hc
  cases e1
  rw [qt_eq] at hd
  cases hd with
  | @tup _ txs _ hT hA =>
  have hx0 : txs[0]? = some (.str (word q)) := by
    cases hA with
    | cons h0 _ => cases h0; rfl
  have hm2 : atI txs (-2) = some (.int (ctK q : Int)) ∧ ∀ m kk a, q = .circle m kk a → txs[1]? = some (.int (m : Int)) := by
    cases q <;> first | (cases hct; done) | skip
    · cases hA with | cons h0 hA => cases hA with | cons h1 hA => cases hA with | cons h2 hA =>
        cases hA
        cases h1
        exact ⟨atI_neg (k := 2) (by decide) (by show 2 ≤ 3; decide) rfl, fun m kk a e => by cases e⟩
    · cases hA with | cons h0 hA => cases hA with | cons h1 hA => cases hA with | cons h2 hA => cases hA with | cons h3 hA =>
        cases hA
        cases h1
        cases h2
        exact ⟨atI_neg (k := 2) (by decide) (by show 2 ≤ 4; decide) rfl, fun m kk a e => by cases e; rfl⟩
  refine ⟨_, (pss_cons (ps_set (i := 4) sc_cell_by_count.nd rfl (Or.inl rfl) (pe_ix ix_tup (pv 1) pe_int (fun _ _ => rfl)))
      (pss_cons (ps_set (i := 5) sc_cell_by_count.nd rfl (Or.inl rfl) (pe_ix ix_tup (pv 0) (pe_un un_neg pe_int) (fun _ _ => rfl)))
      (C8.pss_cut (ps_if (pt_cmpR op_notN (pv 2) pe_non (nomark _))
        (pss_one (ps_set (i := 4) sc_cell_by_count.nd rfl (Or.inl rfl) (pe_ifExp (pt_cmpR op_eq (pe_ix ix_tup (pv 0) pe_int (fun _ _ => rfl)) pe_str (nomark _)) (pe_callB (call_min2 rfl) (by rfl) T.z_min (by decide +kernel) (pa_cons (pe_op op_add (pv 4) pe_int) (pa_cons (pv 5) pa_nil))) (pe_op op_mod (pe_op op_add (pv 4) pe_int) (pe_ix ix_tup (pv 0) pe_int (fun _ _ => rfl))))))
        pss_nil)
      (pss_one (ps_ret (pe_tup (pa_cons (pe_ifExp (pt_cmpR op_eq (pv 4) (pv 5) (nomark _)) (pv 3) pe_non) (pa_cons (pv 4) (pa_cons (pe_ix ix_tup (pv 1) pe_int (fun _ _ => rfl)) pa_nil))))))))), ?_⟩
  (repeat (first
      | refine ifF ?_
      | refine ifT ?_
      | refine ⟨_, rfl, ?_⟩
      | refine ⟨_, _, rfl, rfl, ?_⟩
      | refine Or.inl ⟨_, rfl, ?_⟩
      | refine Or.inr ⟨_, rfl, ?_⟩
      | refine ⟨Or.inl ⟨by decide, by decide⟩, ?_⟩
      | refine ⟨Or.inr ⟨by decide, by decide⟩, ?_⟩
      | refine ⟨⟨by decide, by decide⟩, ?_⟩
      | refine ⟨⟨by decide, by decide, by decide⟩, ?_⟩
      | refine ⟨by decide, ?_⟩
      | refine ⟨(by show (0 : Int) < _; decide), ?_⟩
      | refine ⟨rfl, ?_⟩
      | refine ⟨⟨_, rfl⟩, ?_⟩
      | refine ⟨_, rfl, rfl, trivial, ?_⟩
      | refine ⟨_, _, rfl, ?_⟩))
  refine ⟨cp, _, 1, _, rfl, rfl, hcT, atI_nat (j := 1) rfl, ?_⟩
  (repeat (first
      | refine ifF ?_
      | refine ifT ?_
      | refine ⟨_, rfl, ?_⟩
      | refine ⟨_, _, rfl, rfl, ?_⟩
      | refine Or.inl ⟨_, rfl, ?_⟩
      | refine Or.inr ⟨_, rfl, ?_⟩
      | refine ⟨Or.inl ⟨by decide, by decide⟩, ?_⟩
      | refine ⟨Or.inr ⟨by decide, by decide⟩, ?_⟩
      | refine ⟨⟨by decide, by decide⟩, ?_⟩
      | refine ⟨⟨by decide, by decide, by decide⟩, ?_⟩
      | refine ⟨by decide, ?_⟩
      | refine ⟨(by show (0 : Int) < _; decide), ?_⟩
      | refine ⟨rfl, ?_⟩
      | refine ⟨⟨_, rfl⟩, ?_⟩
      | refine ⟨_, rfl, rfl, trivial, ?_⟩
      | refine ⟨_, _, rfl, ?_⟩))
  refine ⟨p, _, -2, _, rfl, rfl, hT, hm2.1, ?_⟩
  refine ⟨fun σ H' => σ = [some (.ref p), some (.ref cp), some v, some (.ref np), some (.int (ctN q c.2.1 o : Int)), some (.int (ctK q : Int))] ∧ H' = H, ?_, ?_⟩
  · cases o with
    | none =>
      have ev : v = .non := ho
      subst ev
      have e : ctN q c.2.1 none = c.2.1 := by cases q <;> rfl
      rw [e]
      (repeat (first
      | refine ifF ?_
      | refine ifT ?_
      | refine ⟨_, rfl, ?_⟩
      | refine ⟨_, _, rfl, rfl, ?_⟩
      | refine Or.inl ⟨_, rfl, ?_⟩
      | refine Or.inr ⟨_, rfl, ?_⟩
      | refine ⟨Or.inl ⟨by decide, by decide⟩, ?_⟩
      | refine ⟨Or.inr ⟨by decide, by decide⟩, ?_⟩
      | refine ⟨⟨by decide, by decide⟩, ?_⟩
      | refine ⟨⟨by decide, by decide, by decide⟩, ?_⟩
      | refine ⟨by decide, ?_⟩
      | refine ⟨(by show (0 : Int) < _; decide), ?_⟩
      | refine ⟨rfl, ?_⟩
      | refine ⟨⟨_, rfl⟩, ?_⟩
      | refine ⟨_, rfl, rfl, trivial, ?_⟩
      | refine ⟨_, _, rfl, ?_⟩))
      first | exact ⟨rfl, rfl⟩ | rfl
    | some y =>
      obtain ⟨py, rfl, ny⟩ := ho
      (repeat (first
      | refine ifF ?_
      | refine ifT ?_
      | refine ⟨_, rfl, ?_⟩
      | refine ⟨_, _, rfl, rfl, ?_⟩
      | refine Or.inl ⟨_, rfl, ?_⟩
      | refine Or.inr ⟨_, rfl, ?_⟩
      | refine ⟨Or.inl ⟨by decide, by decide⟩, ?_⟩
      | refine ⟨Or.inr ⟨by decide, by decide⟩, ?_⟩
      | refine ⟨⟨by decide, by decide⟩, ?_⟩
      | refine ⟨⟨by decide, by decide, by decide⟩, ?_⟩
      | refine ⟨by decide, ?_⟩
      | refine ⟨(by show (0 : Int) < _; decide), ?_⟩
      | refine ⟨rfl, ?_⟩
      | refine ⟨⟨_, rfl⟩, ?_⟩
      | refine ⟨_, rfl, rfl, trivial, ?_⟩
      | refine ⟨_, _, rfl, ?_⟩))
      refine ⟨p, _, 0, _, rfl, rfl, hT, atI_nat (j := 0) hx0, ?_⟩
      cases q <;> first | (cases hct; done) | skip
      · rename_i kk a
        (repeat (first
      | refine ifF ?_
      | refine ifT ?_
      | refine ⟨_, rfl, ?_⟩
      | refine ⟨_, _, rfl, rfl, ?_⟩
      | refine Or.inl ⟨_, rfl, ?_⟩
      | refine Or.inr ⟨_, rfl, ?_⟩
      | refine ⟨Or.inl ⟨by decide, by decide⟩, ?_⟩
      | refine ⟨Or.inr ⟨by decide, by decide⟩, ?_⟩
      | refine ⟨⟨by decide, by decide⟩, ?_⟩
      | refine ⟨⟨by decide, by decide, by decide⟩, ?_⟩
      | refine ⟨by decide, ?_⟩
      | refine ⟨(by show (0 : Int) < _; decide), ?_⟩
      | refine ⟨rfl, ?_⟩
      | refine ⟨⟨_, rfl⟩, ?_⟩
      | refine ⟨_, rfl, rfl, trivial, ?_⟩
      | refine ⟨_, _, rfl, ?_⟩))
        have e : V.int (if ((kk : Nat) : Int) < ((c.2.1 : Nat) : Int) + 1 then ((kk : Nat) : Int) else ((c.2.1 : Nat) : Int) + 1) = V.int (ctN (.times kk a) c.2.1 (some y) : Int) := by
          congr 1
          show _ = ((min (c.2.1 + 1) kk : Nat) : Int)
          split <;> omega
        exact ⟨congrArg (fun z => [some (V.ref p), some (V.ref cp), some (V.ref py), some (V.ref np), some z, some (V.int ((ctK (.times kk a) : Nat) : Int))]) e, rfl⟩
      · rename_i mm kk a
        (repeat (first
      | refine ifF ?_
      | refine ifT ?_
      | refine ⟨_, rfl, ?_⟩
      | refine ⟨_, _, rfl, rfl, ?_⟩
      | refine Or.inl ⟨_, rfl, ?_⟩
      | refine Or.inr ⟨_, rfl, ?_⟩
      | refine ⟨Or.inl ⟨by decide, by decide⟩, ?_⟩
      | refine ⟨Or.inr ⟨by decide, by decide⟩, ?_⟩
      | refine ⟨⟨by decide, by decide⟩, ?_⟩
      | refine ⟨⟨by decide, by decide, by decide⟩, ?_⟩
      | refine ⟨by decide, ?_⟩
      | refine ⟨(by show (0 : Int) < _; decide), ?_⟩
      | refine ⟨rfl, ?_⟩
      | refine ⟨⟨_, rfl⟩, ?_⟩
      | refine ⟨_, rfl, rfl, trivial, ?_⟩
      | refine ⟨_, _, rfl, ?_⟩))
        refine ⟨p, _, 1, _, rfl, rfl, hT, atI_nat (j := 1) (hm2.2 _ _ _ rfl), ?_⟩
        have hm0 : 1 ≤ mm := hk.1.1
        refine rI_v (i := ((c.2.1 : Nat) : Int) + 1) (j := (mm : Int)) (v := .int (((c.2.1 + 1) % mm : Nat) : Int)) (by show (0 : Int) < _; omega) rfl ?_
        first | exact ⟨rfl, rfl⟩ | rfl
  · rintro σ H' ⟨rfl, rfl⟩
    have fin : ∀ v5 : V, Ov K H' v5 (ownN q c o x).1 → ∀ r, H' r = none → Q (.ref r) (upd H' r (.tup [v5, .int (ctN q c.2.1 o : Int), .ref hp])) := fun v5 h5 r hr0 =>
      k r _ (same_upd hr0) ⟨r, hp, v5, rfl, SqT.of upd_same, Ov.tx (TX.new hr0) h5, Am.same (same_upd hr0) hcA⟩
    (repeat (first
      | refine ifF ?_
      | refine ifT ?_
      | refine ⟨_, rfl, ?_⟩
      | refine ⟨_, _, rfl, rfl, ?_⟩
      | refine Or.inl ⟨_, rfl, ?_⟩
      | refine Or.inr ⟨_, rfl, ?_⟩
      | refine ⟨Or.inl ⟨by decide, by decide⟩, ?_⟩
      | refine ⟨Or.inr ⟨by decide, by decide⟩, ?_⟩
      | refine ⟨⟨by decide, by decide⟩, ?_⟩
      | refine ⟨⟨by decide, by decide, by decide⟩, ?_⟩
      | refine ⟨by decide, ?_⟩
      | refine ⟨(by show (0 : Int) < _; decide), ?_⟩
      | refine ⟨rfl, ?_⟩
      | refine ⟨⟨_, rfl⟩, ?_⟩
      | refine ⟨_, rfl, rfl, trivial, ?_⟩
      | refine ⟨_, _, rfl, ?_⟩))
    refine ite_dec (fun c1 => ?_) (fun c1 => ?_)
    · (repeat (first
      | refine ifF ?_
      | refine ifT ?_
      | refine ⟨_, rfl, ?_⟩
      | refine ⟨_, _, rfl, rfl, ?_⟩
      | refine Or.inl ⟨_, rfl, ?_⟩
      | refine Or.inr ⟨_, rfl, ?_⟩
      | refine ⟨Or.inl ⟨by decide, by decide⟩, ?_⟩
      | refine ⟨Or.inr ⟨by decide, by decide⟩, ?_⟩
      | refine ⟨⟨by decide, by decide⟩, ?_⟩
      | refine ⟨⟨by decide, by decide, by decide⟩, ?_⟩
      | refine ⟨by decide, ?_⟩
      | refine ⟨(by show (0 : Int) < _; decide), ?_⟩
      | refine ⟨rfl, ?_⟩
      | refine ⟨⟨_, rfl⟩, ?_⟩
      | refine ⟨_, rfl, rfl, trivial, ?_⟩
      | refine ⟨_, _, rfl, ?_⟩))
      refine ⟨cp, _, 2, _, rfl, rfl, hcT, atI_nat (j := 2) rfl, ?_⟩
      refine ⟨by show 3 ≤ sizeLine; decide, fin _ ?_⟩
      show Ov K H' _ (if ctN q c.2.1 o = ctK q then some x else none)
      rw [if_pos (by have := V.int.inj c1; omega)]
      exact Ov.of hx
    · (repeat (first
      | refine ifF ?_
      | refine ifT ?_
      | refine ⟨_, rfl, ?_⟩
      | refine ⟨_, _, rfl, rfl, ?_⟩
      | refine Or.inl ⟨_, rfl, ?_⟩
      | refine Or.inr ⟨_, rfl, ?_⟩
      | refine ⟨Or.inl ⟨by decide, by decide⟩, ?_⟩
      | refine ⟨Or.inr ⟨by decide, by decide⟩, ?_⟩
      | refine ⟨⟨by decide, by decide⟩, ?_⟩
      | refine ⟨⟨by decide, by decide, by decide⟩, ?_⟩
      | refine ⟨by decide, ?_⟩
      | refine ⟨(by show (0 : Int) < _; decide), ?_⟩
      | refine ⟨rfl, ?_⟩
      | refine ⟨⟨_, rfl⟩, ?_⟩
      | refine ⟨_, rfl, rfl, trivial, ?_⟩
      | refine ⟨_, _, rfl, ?_⟩))
      refine ⟨cp, _, 2, _, rfl, rfl, hcT, atI_nat (j := 2) rfl, ?_⟩
      refine ⟨by show 3 ≤ sizeLine; decide, fin _ ?_⟩
      show Ov K H' _ (if ctN q c.2.1 o = ctK q then some x else none)
      rw [if_neg (fun z => c1 (by rw [z]))]
      rfl
end
end My


namespace My
open PySem PySem.Spec PyProof.Rows L2
end My

namespace My
open PySem PySem.Spec PyProof.Rows L2
theorem word_now {q : Qn} (h : word q = Str.ofString "now") : q = .now := by
  cases q <;> first | exact rfl | (exfalso; simp only [word] at h; revert h; decide)
theorem word_nothing {q : Qn} (h : word q = Str.ofString "nothing") : q = .nothing := by
  cases q <;> first | exact rfl | (exfalso; simp only [word] at h; revert h; decide)
theorem word_is {q : Qn} (h : word q = Str.ofString "is") : ∃ n, q = .is n := by
  cases q <;> first | exact ⟨_, rfl⟩ | (exfalso; simp only [word] at h; revert h; decide)
theorem word_less {q : Qn} (h : word q = Str.ofString "less") : ∃ a b, q = .less a b := by
  cases q <;> first | exact ⟨_, _, rfl⟩ | (exfalso; simp only [word] at h; revert h; decide)
theorem word_same {q : Qn} (h : word q = Str.ofString "same") : ∃ a b, q = .same a b := by
  cases q <;> first | exact ⟨_, _, rfl⟩ | (exfalso; simp only [word] at h; revert h; decide)
theorem word_since {q : Qn} (h : word q = Str.ofString "since") : ∃ a b, q = .since a b := by
  cases q <;> first | exact ⟨_, _, rfl⟩ | (exfalso; simp only [word] at h; revert h; decide)
theorem word_among {q : Qn} (h : word q = Str.ofString "among") : ∃ a b, q = .among a b := by
  cases q <;> first | exact ⟨_, _, rfl⟩ | (exfalso; simp only [word] at h; revert h; decide)
theorem word_iff {q : Qn} (h : word q = Str.ofString "if") : ∃ a b c, q = .iff a b c := by
  cases q <;> first | exact ⟨_, _, _, rfl⟩ | (exfalso; simp only [word] at h; revert h; decide)
theorem word_last {q : Qn} (h : word q = Str.ofString "last") : ∃ a, q = .last a := by
  cases q <;> first | exact ⟨_, rfl⟩ | (exfalso; simp only [word] at h; revert h; decide)
theorem word_first {q : Qn} (h : word q = Str.ofString "first") : ∃ a, q = .first a := by
  cases q <;> first | exact ⟨_, rfl⟩ | (exfalso; simp only [word] at h; revert h; decide)
theorem word_before {q : Qn} (h : word q = Str.ofString "before") : ∃ a, q = .before a := by
  cases q <;> first | exact ⟨_, rfl⟩ | (exfalso; simp only [word] at h; revert h; decide)
theorem word_great {q : Qn} (h : word q = Str.ofString "great") : ∃ k a, q = .great k a := by
  cases q <;> first | exact ⟨_, _, rfl⟩ | (exfalso; simp only [word] at h; revert h; decide)
theorem word_least {q : Qn} (h : word q = Str.ofString "least") : ∃ k a, q = .least k a := by
  cases q <;> first | exact ⟨_, _, rfl⟩ | (exfalso; simp only [word] at h; revert h; decide)
theorem word_times {q : Qn} (h : word q = Str.ofString "times") : ∃ k a, q = .times k a := by
  cases q <;> first | exact ⟨_, _, rfl⟩ | (exfalso; simp only [word] at h; revert h; decide)
theorem word_circle {q : Qn} (h : word q = Str.ofString "circle") : ∃ m k a, q = .circle m k a := by
  cases q <;> first | exact ⟨_, _, _, rfl⟩ | (exfalso; simp only [word] at h; revert h; decide)
end My


namespace My
open PySem PySem.Spec PyProof.Rows L2
section
variable {P : Program} {w : World} {K : PySem.W.Frag} {mg : Str → Option Value} {base : Heap}
theorem pair1 {R : V → O2 → Prop} {ts : List V} {told : List O2} (h : Paired R ts told) (hl : told.length = 1) : ∃ u a, ts = [u] ∧ told = [a] ∧ R u a := by
  match told, hl with
  | [a], _ =>
    cases h with
    | cons r1 t => cases t; exact ⟨_, a, rfl, rfl, r1⟩
/-! ### _own_cell -/
def sp_oc (K : PySem.W.Frag) : Sp := fun vs H Q _ => ∃ (p ca td np : Addr) (q : Qn) (cs : List Cell) (ts : List V) (told : List O2) (nm : Str) (x : Q2), vs = [.ref p, .ref ca, .ref td, .str nm, .ref np] ∧ Dp K H (.ref p) (qt q) ∧ Qk q ∧ SqC K H ca cs ∧ CellsOk q cs ∧ SqL K H td ts ∧ Paired (Ov K H) ts told ∧ told.length = (kids q).length ∧ (∀ y, some y ∈ told → gd2 y) ∧ Nm K H np x ∧ ∀ r H', L2.Same H H' → Cv K H' (.ref r) (ownC q cs told nm x) → Q (.ref r) H'
theorem ok_own_cell (T : Top K mg w) : FnOk P w K mg base CX0 5 T.a_own_cell T.d_own_cell ["tree", "cells", "told", "name", "number"] (sp_oc K) := by
  refine T.F_own_cell.ok sc_own_cell (fun vs H Q E h => ?_) (fun cdv A outer s H vs Q E hr h => ?_)
  · obtain ⟨p, ca, td, np, q, cs, ts, told, nm, x, rfl, _⟩ := h
    rfl
  obtain ⟨p, ca, td, np, q, cs, ts, told, nm, x, rfl, hd, hk, ⟨vs', hcL, hcP⟩, hco, hL, hP, hl, hg, hx, k⟩ := h
  have hd' := hd
  rw [qt_eq] at hd'
  cases hd' with
  | @tup _ txs _ hT hA =>
  have hx0 : txs[0]? = some (.str (word q)) := by
    cases hA with
    | cons h0 _ => cases h0; rfl
  have hlen := hco.len
  have hpos := qsz_pos q
  obtain ⟨v0, hv0, cv0⟩ := pget3 hcP (i := 0) (by omega)
  have ehd : cs[0] = cs.headD cell0 := by
    cases cs with
    | nil => exact absurd hlen (by simp; omega)
    | cons _ _ => rfl
  rw [ehd] at cv0
  have hc0 := cv0
  obtain ⟨p0, hp0, u0, rfl, hc0T, hc0u, hc0A⟩ := cv0
  have lts := Paired.length hP
  have fin : ∀ (v5 : V) (H1 : Hp), L2.Same H H1 → (Ov K H1 v5 (ownC q cs told nm x).1) → (ownC q cs told nm x).2 = (cs.headD cell0).2 → ∀ r, H1 r = none → Q (.ref r) (upd H1 r (.tup [v5, .int ((cs.headD cell0).2.1 : Int), .ref hp0])) := fun v5 H1 s1 h5 e r hr0 => by
    refine k r _ (s1.trans (same_upd hr0)) ⟨r, hp0, v5, rfl, ?_, Ov.tx (TX.new hr0) h5, ?_⟩
    · rw [e]
      exact SqT.of upd_same
    · rw [e]
      exact Am.same (s1.trans (same_upd hr0)) hc0A
  refine ⟨_, (pss_cons (ps_asg (pe_ix ix_list (pv 1) pe_int (fun _ _ => rfl)) (pg_tup (by rfl) (pgs_cons (pg_name (i := 5) sc_own_cell.nd rfl (Or.inl rfl)) (pgs_cons (pg_name (i := 6) sc_own_cell.nd rfl (Or.inl rfl)) (pgs_cons (pg_name (i := 7) sc_own_cell.nd rfl (Or.inl rfl)) pgs_nil)))))
      (pss_cons (ps_set (i := 8) sc_own_cell.nd rfl (Or.inl rfl) (pe_ix ix_tup (pv 0) pe_int (fun _ _ => rfl)))
      (pss_cons (ps_if (pt_cmpR op_eq (pv 8) pe_str (nomark _))
        (pss_one (ps_ret (pe_tup (pa_cons (pe_ifExp (pt_cmpR op_isN (pe_ix ix_list (pv 2) pe_int (fun _ _ => rfl)) pe_non (nomark _)) (pv 5) (pe_ix ix_list (pv 2) pe_int (fun _ _ => rfl))) (pa_cons (pv 6) (pa_cons (pv 7) pa_nil))))))
        pss_nil)
      (pss_cons (ps_if (pt_cmpR op_eq (pv 8) pe_str (nomark _))
        (pss_one (ps_ret (pe_tup (pa_cons (pe_ifExp (pt_cmpR op_isN (pv 5) pe_non (nomark _)) (pe_ix ix_list (pv 2) pe_int (fun _ _ => rfl)) (pv 5)) (pa_cons (pv 6) (pa_cons (pv 7) pa_nil))))))
        pss_nil)
      (pss_cons (ps_if (pt_cmpR op_eq (pv 8) pe_str (nomark _))
        (pss_one (ps_ret (pe_tup (pa_cons (pe_ix ix_tup (pe_ix ix_list (pv 1) pe_int (fun _ _ => rfl)) pe_int (fun _ _ => rfl)) (pa_cons (pv 6) (pa_cons (pv 7) pa_nil))))))
        pss_nil)
      (pss_cons (ps_if (pt_cmpR op_in_seq (pv 8) (pe_tup (pa_cons pe_str (pa_cons pe_str pa_nil))) (by rfl))
        (pss_one (ps_ret (pe_tup (pa_cons (pe_ix ix_list (pv 2) pe_int (fun _ _ => rfl)) (pa_cons (pv 6) (pa_cons (pv 7) pa_nil))))))
        pss_nil)
      (pss_cons (ps_if (pt_cmpR op_in_seq (pv 8) (pe_tup (pa_cons pe_str (pa_cons pe_str pa_nil))) (by rfl))
        (pss_one (ps_ret (pe_call ((ok_cell_by_order T).mono (by decide)) hr (by rfl) T.m_cell_by_order T.F_cell_by_order.kp T.b_cell_by_order .nil pass0 (pa_cons (pv 8) (pa_cons (pe_ix ix_tup (pv 0) pe_int (fun _ _ => rfl)) (pa_cons (pe_ix ix_list (pv 1) pe_int (fun _ _ => rfl)) (pa_cons (pe_ix ix_list (pv 2) pe_int (fun _ _ => rfl)) pa_nil)))))))
        pss_nil)
      (pss_cons (ps_if (pt_cmpR op_in_seq (pv 8) (pe_tup (pa_cons pe_str (pa_cons pe_str pa_nil))) (by rfl))
        (pss_one (ps_ret (pe_call ((ok_cell_by_count T).mono (by decide)) hr (by rfl) T.m_cell_by_count T.F_cell_by_count.kp T.b_cell_by_count .nil pass0 (pa_cons (pv 0) (pa_cons (pe_ix ix_list (pv 1) pe_int (fun _ _ => rfl)) (pa_cons (pe_ix ix_list (pv 2) pe_int (fun _ _ => rfl)) (pa_cons (pv 4) pa_nil)))))))
        pss_nil)
      (pss_one (ps_ret (pe_tup (pa_cons (pe_call ((ok_answer_now T).mono (by decide)) hr (by rfl) T.m_answer_now T.F_answer_now.kp T.b_answer_now .nil pass0 (pa_cons (pv 0) (pa_cons (pv 2) (pa_cons (pv 3) (pa_cons (pv 4) pa_nil))))) (pa_cons (pv 6) (pa_cons (pv 7) pa_nil)))))))))))))), ?_⟩
  (repeat (first
      | refine ifF ?_
      | refine ifT ?_
      | refine ⟨_, rfl, ?_⟩
      | refine ⟨_, _, rfl, rfl, ?_⟩
      | refine Or.inl ⟨_, rfl, ?_⟩
      | refine Or.inr ⟨_, rfl, ?_⟩
      | refine ⟨Or.inl ⟨by decide, by decide⟩, ?_⟩
      | refine ⟨Or.inr ⟨by decide, by decide⟩, ?_⟩
      | refine ⟨⟨by decide, by decide⟩, ?_⟩
      | refine ⟨⟨by decide, by decide, by decide⟩, ?_⟩
      | refine ⟨by decide, ?_⟩
      | refine ⟨(by show (0 : Int) < _; decide), ?_⟩
      | refine ⟨rfl, ?_⟩
      | refine ⟨⟨_, rfl⟩, ?_⟩
      | refine ⟨_, rfl, rfl, trivial, ?_⟩
      | refine ⟨_, _, rfl, ?_⟩))
  refine ⟨ca, _, 0, _, rfl, rfl, hcL, atI_nat (j := 0) hv0, ?_⟩
  (repeat (first
      | refine ifF ?_
      | refine ifT ?_
      | refine ⟨_, rfl, ?_⟩
      | refine ⟨_, _, rfl, rfl, ?_⟩
      | refine Or.inl ⟨_, rfl, ?_⟩
      | refine Or.inr ⟨_, rfl, ?_⟩
      | refine ⟨Or.inl ⟨by decide, by decide⟩, ?_⟩
      | refine ⟨Or.inr ⟨by decide, by decide⟩, ?_⟩
      | refine ⟨⟨by decide, by decide⟩, ?_⟩
      | refine ⟨⟨by decide, by decide, by decide⟩, ?_⟩
      | refine ⟨by decide, ?_⟩
      | refine ⟨(by show (0 : Int) < _; decide), ?_⟩
      | refine ⟨rfl, ?_⟩
      | refine ⟨⟨_, rfl⟩, ?_⟩
      | refine ⟨_, rfl, rfl, trivial, ?_⟩
      | refine ⟨_, _, rfl, ?_⟩))
  refine ⟨p0, _, rfl, hc0T, rfl, ?_⟩
  (repeat (first
      | refine ifF ?_
      | refine ifT ?_
      | refine ⟨_, rfl, ?_⟩
      | refine ⟨_, _, rfl, rfl, ?_⟩
      | refine Or.inl ⟨_, rfl, ?_⟩
      | refine Or.inr ⟨_, rfl, ?_⟩
      | refine ⟨Or.inl ⟨by decide, by decide⟩, ?_⟩
      | refine ⟨Or.inr ⟨by decide, by decide⟩, ?_⟩
      | refine ⟨⟨by decide, by decide⟩, ?_⟩
      | refine ⟨⟨by decide, by decide, by decide⟩, ?_⟩
      | refine ⟨by decide, ?_⟩
      | refine ⟨(by show (0 : Int) < _; decide), ?_⟩
      | refine ⟨rfl, ?_⟩
      | refine ⟨⟨_, rfl⟩, ?_⟩
      | refine ⟨_, rfl, rfl, trivial, ?_⟩
      | refine ⟨_, _, rfl, ?_⟩))
  refine ⟨p, _, 0, _, rfl, rfl, hT, atI_nat (j := 0) hx0, ?_⟩
  (repeat (first
      | refine ⟨_, rfl, ?_⟩
      | refine ⟨_, _, rfl, rfl, ?_⟩
      | refine Or.inl ⟨_, rfl, ?_⟩
      | refine Or.inr ⟨_, rfl, ?_⟩
      | refine ⟨Or.inl ⟨by decide, by decide⟩, ?_⟩
      | refine ⟨Or.inr ⟨by decide, by decide⟩, ?_⟩
      | refine ⟨⟨by decide, by decide⟩, ?_⟩
      | refine ⟨⟨by decide, by decide, by decide⟩, ?_⟩
      | refine ⟨by decide, ?_⟩
      | refine ⟨(by show (0 : Int) < _; decide), ?_⟩
      | refine ⟨rfl, ?_⟩
      | refine ⟨⟨_, rfl⟩, ?_⟩
      | refine ⟨_, rfl, rfl, trivial, ?_⟩
      | refine ⟨_, _, rfl, ?_⟩))
  refine ite_dec (fun c1 => ?_) (fun c1 => ?_)
  · obtain ⟨a, rfl⟩ := word_last (V.str.inj c1)
    obtain ⟨v, o, rfl, rfl, r1⟩ := pair1 hP hl
    (repeat (first
      | refine ifF ?_
      | refine ifT ?_
      | refine ⟨_, rfl, ?_⟩
      | refine ⟨_, _, rfl, rfl, ?_⟩
      | refine Or.inl ⟨_, rfl, ?_⟩
      | refine Or.inr ⟨_, rfl, ?_⟩
      | refine ⟨Or.inl ⟨by decide, by decide⟩, ?_⟩
      | refine ⟨Or.inr ⟨by decide, by decide⟩, ?_⟩
      | refine ⟨⟨by decide, by decide⟩, ?_⟩
      | refine ⟨⟨by decide, by decide, by decide⟩, ?_⟩
      | refine ⟨by decide, ?_⟩
      | refine ⟨(by show (0 : Int) < _; decide), ?_⟩
      | refine ⟨rfl, ?_⟩
      | refine ⟨⟨_, rfl⟩, ?_⟩
      | refine ⟨_, rfl, rfl, trivial, ?_⟩
      | refine ⟨_, _, rfl, ?_⟩))
    refine ⟨td, _, 0, _, rfl, rfl, hL, atI_nat (j := 0) rfl, ?_⟩
    cases o with
    | none =>
      have ev : v = .non := r1
      subst ev
      (repeat (first
      | refine ifF ?_
      | refine ifT ?_
      | refine ⟨_, rfl, ?_⟩
      | refine ⟨_, _, rfl, rfl, ?_⟩
      | refine Or.inl ⟨_, rfl, ?_⟩
      | refine Or.inr ⟨_, rfl, ?_⟩
      | refine ⟨Or.inl ⟨by decide, by decide⟩, ?_⟩
      | refine ⟨Or.inr ⟨by decide, by decide⟩, ?_⟩
      | refine ⟨⟨by decide, by decide⟩, ?_⟩
      | refine ⟨⟨by decide, by decide, by decide⟩, ?_⟩
      | refine ⟨by decide, ?_⟩
      | refine ⟨(by show (0 : Int) < _; decide), ?_⟩
      | refine ⟨rfl, ?_⟩
      | refine ⟨⟨_, rfl⟩, ?_⟩
      | refine ⟨_, rfl, rfl, trivial, ?_⟩
      | refine ⟨_, _, rfl, ?_⟩))
      exact ⟨by show 3 ≤ sizeLine; decide, fin u0 H (.refl H) hc0u rfl⟩
    | some y =>
      obtain ⟨py, rfl, ny⟩ := r1
      (repeat (first
      | refine ifF ?_
      | refine ifT ?_
      | refine ⟨_, rfl, ?_⟩
      | refine ⟨_, _, rfl, rfl, ?_⟩
      | refine Or.inl ⟨_, rfl, ?_⟩
      | refine Or.inr ⟨_, rfl, ?_⟩
      | refine ⟨Or.inl ⟨by decide, by decide⟩, ?_⟩
      | refine ⟨Or.inr ⟨by decide, by decide⟩, ?_⟩
      | refine ⟨⟨by decide, by decide⟩, ?_⟩
      | refine ⟨⟨by decide, by decide, by decide⟩, ?_⟩
      | refine ⟨by decide, ?_⟩
      | refine ⟨(by show (0 : Int) < _; decide), ?_⟩
      | refine ⟨rfl, ?_⟩
      | refine ⟨⟨_, rfl⟩, ?_⟩
      | refine ⟨_, rfl, rfl, trivial, ?_⟩
      | refine ⟨_, _, rfl, ?_⟩))
      refine ⟨td, _, 0, _, rfl, rfl, hL, atI_nat (j := 0) rfl, ?_⟩
      (repeat (first
      | refine ifF ?_
      | refine ifT ?_
      | refine ⟨_, rfl, ?_⟩
      | refine ⟨_, _, rfl, rfl, ?_⟩
      | refine Or.inl ⟨_, rfl, ?_⟩
      | refine Or.inr ⟨_, rfl, ?_⟩
      | refine ⟨Or.inl ⟨by decide, by decide⟩, ?_⟩
      | refine ⟨Or.inr ⟨by decide, by decide⟩, ?_⟩
      | refine ⟨⟨by decide, by decide⟩, ?_⟩
      | refine ⟨⟨by decide, by decide, by decide⟩, ?_⟩
      | refine ⟨by decide, ?_⟩
      | refine ⟨(by show (0 : Int) < _; decide), ?_⟩
      | refine ⟨rfl, ?_⟩
      | refine ⟨⟨_, rfl⟩, ?_⟩
      | refine ⟨_, rfl, rfl, trivial, ?_⟩
      | refine ⟨_, _, rfl, ?_⟩))
      exact ⟨by show 3 ≤ sizeLine; decide, fin _ H (.refl H) (Ov.of ny) rfl⟩
  (repeat (first
      | refine ⟨_, rfl, ?_⟩
      | refine ⟨_, _, rfl, rfl, ?_⟩
      | refine Or.inl ⟨_, rfl, ?_⟩
      | refine Or.inr ⟨_, rfl, ?_⟩
      | refine ⟨Or.inl ⟨by decide, by decide⟩, ?_⟩
      | refine ⟨Or.inr ⟨by decide, by decide⟩, ?_⟩
      | refine ⟨⟨by decide, by decide⟩, ?_⟩
      | refine ⟨⟨by decide, by decide, by decide⟩, ?_⟩
      | refine ⟨by decide, ?_⟩
      | refine ⟨(by show (0 : Int) < _; decide), ?_⟩
      | refine ⟨rfl, ?_⟩
      | refine ⟨⟨_, rfl⟩, ?_⟩
      | refine ⟨_, rfl, rfl, trivial, ?_⟩
      | refine ⟨_, _, rfl, ?_⟩))
  refine ite_dec (fun c2 => ?_) (fun c2 => ?_)
  · obtain ⟨a, rfl⟩ := word_first (V.str.inj c2)
    obtain ⟨v, o, rfl, rfl, r1⟩ := pair1 hP hl
    have eo : (ownC (.first a) cs [o] nm x).1 = firstS (cs.headD cell0).1 o := rfl
    cases h1 : (cs.headD cell0).1 with
    | none =>
      rw [h1] at hc0u eo
      have ev : u0 = .non := hc0u
      subst ev
      (repeat (first
      | refine ifF ?_
      | refine ifT ?_
      | refine ⟨_, rfl, ?_⟩
      | refine ⟨_, _, rfl, rfl, ?_⟩
      | refine Or.inl ⟨_, rfl, ?_⟩
      | refine Or.inr ⟨_, rfl, ?_⟩
      | refine ⟨Or.inl ⟨by decide, by decide⟩, ?_⟩
      | refine ⟨Or.inr ⟨by decide, by decide⟩, ?_⟩
      | refine ⟨⟨by decide, by decide⟩, ?_⟩
      | refine ⟨⟨by decide, by decide, by decide⟩, ?_⟩
      | refine ⟨by decide, ?_⟩
      | refine ⟨(by show (0 : Int) < _; decide), ?_⟩
      | refine ⟨rfl, ?_⟩
      | refine ⟨⟨_, rfl⟩, ?_⟩
      | refine ⟨_, rfl, rfl, trivial, ?_⟩
      | refine ⟨_, _, rfl, ?_⟩))
      refine ⟨td, _, 0, _, rfl, rfl, hL, atI_nat (j := 0) rfl, ?_⟩
      (repeat (first
      | refine ifF ?_
      | refine ifT ?_
      | refine ⟨_, rfl, ?_⟩
      | refine ⟨_, _, rfl, rfl, ?_⟩
      | refine Or.inl ⟨_, rfl, ?_⟩
      | refine Or.inr ⟨_, rfl, ?_⟩
      | refine ⟨Or.inl ⟨by decide, by decide⟩, ?_⟩
      | refine ⟨Or.inr ⟨by decide, by decide⟩, ?_⟩
      | refine ⟨⟨by decide, by decide⟩, ?_⟩
      | refine ⟨⟨by decide, by decide, by decide⟩, ?_⟩
      | refine ⟨by decide, ?_⟩
      | refine ⟨(by show (0 : Int) < _; decide), ?_⟩
      | refine ⟨rfl, ?_⟩
      | refine ⟨⟨_, rfl⟩, ?_⟩
      | refine ⟨_, rfl, rfl, trivial, ?_⟩
      | refine ⟨_, _, rfl, ?_⟩))
      exact ⟨by show 3 ≤ sizeLine; decide, fin _ H (.refl H) (by rw [eo]; exact r1) rfl⟩
    | some y =>
      rw [h1] at hc0u eo
      obtain ⟨py, rfl, ny⟩ := hc0u
      (repeat (first
      | refine ifF ?_
      | refine ifT ?_
      | refine ⟨_, rfl, ?_⟩
      | refine ⟨_, _, rfl, rfl, ?_⟩
      | refine Or.inl ⟨_, rfl, ?_⟩
      | refine Or.inr ⟨_, rfl, ?_⟩
      | refine ⟨Or.inl ⟨by decide, by decide⟩, ?_⟩
      | refine ⟨Or.inr ⟨by decide, by decide⟩, ?_⟩
      | refine ⟨⟨by decide, by decide⟩, ?_⟩
      | refine ⟨⟨by decide, by decide, by decide⟩, ?_⟩
      | refine ⟨by decide, ?_⟩
      | refine ⟨(by show (0 : Int) < _; decide), ?_⟩
      | refine ⟨rfl, ?_⟩
      | refine ⟨⟨_, rfl⟩, ?_⟩
      | refine ⟨_, rfl, rfl, trivial, ?_⟩
      | refine ⟨_, _, rfl, ?_⟩))
      exact ⟨by show 3 ≤ sizeLine; decide, fin _ H (.refl H) (by rw [eo]; exact Ov.of ny) rfl⟩
  (repeat (first
      | refine ⟨_, rfl, ?_⟩
      | refine ⟨_, _, rfl, rfl, ?_⟩
      | refine Or.inl ⟨_, rfl, ?_⟩
      | refine Or.inr ⟨_, rfl, ?_⟩
      | refine ⟨Or.inl ⟨by decide, by decide⟩, ?_⟩
      | refine ⟨Or.inr ⟨by decide, by decide⟩, ?_⟩
      | refine ⟨⟨by decide, by decide⟩, ?_⟩
      | refine ⟨⟨by decide, by decide, by decide⟩, ?_⟩
      | refine ⟨by decide, ?_⟩
      | refine ⟨(by show (0 : Int) < _; decide), ?_⟩
      | refine ⟨rfl, ?_⟩
      | refine ⟨⟨_, rfl⟩, ?_⟩
      | refine ⟨_, rfl, rfl, trivial, ?_⟩
      | refine ⟨_, _, rfl, ?_⟩))
  refine ite_dec (fun c3 => ?_) (fun c3 => ?_)
  · obtain ⟨a, rfl⟩ := word_before (V.str.inj c3)
    have hpa := qsz_pos a
    have h2 : 1 < cs.length := by rw [hlen]; show 1 < qsz a + 1; omega
    obtain ⟨v1, hv1, p1, hp1, u1, rfl, h1T, h1u, h1A⟩ := pget3 hcP (i := 1) h2
    (repeat (first
      | refine ifF ?_
      | refine ifT ?_
      | refine ⟨_, rfl, ?_⟩
      | refine ⟨_, _, rfl, rfl, ?_⟩
      | refine Or.inl ⟨_, rfl, ?_⟩
      | refine Or.inr ⟨_, rfl, ?_⟩
      | refine ⟨Or.inl ⟨by decide, by decide⟩, ?_⟩
      | refine ⟨Or.inr ⟨by decide, by decide⟩, ?_⟩
      | refine ⟨⟨by decide, by decide⟩, ?_⟩
      | refine ⟨⟨by decide, by decide, by decide⟩, ?_⟩
      | refine ⟨by decide, ?_⟩
      | refine ⟨(by show (0 : Int) < _; decide), ?_⟩
      | refine ⟨rfl, ?_⟩
      | refine ⟨⟨_, rfl⟩, ?_⟩
      | refine ⟨_, rfl, rfl, trivial, ?_⟩
      | refine ⟨_, _, rfl, ?_⟩))
    refine ⟨ca, _, 1, _, rfl, rfl, hcL, atI_nat (j := 1) hv1, ?_⟩
    (repeat (first
      | refine ifF ?_
      | refine ifT ?_
      | refine ⟨_, rfl, ?_⟩
      | refine ⟨_, _, rfl, rfl, ?_⟩
      | refine Or.inl ⟨_, rfl, ?_⟩
      | refine Or.inr ⟨_, rfl, ?_⟩
      | refine ⟨Or.inl ⟨by decide, by decide⟩, ?_⟩
      | refine ⟨Or.inr ⟨by decide, by decide⟩, ?_⟩
      | refine ⟨⟨by decide, by decide⟩, ?_⟩
      | refine ⟨⟨by decide, by decide, by decide⟩, ?_⟩
      | refine ⟨by decide, ?_⟩
      | refine ⟨(by show (0 : Int) < _; decide), ?_⟩
      | refine ⟨rfl, ?_⟩
      | refine ⟨⟨_, rfl⟩, ?_⟩
      | refine ⟨_, rfl, rfl, trivial, ?_⟩
      | refine ⟨_, _, rfl, ?_⟩))
    refine ⟨p1, _, 0, _, rfl, rfl, h1T, atI_nat (j := 0) rfl, ?_⟩
    (repeat (first
      | refine ifF ?_
      | refine ifT ?_
      | refine ⟨_, rfl, ?_⟩
      | refine ⟨_, _, rfl, rfl, ?_⟩
      | refine Or.inl ⟨_, rfl, ?_⟩
      | refine Or.inr ⟨_, rfl, ?_⟩
      | refine ⟨Or.inl ⟨by decide, by decide⟩, ?_⟩
      | refine ⟨Or.inr ⟨by decide, by decide⟩, ?_⟩
      | refine ⟨⟨by decide, by decide⟩, ?_⟩
      | refine ⟨⟨by decide, by decide, by decide⟩, ?_⟩
      | refine ⟨by decide, ?_⟩
      | refine ⟨(by show (0 : Int) < _; decide), ?_⟩
      | refine ⟨rfl, ?_⟩
      | refine ⟨⟨_, rfl⟩, ?_⟩
      | refine ⟨_, rfl, rfl, trivial, ?_⟩
      | refine ⟨_, _, rfl, ?_⟩))
    refine ⟨by show 3 ≤ sizeLine; decide, fin _ H (.refl H) ?_ rfl⟩
    show Ov K H u1 (cs.getD 1 cell0).1
    rw [List.getD_eq_getElem?_getD, List.getElem?_eq_getElem h2]
    exact h1u
  have s0 : L2.Same H H := .refl H
  (repeat (first
      | refine ⟨_, rfl, ?_⟩
      | refine ⟨_, _, rfl, rfl, ?_⟩
      | refine Or.inl ⟨_, rfl, ?_⟩
      | refine Or.inr ⟨_, rfl, ?_⟩
      | refine ⟨Or.inl ⟨by decide, by decide⟩, ?_⟩
      | refine ⟨Or.inr ⟨by decide, by decide⟩, ?_⟩
      | refine ⟨⟨by decide, by decide⟩, ?_⟩
      | refine ⟨⟨by decide, by decide, by decide⟩, ?_⟩
      | refine ⟨by decide, ?_⟩
      | refine ⟨(by show (0 : Int) < _; decide), ?_⟩
      | refine ⟨rfl, ?_⟩
      | refine ⟨⟨_, rfl⟩, ?_⟩
      | refine ⟨_, rfl, rfl, trivial, ?_⟩
      | refine ⟨_, _, rfl, ?_⟩))
  refine fun t4 ht4 => ?_
  have r4 : L2.Same H (upd H t4 (.tup [.str "since", .str "among"])) := same_upd ht4
  refine ⟨t4, _, rfl, .inr (SqT.of upd_same), rfl, rfl, ?_⟩
  have m4 : (if false = true then !inV (V.str (word q)) ([("since" : Str), ("among" : Str)].map V.str) else inV (V.str (word q)) ([("since" : Str), ("among" : Str)].map V.str)) = decide (word q ∈ (["since", "among"] : List Str)) := by
    rw [if_neg (by decide), in_strs]
  refine ⟨_, congrArg V.bl m4, ?_⟩
  have s4 := s0.trans r4
  generalize upd H t4 (.tup [.str "since", .str "among"]) = H4 at r4 s4 ⊢
  refine ite_dec (fun c4 => ?_) (fun c4 => ?_)
  · have two : ∃ v0 v1 o0 o1, ts = [v0, v1] ∧ told = [o0, o1] ∧ Ov K H v1 o1 ∧ (ownC q cs told nm x).1 = o1 ∧ (ownC q cs told nm x).2 = (cs.headD cell0).2 := by
      simp only [List.mem_cons, List.not_mem_nil, or_false] at c4
      rcases c4 with c | c
      · obtain ⟨a, b, rfl⟩ := word_since c
        obtain ⟨v0, v1, o0, o1, rfl, rfl, r0, r1⟩ := pair2 hP hl
        exact ⟨v0, v1, o0, o1, rfl, rfl, r1, rfl, rfl⟩
      · obtain ⟨a, b, rfl⟩ := word_among c
        obtain ⟨v0, v1, o0, o1, rfl, rfl, r0, r1⟩ := pair2 hP hl
        exact ⟨v0, v1, o0, o1, rfl, rfl, r1, rfl, rfl⟩
    obtain ⟨w0, w1, o0, o1, rfl, rfl, r1, e1, e2⟩ := two
    (repeat (first
      | refine ifF ?_
      | refine ifT ?_
      | refine ⟨_, rfl, ?_⟩
      | refine ⟨_, _, rfl, rfl, ?_⟩
      | refine Or.inl ⟨_, rfl, ?_⟩
      | refine Or.inr ⟨_, rfl, ?_⟩
      | refine ⟨Or.inl ⟨by decide, by decide⟩, ?_⟩
      | refine ⟨Or.inr ⟨by decide, by decide⟩, ?_⟩
      | refine ⟨⟨by decide, by decide⟩, ?_⟩
      | refine ⟨⟨by decide, by decide, by decide⟩, ?_⟩
      | refine ⟨by decide, ?_⟩
      | refine ⟨(by show (0 : Int) < _; decide), ?_⟩
      | refine ⟨rfl, ?_⟩
      | refine ⟨⟨_, rfl⟩, ?_⟩
      | refine ⟨_, rfl, rfl, trivial, ?_⟩
      | refine ⟨_, _, rfl, ?_⟩))
    refine ⟨td, _, 1, _, rfl, rfl, s4.seq hL, atI_nat (j := 1) rfl, ?_⟩
    (repeat (first
      | refine ifF ?_
      | refine ifT ?_
      | refine ⟨_, rfl, ?_⟩
      | refine ⟨_, _, rfl, rfl, ?_⟩
      | refine Or.inl ⟨_, rfl, ?_⟩
      | refine Or.inr ⟨_, rfl, ?_⟩
      | refine ⟨Or.inl ⟨by decide, by decide⟩, ?_⟩
      | refine ⟨Or.inr ⟨by decide, by decide⟩, ?_⟩
      | refine ⟨⟨by decide, by decide⟩, ?_⟩
      | refine ⟨⟨by decide, by decide, by decide⟩, ?_⟩
      | refine ⟨by decide, ?_⟩
      | refine ⟨(by show (0 : Int) < _; decide), ?_⟩
      | refine ⟨rfl, ?_⟩
      | refine ⟨⟨_, rfl⟩, ?_⟩
      | refine ⟨_, rfl, rfl, trivial, ?_⟩
      | refine ⟨_, _, rfl, ?_⟩))
    exact ⟨by show 3 ≤ sizeLine; decide, fin _ H4 s4 (by rw [e1]; exact Ov.tx (TX.same s4) r1) e2⟩
  (repeat (first
      | refine ⟨_, rfl, ?_⟩
      | refine ⟨_, _, rfl, rfl, ?_⟩
      | refine Or.inl ⟨_, rfl, ?_⟩
      | refine Or.inr ⟨_, rfl, ?_⟩
      | refine ⟨Or.inl ⟨by decide, by decide⟩, ?_⟩
      | refine ⟨Or.inr ⟨by decide, by decide⟩, ?_⟩
      | refine ⟨⟨by decide, by decide⟩, ?_⟩
      | refine ⟨⟨by decide, by decide, by decide⟩, ?_⟩
      | refine ⟨by decide, ?_⟩
      | refine ⟨(by show (0 : Int) < _; decide), ?_⟩
      | refine ⟨rfl, ?_⟩
      | refine ⟨⟨_, rfl⟩, ?_⟩
      | refine ⟨_, rfl, rfl, trivial, ?_⟩
      | refine ⟨_, _, rfl, ?_⟩))
  refine fun t5 ht5 => ?_
  have r5 : L2.Same H4 (upd H4 t5 (.tup [.str "great", .str "least"])) := same_upd ht5
  refine ⟨t5, _, rfl, .inr (SqT.of upd_same), rfl, rfl, ?_⟩
  have m5 : (if false = true then !inV (V.str (word q)) ([("great" : Str), ("least" : Str)].map V.str) else inV (V.str (word q)) ([("great" : Str), ("least" : Str)].map V.str)) = decide (word q ∈ (["great", "least"] : List Str)) := by
    rw [if_neg (by decide), in_strs]
  refine ⟨_, congrArg V.bl m5, ?_⟩
  have s5 := s4.trans r5
  generalize upd H4 t5 (.tup [.str "great", .str "least"]) = H5 at r5 s5 ⊢
  refine ite_dec (fun c5 => ?_) (fun c5 => ?_)
  · have one : ∃ (b : Bool) (kk : Nat) (v : V) (o : O2), word q = GW b ∧ txs[1]? = some (.int (kk : Int)) ∧ ts = [v] ∧ told = [o] ∧ Ov K H v o ∧ (1 ≤ kk ∧ kk ≤ 3) ∧ ownC q cs told nm x = ownK b kk (cs.headD cell0) o := by
      simp only [List.mem_cons, List.not_mem_nil, or_false] at c5
      rcases c5 with c | c
      · obtain ⟨kk, a, rfl⟩ := word_great c
        obtain ⟨v, o, rfl, rfl, r1⟩ := pair1 hP hl
        refine ⟨true, kk, v, o, rfl, ?_, rfl, rfl, r1, hk.1, rfl⟩
        cases hA with | cons _ hr => cases hr with | cons h1 _ => cases h1; rfl
      · obtain ⟨kk, a, rfl⟩ := word_least c
        obtain ⟨v, o, rfl, rfl, r1⟩ := pair1 hP hl
        refine ⟨false, kk, v, o, rfl, ?_, rfl, rfl, r1, hk.1, rfl⟩
        cases hA with | cons _ hr => cases hr with | cons h1 _ => cases h1; rfl
    obtain ⟨b, kk, v, o, ew, hx1, rfl, rfl, r1, hkk, eo⟩ := one
    obtain ⟨g1, g2, g3, g4, g5⟩ := hco.hd
    rw [ew]
    (repeat (first
      | refine ifF ?_
      | refine ifT ?_
      | refine ⟨_, rfl, ?_⟩
      | refine ⟨_, _, rfl, rfl, ?_⟩
      | refine Or.inl ⟨_, rfl, ?_⟩
      | refine Or.inr ⟨_, rfl, ?_⟩
      | refine ⟨Or.inl ⟨by decide, by decide⟩, ?_⟩
      | refine ⟨Or.inr ⟨by decide, by decide⟩, ?_⟩
      | refine ⟨⟨by decide, by decide⟩, ?_⟩
      | refine ⟨⟨by decide, by decide, by decide⟩, ?_⟩
      | refine ⟨by decide, ?_⟩
      | refine ⟨(by show (0 : Int) < _; decide), ?_⟩
      | refine ⟨rfl, ?_⟩
      | refine ⟨⟨_, rfl⟩, ?_⟩
      | refine ⟨_, rfl, rfl, trivial, ?_⟩
      | refine ⟨_, _, rfl, ?_⟩))
    refine ⟨p, _, 1, _, rfl, rfl, My.Same.sqT s5 hT, atI_nat (j := 1) hx1, ?_⟩
    (repeat (first
      | refine ifF ?_
      | refine ifT ?_
      | refine ⟨_, rfl, ?_⟩
      | refine ⟨_, _, rfl, rfl, ?_⟩
      | refine Or.inl ⟨_, rfl, ?_⟩
      | refine Or.inr ⟨_, rfl, ?_⟩
      | refine ⟨Or.inl ⟨by decide, by decide⟩, ?_⟩
      | refine ⟨Or.inr ⟨by decide, by decide⟩, ?_⟩
      | refine ⟨⟨by decide, by decide⟩, ?_⟩
      | refine ⟨⟨by decide, by decide, by decide⟩, ?_⟩
      | refine ⟨by decide, ?_⟩
      | refine ⟨(by show (0 : Int) < _; decide), ?_⟩
      | refine ⟨rfl, ?_⟩
      | refine ⟨⟨_, rfl⟩, ?_⟩
      | refine ⟨_, rfl, rfl, trivial, ?_⟩
      | refine ⟨_, _, rfl, ?_⟩))
    refine ⟨ca, _, 0, _, rfl, rfl, s5.seq hcL, atI_nat (j := 0) hv0, ?_⟩
    (repeat (first
      | refine ifF ?_
      | refine ifT ?_
      | refine ⟨_, rfl, ?_⟩
      | refine ⟨_, _, rfl, rfl, ?_⟩
      | refine Or.inl ⟨_, rfl, ?_⟩
      | refine Or.inr ⟨_, rfl, ?_⟩
      | refine ⟨Or.inl ⟨by decide, by decide⟩, ?_⟩
      | refine ⟨Or.inr ⟨by decide, by decide⟩, ?_⟩
      | refine ⟨⟨by decide, by decide⟩, ?_⟩
      | refine ⟨⟨by decide, by decide, by decide⟩, ?_⟩
      | refine ⟨by decide, ?_⟩
      | refine ⟨(by show (0 : Int) < _; decide), ?_⟩
      | refine ⟨rfl, ?_⟩
      | refine ⟨⟨_, rfl⟩, ?_⟩
      | refine ⟨_, rfl, rfl, trivial, ?_⟩
      | refine ⟨_, _, rfl, ?_⟩))
    refine ⟨td, _, 0, _, rfl, rfl, s5.seq hL, atI_nat (j := 0) rfl, ?_⟩
    (repeat (first
      | refine ifF ?_
      | refine ifT ?_
      | refine ⟨_, rfl, ?_⟩
      | refine ⟨_, _, rfl, rfl, ?_⟩
      | refine Or.inl ⟨_, rfl, ?_⟩
      | refine Or.inr ⟨_, rfl, ?_⟩
      | refine ⟨Or.inl ⟨by decide, by decide⟩, ?_⟩
      | refine ⟨Or.inr ⟨by decide, by decide⟩, ?_⟩
      | refine ⟨⟨by decide, by decide⟩, ?_⟩
      | refine ⟨⟨by decide, by decide, by decide⟩, ?_⟩
      | refine ⟨by decide, ?_⟩
      | refine ⟨(by show (0 : Int) < _; decide), ?_⟩
      | refine ⟨rfl, ?_⟩
      | refine ⟨⟨_, rfl⟩, ?_⟩
      | refine ⟨_, rfl, rfl, trivial, ?_⟩
      | refine ⟨_, _, rfl, ?_⟩))
    refine ⟨b, kk, p0, v, cs.headD cell0, o, rfl, Cv.tx (TX.same s5) hc0, Ov.tx (TX.same s5) r1, hkk, g2, g3, g4, fun y hy => hg y (by rw [hy]; simp), fun r H' s' hr' => ?_⟩
    rw [← eo] at hr'
    exact k r H' (s5.trans s') hr'
  (repeat (first
      | refine ⟨_, rfl, ?_⟩
      | refine ⟨_, _, rfl, rfl, ?_⟩
      | refine Or.inl ⟨_, rfl, ?_⟩
      | refine Or.inr ⟨_, rfl, ?_⟩
      | refine ⟨Or.inl ⟨by decide, by decide⟩, ?_⟩
      | refine ⟨Or.inr ⟨by decide, by decide⟩, ?_⟩
      | refine ⟨⟨by decide, by decide⟩, ?_⟩
      | refine ⟨⟨by decide, by decide, by decide⟩, ?_⟩
      | refine ⟨by decide, ?_⟩
      | refine ⟨(by show (0 : Int) < _; decide), ?_⟩
      | refine ⟨rfl, ?_⟩
      | refine ⟨⟨_, rfl⟩, ?_⟩
      | refine ⟨_, rfl, rfl, trivial, ?_⟩
      | refine ⟨_, _, rfl, ?_⟩))
  refine fun t6 ht6 => ?_
  have r6 : L2.Same H5 (upd H5 t6 (.tup [.str "times", .str "circle"])) := same_upd ht6
  refine ⟨t6, _, rfl, .inr (SqT.of upd_same), rfl, rfl, ?_⟩
  have m6 : (if false = true then !inV (V.str (word q)) ([("times" : Str), ("circle" : Str)].map V.str) else inV (V.str (word q)) ([("times" : Str), ("circle" : Str)].map V.str)) = decide (word q ∈ (["times", "circle"] : List Str)) := by
    rw [if_neg (by decide), in_strs]
  refine ⟨_, congrArg V.bl m6, ?_⟩
  have s6 := s5.trans r6
  generalize upd H5 t6 (.tup [.str "times", .str "circle"]) = H6 at r6 s6 ⊢
  refine ite_dec (fun c6 => ?_) (fun c6 => ?_)
  · have one : ∃ (v : V) (o : O2), ts = [v] ∧ told = [o] ∧ Ov K H v o ∧ isCt q = true ∧ (cs.headD cell0).2.1 ≤ 10 ∧ ownC q cs told nm x = ownN q (cs.headD cell0) o x := by
      obtain ⟨g1, g2, g3, g4, g5⟩ := hco.hd
      simp only [List.mem_cons, List.not_mem_nil, or_false] at c6
      rcases c6 with c | c
      · obtain ⟨kk, a, rfl⟩ := word_times c
        obtain ⟨v, o, rfl, rfl, r1⟩ := pair1 hP hl
        have := hk.1
        exact ⟨v, o, rfl, rfl, r1, rfl, by have g5 : (cs.headD cell0).2.1 ≤ kk := g5; omega, rfl⟩
      · obtain ⟨mm, kk, a, rfl⟩ := word_circle c
        obtain ⟨v, o, rfl, rfl, r1⟩ := pair1 hP hl
        have := hk.1
        exact ⟨v, o, rfl, rfl, r1, rfl, by have g5 : (cs.headD cell0).2.1 < mm := g5; omega, rfl⟩
    obtain ⟨v, o, rfl, rfl, r1, hct, hcn, eo⟩ := one
    (repeat (first
      | refine ifF ?_
      | refine ifT ?_
      | refine ⟨_, rfl, ?_⟩
      | refine ⟨_, _, rfl, rfl, ?_⟩
      | refine Or.inl ⟨_, rfl, ?_⟩
      | refine Or.inr ⟨_, rfl, ?_⟩
      | refine ⟨Or.inl ⟨by decide, by decide⟩, ?_⟩
      | refine ⟨Or.inr ⟨by decide, by decide⟩, ?_⟩
      | refine ⟨⟨by decide, by decide⟩, ?_⟩
      | refine ⟨⟨by decide, by decide, by decide⟩, ?_⟩
      | refine ⟨by decide, ?_⟩
      | refine ⟨(by show (0 : Int) < _; decide), ?_⟩
      | refine ⟨rfl, ?_⟩
      | refine ⟨⟨_, rfl⟩, ?_⟩
      | refine ⟨_, rfl, rfl, trivial, ?_⟩
      | refine ⟨_, _, rfl, ?_⟩))
    refine ⟨ca, _, 0, _, rfl, rfl, s6.seq hcL, atI_nat (j := 0) hv0, ?_⟩
    (repeat (first
      | refine ifF ?_
      | refine ifT ?_
      | refine ⟨_, rfl, ?_⟩
      | refine ⟨_, _, rfl, rfl, ?_⟩
      | refine Or.inl ⟨_, rfl, ?_⟩
      | refine Or.inr ⟨_, rfl, ?_⟩
      | refine ⟨Or.inl ⟨by decide, by decide⟩, ?_⟩
      | refine ⟨Or.inr ⟨by decide, by decide⟩, ?_⟩
      | refine ⟨⟨by decide, by decide⟩, ?_⟩
      | refine ⟨⟨by decide, by decide, by decide⟩, ?_⟩
      | refine ⟨by decide, ?_⟩
      | refine ⟨(by show (0 : Int) < _; decide), ?_⟩
      | refine ⟨rfl, ?_⟩
      | refine ⟨⟨_, rfl⟩, ?_⟩
      | refine ⟨_, rfl, rfl, trivial, ?_⟩
      | refine ⟨_, _, rfl, ?_⟩))
    refine ⟨td, _, 0, _, rfl, rfl, s6.seq hL, atI_nat (j := 0) rfl, ?_⟩
    (repeat (first
      | refine ifF ?_
      | refine ifT ?_
      | refine ⟨_, rfl, ?_⟩
      | refine ⟨_, _, rfl, rfl, ?_⟩
      | refine Or.inl ⟨_, rfl, ?_⟩
      | refine Or.inr ⟨_, rfl, ?_⟩
      | refine ⟨Or.inl ⟨by decide, by decide⟩, ?_⟩
      | refine ⟨Or.inr ⟨by decide, by decide⟩, ?_⟩
      | refine ⟨⟨by decide, by decide⟩, ?_⟩
      | refine ⟨⟨by decide, by decide, by decide⟩, ?_⟩
      | refine ⟨by decide, ?_⟩
      | refine ⟨(by show (0 : Int) < _; decide), ?_⟩
      | refine ⟨rfl, ?_⟩
      | refine ⟨⟨_, rfl⟩, ?_⟩
      | refine ⟨_, rfl, rfl, trivial, ?_⟩
      | refine ⟨_, _, rfl, ?_⟩))
    refine ⟨p, p0, np, v, q, cs.headD cell0, o, x, rfl, Dp.same s6 hd, hk, hct, Cv.tx (TX.same s6) hc0, hcn, Ov.tx (TX.same s6) r1, Nm.same s6 hx, fun r H' s' hr' => ?_⟩
    rw [← eo] at hr'
    exact k r H' (s6.trans s') hr'
  have hnow : isNow q = true ∧ (ownC q cs told nm x).1 = nowF q told nm x ∧ (ownC q cs told nm x).2 = (cs.headD cell0).2 := by
    cases q <;> first | exact ⟨rfl, rfl, rfl⟩ | exact (c1 rfl).elim | exact (c2 rfl).elim | exact (c3 rfl).elim | exact (c4 (of_decide_eq_true rfl)).elim | exact (c5 (of_decide_eq_true rfl)).elim | exact (c6 (of_decide_eq_true rfl)).elim
  (repeat (first
      | refine ifF ?_
      | refine ifT ?_
      | refine ⟨_, rfl, ?_⟩
      | refine ⟨_, _, rfl, rfl, ?_⟩
      | refine Or.inl ⟨_, rfl, ?_⟩
      | refine Or.inr ⟨_, rfl, ?_⟩
      | refine ⟨Or.inl ⟨by decide, by decide⟩, ?_⟩
      | refine ⟨Or.inr ⟨by decide, by decide⟩, ?_⟩
      | refine ⟨⟨by decide, by decide⟩, ?_⟩
      | refine ⟨⟨by decide, by decide, by decide⟩, ?_⟩
      | refine ⟨by decide, ?_⟩
      | refine ⟨(by show (0 : Int) < _; decide), ?_⟩
      | refine ⟨rfl, ?_⟩
      | refine ⟨⟨_, rfl⟩, ?_⟩
      | refine ⟨_, rfl, rfl, trivial, ?_⟩
      | refine ⟨_, _, rfl, ?_⟩))
  refine ⟨p, td, np, q, ts, told, nm, x, rfl, Dp.same s6 hd, hnow.1, s6.seq hL, Os.tx (TX.same s6) hP, hl, hg, Nm.same s6 hx, fun v H7 s7 hv => ?_⟩
  (repeat (first
      | refine ifF ?_
      | refine ifT ?_
      | refine ⟨_, rfl, ?_⟩
      | refine ⟨_, _, rfl, rfl, ?_⟩
      | refine Or.inl ⟨_, rfl, ?_⟩
      | refine Or.inr ⟨_, rfl, ?_⟩
      | refine ⟨Or.inl ⟨by decide, by decide⟩, ?_⟩
      | refine ⟨Or.inr ⟨by decide, by decide⟩, ?_⟩
      | refine ⟨⟨by decide, by decide⟩, ?_⟩
      | refine ⟨⟨by decide, by decide, by decide⟩, ?_⟩
      | refine ⟨by decide, ?_⟩
      | refine ⟨(by show (0 : Int) < _; decide), ?_⟩
      | refine ⟨rfl, ?_⟩
      | refine ⟨⟨_, rfl⟩, ?_⟩
      | refine ⟨_, rfl, rfl, trivial, ?_⟩
      | refine ⟨_, _, rfl, ?_⟩))
  exact ⟨by show 3 ≤ sizeLine; decide, fin v H7 (s6.trans s7) (by rw [hnow.2.1]; exact hv) hnow.2.2⟩
end
end My


namespace My
open PySem PySem.Spec PyProof.Rows L2
theorem cut_midL {xs : List V} {a n : Nat} (h : a + n ≤ xs.length) : cutV xs (some (a : Int)) (some ((a + n : Nat) : Int)) = (xs.drop a).take n := by
  unfold cutV
  rw [HT.sIx_nat, HT.sIx_nat, Nat.min_eq_left (show a ≤ xs.length by omega), Nat.min_eq_left (show a + n ≤ xs.length from h), show a + n - a = n by omega]
theorem pdrop {α β : Type} {R : α → β → Prop} : ∀ {xs : List α} {ys : List β} (n : Nat), Paired R xs ys → Paired R (xs.drop n) (ys.drop n)
  | _, _, 0, h => h
  | _, _, n + 1, .nil => .nil
  | _, _, n + 1, .cons r t => pdrop n t
theorem belowC_len : ∀ (ks : List Qn) (cs : List Cell) (s : Nat), (belowC ks cs s).length = ks.length
  | [], _, _ => rfl
  | a :: r, cs, s => congrArg (· + 1) (belowC_len r cs (s + qsz a))
theorem belowC_at : ∀ {ks : List Qn} {cs : List Cell} {s i : Nat} {a : Qn}, ks[i]? = some a → (belowC ks cs s)[i]? = some (sl cs (s + ((ks.take i).map qsz).sum) (qsz a))
  | [], _, _, _, _, h => by simp at h
  | b :: r, cs, s, 0, a, h => by
    simp at h
    subst h
    show some (sl cs s (qsz b)) = some (sl cs (s + 0) (qsz b))
    rfl
  | b :: r, cs, s, i + 1, a, h => by
    have ih := belowC_at (ks := r) (cs := cs) (s := s + qsz b) (i := i) (a := a) (by simpa using h)
    show (belowC r cs (s + qsz b))[i]? = _
    rw [ih, List.take_succ_cons, List.map_cons, List.sum_cons, Nat.add_assoc]
theorem sum_succ : ∀ {ks : List Qn} {i : Nat} {a : Qn}, ks[i]? = some a → ((ks.take (i + 1)).map qsz).sum = ((ks.take i).map qsz).sum + qsz a
  | [], _, _, h => by simp at h
  | b :: r, 0, a, h => by
    simp at h
    subst h
    simp
  | b :: r, i + 1, a, h => by
    have ih := sum_succ (ks := r) (i := i) (a := a) (by simpa using h)
    rw [List.take_succ_cons, List.map_cons, List.sum_cons, ih, List.take_succ_cons, List.map_cons, List.sum_cons]
    omega
theorem sum_take : ∀ {ks : List Qn} {i : Nat} {a : Qn}, ks[i]? = some a → ((ks.take i).map qsz).sum + qsz a ≤ (ks.map qsz).sum
  | [], _, _, h => by simp at h
  | b :: r, 0, a, h => by
    simp at h
    subst h
    simp
  | b :: r, i + 1, a, h => by
    have ih := sum_take (ks := r) (i := i) (a := a) (by simpa using h)
    rw [List.take_succ_cons, List.map_cons, List.sum_cons, List.map_cons, List.sum_cons]
    omega
section
variable {P : Program} {w : World} {K : PySem.W.Frag} {mg : Str → Option Value} {base : Heap}
def TC (K : PySem.W.Frag) (H : Hp) (p : Addr) (cs : List Cell) : Prop := ∃ vs, H p = some (.lst vs) ∧ Paired (Cv K H) vs cs
theorem TC.same {H H' : Hp} {p : Addr} {cs : List Cell} (e : L2.Same H H') (h : TC K H p cs) : TC K H' p cs := by
  obtain ⟨ts, h1, h2⟩ := h
  exact ⟨ts, e _ _ h1, Cs.tx (TX.same e) h2⟩
theorem TC.upd {H : Hp} {p D : Addr} {cs : List Cell} {xs ys : List V} (hD : H D = some (.lst xs)) (hn : p ≠ D) (h : TC K H p cs) : TC K (L2.upd H D (.lst ys)) p cs := by
  obtain ⟨ts, h1, h2⟩ := h
  exact ⟨ts, by rw [upd_ne hn]; exact h1, Cs.tx (TX.lst hD) h2⟩
theorem TC.s {H : Hp} {p : Addr} {cs : List Cell} (h : TC K H p cs) : SqC K H p cs := by
  obtain ⟨ts, h1, h2⟩ := h
  exact ⟨ts, SqL.of h1, h2⟩
/-- a new list of lists of cells -/
abbrev NewCC (K : PySem.W.Frag) (H : Hp) (css : List (List Cell)) (Q : VK) : Prop := ∀ D ps H', L2.Same H H' → H D = none → H' D = some (.lst (ps.map V.ref)) → Paired (TC K H') ps css → Q (.ref D) H'
/-! ### _cells_below -/
def sp_cb (K : PySem.W.Frag) : Sp := fun vs H Q _ => ∃ (p ca : Addr) (q : Qn) (cs : List Cell), vs = [.ref p, .ref ca] ∧ Dp K H (.ref p) (qt q) ∧ Qk q ∧ qsz q ≤ 1000 ∧ SqC K H ca cs ∧ cs.length = qsz q ∧ NewCC K H (belowC (kids q) cs 1) Q
theorem ok_cells_below (T : Top K mg w) : FnOk P w K mg base CX0 3 T.a_cells_below T.d_cells_below ["tree", "cells"] (sp_cb K) := by
  refine T.F_cells_below.ok sc_cells_below (fun vs H Q E h => ?_) (fun cdv A outer s H vs Q E hr h => ?_)
  · obtain ⟨p, ca, q, cs, rfl, _⟩ := h
    rfl
  obtain ⟨p, ca, q, cs, rfl, hd, hk, hz, ⟨cv, hcL, hcP⟩, hlen, k⟩ := h
  have lcv := Paired.length hcP
  refine ⟨_, (pss_cons (ps_set (i := 2) sc_cells_below.nd rfl (Or.inl rfl) (pe_lst pa_nil))
      (pss_cons (ps_set (i := 3) sc_cells_below.nd rfl (Or.inl rfl) pe_int)
      (pss_cons (ps_for PassesOwn.never rfl (pi_list (pe_call ((ok_questions_in T).mono (by decide)) hr (by rfl) T.m_questions_in T.F_questions_in.kp T.b_questions_in .nil pass0 (pa_cons (pv 0) pa_nil))) (pg_name (i := 4) sc_cells_below.nd rfl (Or.inl rfl))
        (pss_cons (ps_set (i := 5) sc_cells_below.nd rfl (Or.inl rfl) (pe_op op_add (pv 3) (pe_call ((ok_parts T).mono (by decide)) hr (by rfl) T.m_parts T.F_parts.kp T.b_parts .nil pass0 (pa_cons (pv 4) pa_nil))))
      (pss_cons (ps_expr (pe_bm PySem.F.plainAttrs_list PySem.F.slot_list_append PySem.F.type_list_append mt_append (pv 2) (pa_cons (pe_slice sl_list (pv 1) (po_some (pv 3)) (po_some (pv 5))) pa_nil)))
      (pss_one (ps_set (i := 3) sc_cells_below.nd rfl (Or.inl rfl) (pv 5))))))
      (pss_one (ps_ret (pv 2)))))), ?_⟩
  (repeat (first
      | refine ifF ?_
      | refine ifT ?_
      | refine ⟨_, rfl, ?_⟩
      | refine ⟨_, _, rfl, rfl, ?_⟩
      | refine Or.inl ⟨_, rfl, ?_⟩
      | refine Or.inr ⟨_, rfl, ?_⟩
      | refine ⟨Or.inl ⟨by decide, by decide⟩, ?_⟩
      | refine ⟨Or.inr ⟨by decide, by decide⟩, ?_⟩
      | refine ⟨⟨by decide, by decide⟩, ?_⟩
      | refine ⟨⟨by decide, by decide, by decide⟩, ?_⟩
      | refine ⟨by decide, ?_⟩
      | refine ⟨(by show (0 : Int) < _; decide), ?_⟩
      | refine ⟨rfl, ?_⟩
      | refine ⟨⟨_, rfl⟩, ?_⟩
      | refine ⟨_, rfl, rfl, trivial, ?_⟩
      | refine ⟨_, _, rfl, ?_⟩))
  refine fun D hD => ?_
  have sD : L2.Same H (upd H D (.lst [])) := same_upd hD
  have hD0 : (upd H D (.lst [])) D = some (.lst []) := upd_same
  generalize upd H D (.lst []) = H0 at sD hD0 ⊢
  (repeat (first
      | refine ifF ?_
      | refine ifT ?_
      | refine ⟨_, rfl, ?_⟩
      | refine ⟨_, _, rfl, rfl, ?_⟩
      | refine Or.inl ⟨_, rfl, ?_⟩
      | refine Or.inr ⟨_, rfl, ?_⟩
      | refine ⟨Or.inl ⟨by decide, by decide⟩, ?_⟩
      | refine ⟨Or.inr ⟨by decide, by decide⟩, ?_⟩
      | refine ⟨⟨by decide, by decide⟩, ?_⟩
      | refine ⟨⟨by decide, by decide, by decide⟩, ?_⟩
      | refine ⟨by decide, ?_⟩
      | refine ⟨(by show (0 : Int) < _; decide), ?_⟩
      | refine ⟨rfl, ?_⟩
      | refine ⟨⟨_, rfl⟩, ?_⟩
      | refine ⟨_, rfl, rfl, trivial, ?_⟩
      | refine ⟨_, _, rfl, ?_⟩))
  refine ⟨p, q, rfl, Dp.same sD hd, hk, fun D0 qs H1 s1 hQ0 hQ => ?_⟩
  have lqs := DpAll.len hQ
  rw [List.length_map] at lqs
  have sm1 := sD.trans s1
  have hD1 := s1 _ _ hD0
  have hD0D : D0 ≠ D ∨ True := .inr trivial
  refine ⟨D0, rfl, ⟨_, SqL.of hQ0⟩, for_list (xs := qs) (fun i σ H' => ∃ (ps : List Addr) (y4 y5 : Option V), σ = [some (.ref p), some (.ref ca), some (.ref D), some (.int ((1 + (((kids q).take i).map qsz).sum : Nat) : Int)), y4, y5] ∧ L2.Same H H' ∧ TX K H1 H' ∧ H' D0 = some (.lst qs) ∧ H' D = some (.lst (ps.map V.ref)) ∧ Paired (fun p' c' => p' ≠ D ∧ TC K H' p' c') ps ((belowC (kids q) cs 1).take i)) ?_ ?_ ?_ ?_⟩
  · exact ⟨[], none, none, rfl, sm1, TX.same (.refl H1), hQ0, hD1, .nil⟩
  · rintro i σ H' _ ⟨ps, y4, y5, rfl, sm, tx, hq, _⟩
    exact SqL.of hq
  · rintro i x σ H' hx ⟨ps, y4, y5, rfl, sm, tx, hq, hDl, hps⟩
    obtain ⟨d, hdi, px0⟩ := DpAll.at2 hQ hx
    rw [List.getElem?_map] at hdi
    obtain ⟨a, ha, rfl⟩ : ∃ a, (kids q)[i]? = some a ∧ qt a = d := by
      cases e : (kids q)[i]? with
      | none => rw [e] at hdi; cases hdi
      | some a => rw [e] at hdi; exact ⟨a, rfl, Option.some.inj hdi⟩
    have ham := List.mem_of_getElem? ha
    have hsz := kids_sz ham
    have hsl : 1 + (((kids q).take i).map qsz).sum + qsz a ≤ cv.length := by
      have h1 := qsz_kids q
      have h2 := sum_take ha
      omega
    obtain ⟨pa, rfl⟩ := dp_ref px0 (qt_isT a)
    (repeat (first
      | refine ifF ?_
      | refine ifT ?_
      | refine ⟨_, rfl, ?_⟩
      | refine ⟨_, _, rfl, rfl, ?_⟩
      | refine Or.inl ⟨_, rfl, ?_⟩
      | refine Or.inr ⟨_, rfl, ?_⟩
      | refine ⟨Or.inl ⟨by decide, by decide⟩, ?_⟩
      | refine ⟨Or.inr ⟨by decide, by decide⟩, ?_⟩
      | refine ⟨⟨by decide, by decide⟩, ?_⟩
      | refine ⟨⟨by decide, by decide, by decide⟩, ?_⟩
      | refine ⟨by decide, ?_⟩
      | refine ⟨(by show (0 : Int) < _; decide), ?_⟩
      | refine ⟨rfl, ?_⟩
      | refine ⟨⟨_, rfl⟩, ?_⟩
      | refine ⟨_, rfl, rfl, trivial, ?_⟩
      | refine ⟨_, _, rfl, ?_⟩))
    have px := Dp.tx tx px0 (qt_tr a (kids_ok hk ham))
    refine ⟨pa, a, rfl, px, kids_ok hk ham, by omega, fun H3 s3 => ?_⟩
    (repeat (first
      | refine ifF ?_
      | refine ifT ?_
      | refine ⟨_, rfl, ?_⟩
      | refine ⟨_, _, rfl, rfl, ?_⟩
      | refine Or.inl ⟨_, rfl, ?_⟩
      | refine Or.inr ⟨_, rfl, ?_⟩
      | refine ⟨Or.inl ⟨by decide, by decide⟩, ?_⟩
      | refine ⟨Or.inr ⟨by decide, by decide⟩, ?_⟩
      | refine ⟨⟨by decide, by decide⟩, ?_⟩
      | refine ⟨⟨by decide, by decide, by decide⟩, ?_⟩
      | refine ⟨by decide, ?_⟩
      | refine ⟨(by show (0 : Int) < _; decide), ?_⟩
      | refine ⟨rfl, ?_⟩
      | refine ⟨⟨_, rfl⟩, ?_⟩
      | refine ⟨_, rfl, rfl, trivial, ?_⟩
      | refine ⟨_, _, rfl, ?_⟩))
    have hDl3 := s3 _ _ hDl
    have sm3 := sm.trans s3
    refine ⟨.inl ⟨rfl, _, SqL.of hDl3⟩, ?_⟩
    (repeat (first
      | refine ifF ?_
      | refine ifT ?_
      | refine ⟨_, rfl, ?_⟩
      | refine ⟨_, _, rfl, rfl, ?_⟩
      | refine Or.inl ⟨_, rfl, ?_⟩
      | refine Or.inr ⟨_, rfl, ?_⟩
      | refine ⟨Or.inl ⟨by decide, by decide⟩, ?_⟩
      | refine ⟨Or.inr ⟨by decide, by decide⟩, ?_⟩
      | refine ⟨⟨by decide, by decide⟩, ?_⟩
      | refine ⟨⟨by decide, by decide, by decide⟩, ?_⟩
      | refine ⟨by decide, ?_⟩
      | refine ⟨(by show (0 : Int) < _; decide), ?_⟩
      | refine ⟨rfl, ?_⟩
      | refine ⟨⟨_, rfl⟩, ?_⟩
      | refine ⟨_, rfl, rfl, trivial, ?_⟩
      | refine ⟨_, _, rfl, ?_⟩))
    refine ⟨ca, _, rfl, sm3.seq hcL, fun p2 hp2 => ?_⟩
    have hn2 : p2 ≠ D := fun e => by rw [e, hDl3] at hp2; cases hp2
    have s4 : L2.Same H3 (upd H3 p2 (.lst (cutV cv (some ((1 + (((kids q).take i).map qsz).sum : Nat) : Int)) (some ((1 + (((kids q).take i).map qsz).sum : Nat) + (qsz a : Int) : Int))))) := same_upd hp2
    have hp4 : (upd H3 p2 (.lst (cutV cv (some ((1 + (((kids q).take i).map qsz).sum : Nat) : Int)) (some ((1 + (((kids q).take i).map qsz).sum : Nat) + (qsz a : Int) : Int))))) p2 = some (.lst (cutV cv (some ((1 + (((kids q).take i).map qsz).sum : Nat) : Int)) (some ((1 + (((kids q).take i).map qsz).sum : Nat) + (qsz a : Int) : Int)))) := upd_same
    generalize upd H3 p2 (.lst (cutV cv (some ((1 + (((kids q).take i).map qsz).sum : Nat) : Int)) (some ((1 + (((kids q).take i).map qsz).sum : Nat) + (qsz a : Int) : Int)))) = H4 at s4 hp4 ⊢
    (repeat (first
      | refine ifF ?_
      | refine ifT ?_
      | refine ⟨_, rfl, ?_⟩
      | refine ⟨_, _, rfl, rfl, ?_⟩
      | refine Or.inl ⟨_, rfl, ?_⟩
      | refine Or.inr ⟨_, rfl, ?_⟩
      | refine ⟨Or.inl ⟨by decide, by decide⟩, ?_⟩
      | refine ⟨Or.inr ⟨by decide, by decide⟩, ?_⟩
      | refine ⟨⟨by decide, by decide⟩, ?_⟩
      | refine ⟨⟨by decide, by decide, by decide⟩, ?_⟩
      | refine ⟨by decide, ?_⟩
      | refine ⟨(by show (0 : Int) < _; decide), ?_⟩
      | refine ⟨rfl, ?_⟩
      | refine ⟨⟨_, rfl⟩, ?_⟩
      | refine ⟨_, rfl, rfl, trivial, ?_⟩
      | refine ⟨_, _, rfl, ?_⟩))
    have hDl4 := s4 _ _ hDl3
    have lps := Paired.length hps
    have lb := belowC_len (kids q) cs 1
    have lk : (kids q).length ≤ 3 := by cases q <;> simp [kids]
    have il : i < qs.length := (List.getElem?_eq_some_iff.mp hx).1
    refine ⟨D, ps.map V.ref, .ref p2, rfl, rfl, hDl4, small (by rw [List.length_map, lps, List.length_take]; omega), ?_⟩
    have s34 := s3.trans s4
    have tx4 : TX K H' (upd H4 D (.lst (ps.map V.ref ++ [.ref p2]))) := (TX.same s34).trans (TX.lst hDl4)
    have d0 : D0 ≠ D := fun e => by
      rw [e, hD1] at hQ0
      have e2 : qs = [] := (HO.lst.inj (Option.some.inj hQ0)).symm
      rw [e2] at il
      cases il
    (repeat (first
      | refine ifF ?_
      | refine ifT ?_
      | refine ⟨_, rfl, ?_⟩
      | refine ⟨_, _, rfl, rfl, ?_⟩
      | refine Or.inl ⟨_, rfl, ?_⟩
      | refine Or.inr ⟨_, rfl, ?_⟩
      | refine ⟨Or.inl ⟨by decide, by decide⟩, ?_⟩
      | refine ⟨Or.inr ⟨by decide, by decide⟩, ?_⟩
      | refine ⟨⟨by decide, by decide⟩, ?_⟩
      | refine ⟨⟨by decide, by decide, by decide⟩, ?_⟩
      | refine ⟨by decide, ?_⟩
      | refine ⟨(by show (0 : Int) < _; decide), ?_⟩
      | refine ⟨rfl, ?_⟩
      | refine ⟨⟨_, rfl⟩, ?_⟩
      | refine ⟨_, rfl, rfl, trivial, ?_⟩
      | refine ⟨_, _, rfl, ?_⟩))
    have es : V.int ((1 + (((kids q).take i).map qsz).sum : Nat) + (qsz a : Int) : Int) = .int ((1 + (((kids q).take (i + 1)).map qsz).sum : Nat) : Int) := by
      rw [sum_succ ha, ← Nat.add_assoc]
      rfl
    refine ⟨ps ++ [p2], some (.ref pa), some (.int ((1 + (((kids q).take (i + 1)).map qsz).sum : Nat) : Int)), ?_, same_upd2 hD (sm.trans s34), tx.trans tx4, by rw [upd_ne d0]; exact s34 _ _ hq, by rw [List.map_append]; exact upd_same, ?_⟩
    · rw [← es]
      rfl
    have tk : (belowC (kids q) cs 1).take (i + 1) = (belowC (kids q) cs 1).take i ++ [sl cs (1 + (((kids q).take i).map qsz).sum) (qsz a)] := by
      have := belowC_at (cs := cs) (s := 1) ha
      rw [List.take_succ, this]
      rfl
    rw [tk]
    refine papp (pmono (R := fun p' c' => p' ≠ D ∧ TC K H' p' c') (fun p' c' h => ⟨h.1, TC.upd hDl4 h.1 (h.2.same s34)⟩) hps) (.cons ⟨hn2, ?_⟩ .nil)
    · refine TC.upd hDl4 hn2 ⟨_, hp4, ?_⟩
      have ec : ((1 + (((kids q).take i).map qsz).sum : Nat) + (qsz a : Int) : Int) = ((1 + (((kids q).take i).map qsz).sum + qsz a : Nat) : Int) := rfl
      rw [ec, cut_midL hsl]
      exact Cs.tx (TX.same (sm.trans s34)) (ptake _ (pdrop _ hcP))
  · rintro σ H' ⟨ps, y4, y5, rfl, sm, tx, hq, hDl, hps⟩
    rw [lqs, List.take_of_length_le (by rw [belowC_len]; exact Nat.le_refl _)] at hps
    exact ⟨_, rfl, k D ps H' sm hD hDl (pmono (fun _ _ h => h.2) hps)⟩
end
end My

namespace My
open PySem PySem.Spec PyProof.Rows L2
theorem below_ok {q : Qn} {cs : List Cell} (h : CellsOk q cs) : ∀ {i : Nat} {a : Qn} {c : List Cell}, (kids q)[i]? = some a → (belowC (kids q) cs 1)[i]? = some c → CellsOk a c := by
  intro i a c e1 e2
  have one : ∀ {b : Qn}, CellsOk b (sl cs 1 (qsz b)) → ([b] : List Qn)[i]? = some a → (belowC [b] cs 1)[i]? = some c → CellsOk a c := by
    intro b hb e1 e2
    match i, e1, e2 with
    | 0, e1, e2 =>
      cases e1; cases e2
      exact hb
    | i + 1, e1, _ => simp at e1
  have two : ∀ {b d : Qn}, CellsOk b (sl cs 1 (qsz b)) → CellsOk d (sl cs (1 + qsz b) (qsz d)) → ([b, d] : List Qn)[i]? = some a → (belowC [b, d] cs 1)[i]? = some c → CellsOk a c := by
    intro b d hb hd e1 e2
    match i, e1, e2 with
    | 0, e1, e2 =>
      cases e1; cases e2
      exact hb
    | 1, e1, e2 =>
      cases e1; cases e2
      exact hd
    | i + 2, e1, _ => simp at e1
  cases q with
  | now => simp [kids] at e1
  | nothing => simp [kids] at e1
  | is n => simp [kids] at e1
  | less b d => exact two h.2.2.1 h.2.2.2 e1 e2
  | same b d => exact two h.2.2.1 h.2.2.2 e1 e2
  | iff b d f =>
    match i, e1, e2 with
    | 0, e1, e2 =>
      cases e1; cases e2
      exact h.2.2.1
    | 1, e1, e2 =>
      cases e1; cases e2
      exact h.2.2.2.1
    | 2, e1, e2 =>
      cases e1; cases e2
      exact h.2.2.2.2
    | i + 3, e1, _ => simp [kids] at e1
  | last b => exact one h.2.2 e1 e2
  | first b => exact one h.2.2 e1 e2
  | before b => exact one h.2.2 e1 e2
  | great k b => exact one h.2.2 e1 e2
  | least k b => exact one h.2.2 e1 e2
  | times k b => exact one h.2.2 e1 e2
  | circle m k b => exact one h.2.2 e1 e2
  | since b d => exact two h.2.2.1 h.2.2.2 e1 e2
  | among b d => exact two h.2.2.1 h.2.2.2 e1 e2
theorem heard_get {q : Qn} (hs : word q ≠ "since") (ha : word q ≠ "among") {cs : List Cell} {nm : Str} {x : Q2} : heardC q cs nm x = ((kids q).zip (belowC (kids q) cs 1)).map fun p => hearC p.1 p.2 nm x := by
  cases q <;> first | rfl | exact (hs rfl).elim | exact (ha rfl).elim
theorem heard_len (q : Qn) (cs : List Cell) (nm : Str) (x : Q2) : (heardC q cs nm x).length = (kids q).length := by cases q <;> rfl
theorem heard_ok {q : Qn} (hq : Qk q) {cs : List Cell} (h : CellsOk q cs) {nm : Str} {x : Q2} (hx : gd2 x) : ∀ hs ∈ heardC q cs nm x, ∃ a, CellsOk a hs := by
  intro hs hm
  by_cases c1 : word q = "since"
  · obtain ⟨a, b, rfl⟩ := word_since c1
    have h0 := hear_ok hq.1 h.2.2.1 (nm := nm) hx
    simp only [heardC, List.mem_cons, List.not_mem_nil, or_false] at hm
    rcases hm with e | e
    · exact ⟨a, e ▸ h0⟩
    · refine ⟨b, ?_⟩
      rw [e]
      split
      · exact rep_ok hq.2
      · exact hear_ok hq.2 h.2.2.2 hx
  by_cases c2 : word q = "among"
  · obtain ⟨a, b, rfl⟩ := word_among c2
    have h0 := hear_ok hq.1 h.2.2.1 (nm := nm) hx
    simp only [heardC, List.mem_cons, List.not_mem_nil, or_false] at hm
    rcases hm with e | e
    · exact ⟨a, e ▸ h0⟩
    · refine ⟨b, ?_⟩
      rw [e]
      split
      · exact hear_ok hq.2 h.2.2.2 hx
      · exact h.2.2.2
  rw [heard_get c1 c2] at hm
  obtain ⟨p, hp, rfl⟩ := List.mem_map.mp hm
  obtain ⟨i, hi, e⟩ := List.mem_iff_getElem.mp hp
  rw [List.getElem_zip] at e
  rw [List.length_zip] at hi
  refine ⟨p.1, ?_⟩
  rw [← e]
  refine hear_ok ?_ ?_ hx
  · exact kids_ok hq (List.getElem_mem _)
  · exact below_ok h (i := i) (List.getElem?_eq_getElem (by omega)) (List.getElem?_eq_getElem (by omega))
section
variable {P : Program} {w : World} {K : PySem.W.Frag} {mg : Str → Option Value} {base : Heap}
def sp_hc (K : PySem.W.Frag) (n : Nat) : Sp := fun vs H Q _ => ∃ (p ca np : Addr) (q : Qn) (cs : List Cell) (nm : Str) (x : Q2), vs = [.ref p, .ref ca, .str nm, .ref np] ∧ Dp K H (.ref p) (qt q) ∧ Qk q ∧ qsz q ≤ n ∧ qsz q ≤ 1000 ∧ SqC K H ca cs ∧ CellsOk q cs ∧ Nm K H np x ∧ gd2 x ∧ NewC K H (hearC q cs nm x) Q
def sp_hb (K : PySem.W.Frag) (n : Nat) : Sp := fun vs H Q _ => ∃ (p bl np : Addr) (ps : List Addr) (q : Qn) (cs : List Cell) (nm : Str) (x : Q2), vs = [.ref p, .ref bl, .str nm, .ref np] ∧ Dp K H (.ref p) (qt q) ∧ Qk q ∧ qsz q ≤ n ∧ qsz q ≤ 1000 ∧ H bl = some (.lst (ps.map V.ref)) ∧ Paired (TC K H) ps (belowC (kids q) cs 1) ∧ CellsOk q cs ∧ Nm K H np x ∧ gd2 x ∧ NewCC K H (heardC q cs nm x) Q
/-! ### _hear_below -/
theorem below_step (T : Top K mg w) (n k : Nat) (hk5 : 5 ≤ k) (G_hear_cells : FnOk P w K mg base CX0 k T.a_hear_cells T.d_hear_cells ["tree", "cells", "name", "number"] (sp_hc K n)) : FnOk P w K mg base CX0 (k + 1) T.a_hear_below T.d_hear_below ["tree", "below", "name", "number"] (sp_hb K (n + 1)) := by
  have G_questions_in : FnOk P w K mg base CX0 k T.a_questions_in T.d_questions_in ["tree"] (sp_qin K) := (ok_questions_in T).mono (by omega)
  have G_first_cells : FnOk P w K mg base CX0 k T.a_first_cells T.d_first_cells ["tree"] (sp_fc K) := (ok_first_cells T).mono (by omega)
  refine T.F_hear_below.ok sc_hear_below (fun vs H Q E h => ?_) (fun cdv A outer s H vs Q E hr h => ?_)
  · obtain ⟨p, bl, np, ps, q, cs, nm, x, rfl, _⟩ := h
    rfl
  obtain ⟨p, bl, np, ps, q, cs, nm, x, rfl, hd, hk, hz, hz2, hbl, hps, hco, hx, hg, k⟩ := h
  have hd' := hd
  rw [qt_eq] at hd'
  cases hd' with
  | @tup _ txs _ hT hA =>
  have hx0 : txs[0]? = some (.str (word q)) := by
    cases hA with
    | cons h0 _ => cases h0; rfl
  have lps := Paired.length hps
  rw [belowC_len] at lps
  have lk : (kids q).length ≤ 3 := by cases q <;> simp [kids]
  refine ⟨_, (pss_cons (ps_if (pt_cmpR op_notIn_seq (pe_ix ix_tup (pv 0) pe_int (fun _ _ => rfl)) (pe_tup (pa_cons pe_str (pa_cons pe_str pa_nil))) (by rfl))
        (pss_one (ps_ret (pe_lc (own := [("part", 6), ("cells", 7)]) (g := gTup K 2 (gCons (gName 6) (gCons (gName 7) gNil))) (by rfl) sc_hear_below.nd (pi_zip (by rfl) T.z_zip (pa_cons (pe_call G_questions_in hr (by rfl) T.m_questions_in T.F_questions_in.kp T.b_questions_in .nil pass0 (pa_cons (pv 0) pa_nil)) (pa_cons (pv 1) pa_nil))) (blkOk_by (own := [("part", 6), ("cells", 7)]) (N := ["tree", "below", "name", "number", "cells_of_a", "a_answers", "part", "cells"]) (sc := defScope s_hear_below) (by decide +kernel)) (fun _ _ _ _ _ => (pg_tup (by rfl) (pgs_cons (pg_name (i := 6) sc_hear_below.nd rfl (Or.inl rfl)) (pgs_cons (pg_name (i := 7) sc_hear_below.nd rfl (Or.inl rfl)) pgs_nil)))) (fun _ _ _ _ _ => pts_nil) (fun _ _ _ _ _ => (pe_call G_hear_cells hr (by rfl) T.m_hear_cells T.F_hear_cells.kp T.b_hear_cells .nil pass0 (pa_cons (pv 6) (pa_cons (pv 7) (pa_cons (pv 2) (pa_cons (pv 3) pa_nil)))))))))
        pss_nil)
      (pss_cons (ps_set (i := 4) sc_hear_below.nd rfl (Or.inl rfl) (pe_call G_hear_cells hr (by rfl) T.m_hear_cells T.F_hear_cells.kp T.b_hear_cells .nil pass0 (pa_cons (pe_ix ix_tup (pv 0) pe_int (fun _ _ => rfl)) (pa_cons (pe_ix ix_list (pv 1) pe_int (fun _ _ => rfl)) (pa_cons (pv 2) (pa_cons (pv 3) pa_nil))))))
      (pss_cons (ps_set (i := 5) sc_hear_below.nd rfl (Or.inl rfl) (pe_cmpR op_notN (pe_ix ix_tup (pe_ix ix_list (pv 4) pe_int (fun _ _ => rfl)) pe_int (fun _ _ => rfl)) pe_non (nomark _)))
      (pss_cons (ps_if (PW.pt (pw_and (pt_val (pv 5)) (pw_and1 (pt_cmpR op_eq (pe_ix ix_tup (pv 0) pe_int (fun _ _ => rfl)) pe_str (nomark _)))))
        (pss_one (ps_ret (pe_lst (pa_cons (pv 4) (pa_cons (pe_call G_first_cells hr (by rfl) T.m_first_cells T.F_first_cells.kp T.b_first_cells .nil pass0 (pa_cons (pe_ix ix_tup (pv 0) pe_int (fun _ _ => rfl)) pa_nil)) pa_nil)))))
        pss_nil)
      (pss_cons (ps_if (PW.pt (pw_or (pt_val (pv 5)) (pw_or1 (pt_cmpR op_eq (pe_ix ix_tup (pv 0) pe_int (fun _ _ => rfl)) pe_str (nomark _)))))
        (pss_one (ps_ret (pe_lst (pa_cons (pv 4) (pa_cons (pe_call G_hear_cells hr (by rfl) T.m_hear_cells T.F_hear_cells.kp T.b_hear_cells .nil pass0 (pa_cons (pe_ix ix_tup (pv 0) pe_int (fun _ _ => rfl)) (pa_cons (pe_ix ix_list (pv 1) pe_int (fun _ _ => rfl)) (pa_cons (pv 2) (pa_cons (pv 3) pa_nil))))) pa_nil)))))
        pss_nil)
      (pss_one (ps_ret (pe_lst (pa_cons (pv 4) (pa_cons (pe_ix ix_list (pv 1) pe_int (fun _ _ => rfl)) pa_nil)))))))))), ?_⟩
  (repeat (first
      | refine ifF ?_
      | refine ifT ?_
      | refine ⟨_, rfl, ?_⟩
      | refine ⟨_, _, rfl, rfl, ?_⟩
      | refine Or.inl ⟨_, rfl, ?_⟩
      | refine Or.inr ⟨_, rfl, ?_⟩
      | refine ⟨Or.inl ⟨by decide, by decide⟩, ?_⟩
      | refine ⟨Or.inr ⟨by decide, by decide⟩, ?_⟩
      | refine ⟨⟨by decide, by decide⟩, ?_⟩
      | refine ⟨⟨by decide, by decide, by decide⟩, ?_⟩
      | refine ⟨by decide, ?_⟩
      | refine ⟨(by show (0 : Int) < _; decide), ?_⟩
      | refine ⟨rfl, ?_⟩
      | refine ⟨⟨_, rfl⟩, ?_⟩
      | refine ⟨_, rfl, rfl, trivial, ?_⟩
      | refine ⟨_, _, rfl, ?_⟩))
  refine ⟨p, _, 0, _, rfl, rfl, hT, atI_nat (j := 0) hx0, ?_⟩
  (repeat (first
      | refine ⟨_, rfl, ?_⟩
      | refine ⟨_, _, rfl, rfl, ?_⟩
      | refine Or.inl ⟨_, rfl, ?_⟩
      | refine Or.inr ⟨_, rfl, ?_⟩
      | refine ⟨Or.inl ⟨by decide, by decide⟩, ?_⟩
      | refine ⟨Or.inr ⟨by decide, by decide⟩, ?_⟩
      | refine ⟨⟨by decide, by decide⟩, ?_⟩
      | refine ⟨⟨by decide, by decide, by decide⟩, ?_⟩
      | refine ⟨by decide, ?_⟩
      | refine ⟨(by show (0 : Int) < _; decide), ?_⟩
      | refine ⟨rfl, ?_⟩
      | refine ⟨⟨_, rfl⟩, ?_⟩
      | refine ⟨_, rfl, rfl, trivial, ?_⟩
      | refine ⟨_, _, rfl, ?_⟩))
  refine fun t4 ht4 => ?_
  have r4 : L2.Same H (upd H t4 (.tup [.str "since", .str "among"])) := same_upd ht4
  refine ⟨t4, _, rfl, .inr (SqT.of upd_same), rfl, rfl, ?_⟩
  have m4 : (if true = true then !inV (V.str (word q)) ([("since" : Str), ("among" : Str)].map V.str) else inV (V.str (word q)) ([("since" : Str), ("among" : Str)].map V.str)) = !decide (word q ∈ (["since", "among"] : List Str)) := by
    rw [if_pos rfl, in_strs]
  refine ⟨_, congrArg V.bl m4, ?_⟩
  have s4 := r4
  generalize upd H t4 (.tup [.str "since", .str "among"]) = H4 at r4 s4 ⊢
  have hbl4 := s4 _ _ hbl
  have hd4 := Dp.same s4 hd
  refine ite_b (fun c4 => ?_) (fun c4 => ?_)
  · have c4' : ¬ word q ∈ (["since", "among"] : List Str) := by
      intro z
      rw [decide_eq_true z] at c4
      cases c4
    have n1 : word q ≠ "since" := fun e => c4' (by rw [e]; simp)
    have n2 : word q ≠ "among" := fun e => c4' (by rw [e]; simp)
    rw [heard_get n1 n2] at k
    (repeat (first
      | refine ifF ?_
      | refine ifT ?_
      | refine ⟨_, rfl, ?_⟩
      | refine ⟨_, _, rfl, rfl, ?_⟩
      | refine Or.inl ⟨_, rfl, ?_⟩
      | refine Or.inr ⟨_, rfl, ?_⟩
      | refine ⟨Or.inl ⟨by decide, by decide⟩, ?_⟩
      | refine ⟨Or.inr ⟨by decide, by decide⟩, ?_⟩
      | refine ⟨⟨by decide, by decide⟩, ?_⟩
      | refine ⟨⟨by decide, by decide, by decide⟩, ?_⟩
      | refine ⟨by decide, ?_⟩
      | refine ⟨(by show (0 : Int) < _; decide), ?_⟩
      | refine ⟨rfl, ?_⟩
      | refine ⟨⟨_, rfl⟩, ?_⟩
      | refine ⟨_, rfl, rfl, trivial, ?_⟩
      | refine ⟨_, _, rfl, ?_⟩))
    refine ⟨p, q, rfl, hd4, hk, fun D0 qs H5 s5 hD0 hQ => ?_⟩
    have lqs := DpAll.len hQ
    rw [List.length_map] at lqs
    (repeat (first
      | refine ifF ?_
      | refine ifT ?_
      | refine ⟨_, rfl, ?_⟩
      | refine ⟨_, _, rfl, rfl, ?_⟩
      | refine Or.inl ⟨_, rfl, ?_⟩
      | refine Or.inr ⟨_, rfl, ?_⟩
      | refine ⟨Or.inl ⟨by decide, by decide⟩, ?_⟩
      | refine ⟨Or.inr ⟨by decide, by decide⟩, ?_⟩
      | refine ⟨⟨by decide, by decide⟩, ?_⟩
      | refine ⟨⟨by decide, by decide, by decide⟩, ?_⟩
      | refine ⟨by decide, ?_⟩
      | refine ⟨(by show (0 : Int) < _; decide), ?_⟩
      | refine ⟨rfl, ?_⟩
      | refine ⟨⟨_, rfl⟩, ?_⟩
      | refine ⟨_, rfl, rfl, trivial, ?_⟩
      | refine ⟨_, _, rfl, ?_⟩))
    (repeat (first
      | refine ifF ?_
      | refine ifT ?_
      | refine ⟨_, rfl, ?_⟩
      | refine ⟨_, _, rfl, rfl, ?_⟩
      | refine Or.inl ⟨_, rfl, ?_⟩
      | refine Or.inr ⟨_, rfl, ?_⟩
      | refine ⟨Or.inl ⟨by decide, by decide⟩, ?_⟩
      | refine ⟨Or.inr ⟨by decide, by decide⟩, ?_⟩
      | refine ⟨⟨by decide, by decide⟩, ?_⟩
      | refine ⟨⟨by decide, by decide, by decide⟩, ?_⟩
      | refine ⟨by decide, ?_⟩
      | refine ⟨(by show (0 : Int) < _; decide), ?_⟩
      | refine ⟨rfl, ?_⟩
      | refine ⟨⟨_, rfl⟩, ?_⟩
      | refine ⟨_, rfl, rfl, trivial, ?_⟩
      | refine ⟨_, _, rfl, ?_⟩))
    have hbl5 := s5 _ _ hbl4
    refine ⟨D0, bl, qs, ps.map V.ref, rfl, SqL.of hD0, SqL.of hbl5, fun L hL0 => ?_⟩
    have s45 := s4.trans s5
    have smL : L2.Same H5 (upd H5 L (.lst [])) := same_upd hL0
    have hps5 : Paired (TC K H5) ps (belowC (kids q) cs 1) := pmono (fun _ _ h => h.same s45) hps
    have lb := belowC_len (kids q) cs 1
    refine lc_zipL (xs := qs) (ys := ps.map V.ref) (by rw [List.length_map]; omega) (fun i H' => ∃ zs : List Addr, L2.Same H5 H' ∧ H' L = some (.lst (zs.map V.ref)) ∧ Paired (fun p' c' => p' ≠ L ∧ TC K H' p' c') zs ((((kids q).zip (belowC (kids q) cs 1)).map fun p => hearC p.1 p.2 nm x).take i)) ?_ ?_ ?_ ?_
    · exact ⟨[], smL, upd_same, .nil⟩
    · rintro i H' ⟨zs, sm, hLl, hlp⟩
      exact ⟨SqL.of (sm _ _ hD0), SqL.of (sm _ _ hbl5)⟩
    · rintro H' ⟨zs, sm, hLl, hlp⟩
      rw [List.take_of_length_le (by rw [List.length_map, List.length_zip]; omega)] at hlp
      exact k L zs H' (s45.trans sm) (none_of s45 hL0) hLl (pmono (fun _ _ h => h.2) hlp)
    · rintro i H' y z Z hy hzz ⟨zs, sm, hLl, hlp⟩ hZ
      have sZ : L2.Same H' (upd H' Z (.tup [y, z])) := same_upd hZ
      have hZ0 : (upd H' Z (.tup [y, z])) Z = some (.tup [y, z]) := upd_same
      have hL6 := sZ _ _ hLl
      have hlp6 := pmono (fun p' c' (h : p' ≠ L ∧ TC K H' p' c') => (⟨h.1, h.2.same sZ⟩ : p' ≠ L ∧ TC K _ p' c')) hlp
      have sm6 := sm.trans sZ
      generalize upd H' Z (.tup [y, z]) = H6 at hZ0 hL6 hlp6 sm6 ⊢
      obtain ⟨d, hdi, px⟩ := DpAll.at2 hQ hy
      rw [List.getElem?_map] at hdi
      obtain ⟨a, ha, rfl⟩ : ∃ a, (kids q)[i]? = some a ∧ qt a = d := by
        cases e : (kids q)[i]? with
        | none => rw [e] at hdi; cases hdi
        | some a => rw [e] at hdi; exact ⟨a, rfl, Option.some.inj hdi⟩
      have ham := List.mem_of_getElem? ha
      have hsz := kids_sz ham
      obtain ⟨pa, rfl⟩ := dp_ref px (qt_isT a)
      obtain ⟨pz, rfl, hpz⟩ := ref_at hzz
      obtain ⟨c, hc, tc⟩ := pget hps5 hpz
      have llp := Paired.length hlp6
      rw [List.length_take, List.length_map, List.length_zip] at llp
      refine ⟨Z, _, rfl, SqT.of hZ0, rfl, ?_⟩
      (repeat (first
      | refine ifF ?_
      | refine ifT ?_
      | refine ⟨_, rfl, ?_⟩
      | refine ⟨_, _, rfl, rfl, ?_⟩
      | refine Or.inl ⟨_, rfl, ?_⟩
      | refine Or.inr ⟨_, rfl, ?_⟩
      | refine ⟨Or.inl ⟨by decide, by decide⟩, ?_⟩
      | refine ⟨Or.inr ⟨by decide, by decide⟩, ?_⟩
      | refine ⟨⟨by decide, by decide⟩, ?_⟩
      | refine ⟨⟨by decide, by decide, by decide⟩, ?_⟩
      | refine ⟨by decide, ?_⟩
      | refine ⟨(by show (0 : Int) < _; decide), ?_⟩
      | refine ⟨rfl, ?_⟩
      | refine ⟨⟨_, rfl⟩, ?_⟩
      | refine ⟨_, rfl, rfl, trivial, ?_⟩
      | refine ⟨_, _, rfl, ?_⟩))
      refine ⟨pa, pz, np, a, c, nm, x, rfl, Dp.same sm6 px, kids_ok hk ham, by omega, by omega, (tc.same sm6).s, below_ok hco ha hc, Nm.same (s45.trans sm6) hx, hg, fun E' es H7 s7 hE0 hE hPe => ?_⟩
      have hL7 := s7 _ _ hL6
      have hEL : E' ≠ L := fun z => by rw [z, hL6] at hE0; cases hE0
      refine ⟨_, hL7, smallL (by rw [List.length_map]; omega), zs ++ [E'], same_upd2 hL0 (sm6.trans s7), by rw [List.map_append]; exact upd_same, ?_⟩
      have tk : ((((kids q).zip (belowC (kids q) cs 1)).map fun p => hearC p.1 p.2 nm x).take (i + 1)) = ((((kids q).zip (belowC (kids q) cs 1)).map fun p => hearC p.1 p.2 nm x).take i) ++ [hearC a c nm x] := by
        have ez : ((kids q).zip (belowC (kids q) cs 1))[i]? = some (a, c) := List.getElem?_zip_eq_some.mpr ⟨ha, hc⟩
        rw [List.take_succ, List.getElem?_map, ez]
        rfl
      rw [tk]
      exact papp (pmono (R := fun p' c' => p' ≠ L ∧ TC K H6 p' c') (fun p' c' h => ⟨h.1, TC.upd hL7 h.1 (h.2.same s7)⟩) hlp6) (.cons ⟨hEL, TC.upd hL7 hEL ⟨es, hE, hPe⟩⟩ .nil)
  · have c4' : word q ∈ (["since", "among"] : List Str) := by
      cases e : decide (word q ∈ (["since", "among"] : List Str)) with
      | false => rw [e] at c4; exact absurd c4 (by decide)
      | true => exact of_decide_eq_true e
    obtain ⟨sb, a, b, ew, ek, ef, hka, hkb, hca, hcb, eh⟩ : ∃ (sb : Bool) (a b : Qn), word q = (if sb then "since" else "among" : Str) ∧ kids q = [a, b] ∧ flds q = [] ∧ Qk a ∧ Qk b ∧ CellsOk a (sl cs 1 (qsz a)) ∧ CellsOk b (sl cs (1 + qsz a) (qsz b)) ∧ heardC q cs nm x = [hearC a (sl cs 1 (qsz a)) nm x, if (sb && (hdO (hearC a (sl cs 1 (qsz a)) nm x)).isSome) = true then List.replicate (qsz b) cell0 else if ((hdO (hearC a (sl cs 1 (qsz a)) nm x)).isSome || sb) = true then hearC b (sl cs (1 + qsz a) (qsz b)) nm x else sl cs (1 + qsz a) (qsz b)] := by
      simp only [List.mem_cons, List.not_mem_nil, or_false] at c4'
      rcases c4' with c | c
      · obtain ⟨a, b, rfl⟩ := word_since c
        refine ⟨true, a, b, rfl, rfl, rfl, hk.1, hk.2, hco.2.2.1, hco.2.2.2, ?_⟩
        cases e : (hdO (hearC a (sl cs 1 (qsz a)) nm x)).isSome <;> simp [heardC, e]
      · obtain ⟨a, b, rfl⟩ := word_among c
        refine ⟨false, a, b, rfl, rfl, rfl, hk.1, hk.2, hco.2.2.1, hco.2.2.2, ?_⟩
        cases e : (hdO (hearC a (sl cs 1 (qsz a)) nm x)).isSome <;> simp [heardC, e]
    have hqz := qsz_kids q
    rw [ek] at hqz hps lps
    have hza : qsz a + qsz b + 1 = qsz q := by simp at hqz; omega
    rw [ef, ek] at hA
    rw [eh] at k
    obtain ⟨pa, pb, etx, da, db⟩ : ∃ pa pb, txs = [.str (word q), .ref pa, .ref pb] ∧ Dp K H (.ref pa) (qt a) ∧ Dp K H (.ref pb) (qt b) := by
      cases hA with
      | cons h0 r =>
        cases r with
        | cons h1 r =>
          cases r with
          | cons h2 r =>
            cases r
            obtain ⟨pa, rfl⟩ := dp_ref h1 (qt_isT a)
            obtain ⟨pb, rfl⟩ := dp_ref h2 (qt_isT b)
            cases h0
            exact ⟨pa, pb, rfl, h1, h2⟩
    subst etx
    obtain ⟨p0, p1, rfl, tc0, tc1⟩ : ∃ p0 p1, ps = [p0, p1] ∧ TC K H p0 (sl cs 1 (qsz a)) ∧ TC K H p1 (sl cs (1 + qsz a) (qsz b)) := by
      cases hps with
      | cons h0 r =>
        cases r with
        | cons h1 r =>
          cases r
          exact ⟨_, _, rfl, h0, h1⟩
    have hT4 := My.Same.sqT s4 hT
    (repeat (first
      | refine ifF ?_
      | refine ifT ?_
      | refine ⟨_, rfl, ?_⟩
      | refine ⟨_, _, rfl, rfl, ?_⟩
      | refine Or.inl ⟨_, rfl, ?_⟩
      | refine Or.inr ⟨_, rfl, ?_⟩
      | refine ⟨Or.inl ⟨by decide, by decide⟩, ?_⟩
      | refine ⟨Or.inr ⟨by decide, by decide⟩, ?_⟩
      | refine ⟨⟨by decide, by decide⟩, ?_⟩
      | refine ⟨⟨by decide, by decide, by decide⟩, ?_⟩
      | refine ⟨by decide, ?_⟩
      | refine ⟨(by show (0 : Int) < _; decide), ?_⟩
      | refine ⟨rfl, ?_⟩
      | refine ⟨⟨_, rfl⟩, ?_⟩
      | refine ⟨_, rfl, rfl, trivial, ?_⟩
      | refine ⟨_, _, rfl, ?_⟩))
    refine ⟨p, _, 1, _, rfl, rfl, hT4, atI_nat (j := 1) rfl, ?_⟩
    (repeat (first
      | refine ifF ?_
      | refine ifT ?_
      | refine ⟨_, rfl, ?_⟩
      | refine ⟨_, _, rfl, rfl, ?_⟩
      | refine Or.inl ⟨_, rfl, ?_⟩
      | refine Or.inr ⟨_, rfl, ?_⟩
      | refine ⟨Or.inl ⟨by decide, by decide⟩, ?_⟩
      | refine ⟨Or.inr ⟨by decide, by decide⟩, ?_⟩
      | refine ⟨⟨by decide, by decide⟩, ?_⟩
      | refine ⟨⟨by decide, by decide, by decide⟩, ?_⟩
      | refine ⟨by decide, ?_⟩
      | refine ⟨(by show (0 : Int) < _; decide), ?_⟩
      | refine ⟨rfl, ?_⟩
      | refine ⟨⟨_, rfl⟩, ?_⟩
      | refine ⟨_, rfl, rfl, trivial, ?_⟩
      | refine ⟨_, _, rfl, ?_⟩))
    refine ⟨bl, _, 0, _, rfl, rfl, SqL.of hbl4, atI_nat (j := 0) rfl, ?_⟩
    (repeat (first
      | refine ifF ?_
      | refine ifT ?_
      | refine ⟨_, rfl, ?_⟩
      | refine ⟨_, _, rfl, rfl, ?_⟩
      | refine Or.inl ⟨_, rfl, ?_⟩
      | refine Or.inr ⟨_, rfl, ?_⟩
      | refine ⟨Or.inl ⟨by decide, by decide⟩, ?_⟩
      | refine ⟨Or.inr ⟨by decide, by decide⟩, ?_⟩
      | refine ⟨⟨by decide, by decide⟩, ?_⟩
      | refine ⟨⟨by decide, by decide, by decide⟩, ?_⟩
      | refine ⟨by decide, ?_⟩
      | refine ⟨(by show (0 : Int) < _; decide), ?_⟩
      | refine ⟨rfl, ?_⟩
      | refine ⟨⟨_, rfl⟩, ?_⟩
      | refine ⟨_, rfl, rfl, trivial, ?_⟩
      | refine ⟨_, _, rfl, ?_⟩))
    refine ⟨pa, p0, np, a, _, nm, x, rfl, Dp.same s4 da, hka, by omega, by omega, (tc0.same s4).s, hca, Nm.same s4 hx, hg, fun A' es H5 s5 hA0 hAl hPe => ?_⟩
    have hAok := hear_ok hka hca (nm := nm) hg
    generalize hearC a (sl cs 1 (qsz a)) nm x = A at hAok hPe k eh
    have lA := hAok.len
    have hpa := qsz_pos a
    obtain ⟨v0, hv0, cv0⟩ := pget3 hPe (i := 0) (by omega)
    have ehd : A[0] = A.headD cell0 := by
      cases A with
      | nil => exact absurd lA (by simp; omega)
      | cons _ _ => rfl
    rw [ehd] at cv0
    obtain ⟨q0, hq0, u0, rfl, hq0T, hq0u, hq0A⟩ := cv0
    have s45 := s4.trans s5
    have eo : (A.headD cell0).1 = hdO A := rfl
    rw [eo] at hq0u
    have hT5 := My.Same.sqT s5 hT4
    have hbl5 := s5 _ _ hbl4
    have tcA : TC K H5 A' A := ⟨es, hAl, hPe⟩
    have fin : ∀ (E' : Addr) (B : List Cell) (H7 : Hp), L2.Same H5 H7 → TC K H7 E' B → NewCC K H [A, B] Q → ∀ r, H7 r = none → Q (.ref r) (upd H7 r (.lst [.ref A', .ref E'])) := fun E' B H7 s7 tB k' r hr0 => by
      have sr : L2.Same H7 (upd H7 r (.lst [.ref A', .ref E'])) := same_upd hr0
      exact k' r [A', E'] _ ((s45.trans s7).trans sr) (none_of (s45.trans s7) hr0) upd_same (.cons ((tcA.same s7).same sr) (.cons (tB.same sr) .nil))
    (repeat (first
      | refine ifF ?_
      | refine ifT ?_
      | refine ⟨_, rfl, ?_⟩
      | refine ⟨_, _, rfl, rfl, ?_⟩
      | refine Or.inl ⟨_, rfl, ?_⟩
      | refine Or.inr ⟨_, rfl, ?_⟩
      | refine ⟨Or.inl ⟨by decide, by decide⟩, ?_⟩
      | refine ⟨Or.inr ⟨by decide, by decide⟩, ?_⟩
      | refine ⟨⟨by decide, by decide⟩, ?_⟩
      | refine ⟨⟨by decide, by decide, by decide⟩, ?_⟩
      | refine ⟨by decide, ?_⟩
      | refine ⟨(by show (0 : Int) < _; decide), ?_⟩
      | refine ⟨rfl, ?_⟩
      | refine ⟨⟨_, rfl⟩, ?_⟩
      | refine ⟨_, rfl, rfl, trivial, ?_⟩
      | refine ⟨_, _, rfl, ?_⟩))
    refine ⟨A', _, 0, _, rfl, rfl, SqL.of hAl, atI_nat (j := 0) hv0, ?_⟩
    (repeat (first
      | refine ifF ?_
      | refine ifT ?_
      | refine ⟨_, rfl, ?_⟩
      | refine ⟨_, _, rfl, rfl, ?_⟩
      | refine Or.inl ⟨_, rfl, ?_⟩
      | refine Or.inr ⟨_, rfl, ?_⟩
      | refine ⟨Or.inl ⟨by decide, by decide⟩, ?_⟩
      | refine ⟨Or.inr ⟨by decide, by decide⟩, ?_⟩
      | refine ⟨⟨by decide, by decide⟩, ?_⟩
      | refine ⟨⟨by decide, by decide, by decide⟩, ?_⟩
      | refine ⟨by decide, ?_⟩
      | refine ⟨(by show (0 : Int) < _; decide), ?_⟩
      | refine ⟨rfl, ?_⟩
      | refine ⟨⟨_, rfl⟩, ?_⟩
      | refine ⟨_, rfl, rfl, trivial, ?_⟩
      | refine ⟨_, _, rfl, ?_⟩))
    refine ⟨q0, _, 0, _, rfl, rfl, hq0T, atI_nat (j := 0) rfl, ?_⟩
    cases ho : hdO A with
    | none =>
      rw [ho] at hq0u k
      have eu : u0 = .non := hq0u
      subst eu
      (repeat (first
      | refine ifF ?_
      | refine ifT ?_
      | refine ⟨_, rfl, ?_⟩
      | refine ⟨_, _, rfl, rfl, ?_⟩
      | refine Or.inl ⟨_, rfl, ?_⟩
      | refine Or.inr ⟨_, rfl, ?_⟩
      | refine ⟨Or.inl ⟨by decide, by decide⟩, ?_⟩
      | refine ⟨Or.inr ⟨by decide, by decide⟩, ?_⟩
      | refine ⟨⟨by decide, by decide⟩, ?_⟩
      | refine ⟨⟨by decide, by decide, by decide⟩, ?_⟩
      | refine ⟨by decide, ?_⟩
      | refine ⟨(by show (0 : Int) < _; decide), ?_⟩
      | refine ⟨rfl, ?_⟩
      | refine ⟨⟨_, rfl⟩, ?_⟩
      | refine ⟨_, rfl, rfl, trivial, ?_⟩
      | refine ⟨_, _, rfl, ?_⟩))
      refine ⟨p, _, 0, _, rfl, rfl, hT5, atI_nat (j := 0) rfl, ?_⟩
      cases sb with
      | true =>
        rw [show word q = "since" from ew]
        (repeat (first
      | refine ifF ?_
      | refine ifT ?_
      | refine ⟨_, rfl, ?_⟩
      | refine ⟨_, _, rfl, rfl, ?_⟩
      | refine Or.inl ⟨_, rfl, ?_⟩
      | refine Or.inr ⟨_, rfl, ?_⟩
      | refine ⟨Or.inl ⟨by decide, by decide⟩, ?_⟩
      | refine ⟨Or.inr ⟨by decide, by decide⟩, ?_⟩
      | refine ⟨⟨by decide, by decide⟩, ?_⟩
      | refine ⟨⟨by decide, by decide, by decide⟩, ?_⟩
      | refine ⟨by decide, ?_⟩
      | refine ⟨(by show (0 : Int) < _; decide), ?_⟩
      | refine ⟨rfl, ?_⟩
      | refine ⟨⟨_, rfl⟩, ?_⟩
      | refine ⟨_, rfl, rfl, trivial, ?_⟩
      | refine ⟨_, _, rfl, ?_⟩))
        refine ⟨p, _, 2, _, rfl, rfl, hT5, atI_nat (j := 2) rfl, ?_⟩
        (repeat (first
      | refine ifF ?_
      | refine ifT ?_
      | refine ⟨_, rfl, ?_⟩
      | refine ⟨_, _, rfl, rfl, ?_⟩
      | refine Or.inl ⟨_, rfl, ?_⟩
      | refine Or.inr ⟨_, rfl, ?_⟩
      | refine ⟨Or.inl ⟨by decide, by decide⟩, ?_⟩
      | refine ⟨Or.inr ⟨by decide, by decide⟩, ?_⟩
      | refine ⟨⟨by decide, by decide⟩, ?_⟩
      | refine ⟨⟨by decide, by decide, by decide⟩, ?_⟩
      | refine ⟨by decide, ?_⟩
      | refine ⟨(by show (0 : Int) < _; decide), ?_⟩
      | refine ⟨rfl, ?_⟩
      | refine ⟨⟨_, rfl⟩, ?_⟩
      | refine ⟨_, rfl, rfl, trivial, ?_⟩
      | refine ⟨_, _, rfl, ?_⟩))
        refine ⟨bl, _, 1, _, rfl, rfl, SqL.of hbl5, atI_nat (j := 1) rfl, ?_⟩
        (repeat (first
      | refine ifF ?_
      | refine ifT ?_
      | refine ⟨_, rfl, ?_⟩
      | refine ⟨_, _, rfl, rfl, ?_⟩
      | refine Or.inl ⟨_, rfl, ?_⟩
      | refine Or.inr ⟨_, rfl, ?_⟩
      | refine ⟨Or.inl ⟨by decide, by decide⟩, ?_⟩
      | refine ⟨Or.inr ⟨by decide, by decide⟩, ?_⟩
      | refine ⟨⟨by decide, by decide⟩, ?_⟩
      | refine ⟨⟨by decide, by decide, by decide⟩, ?_⟩
      | refine ⟨by decide, ?_⟩
      | refine ⟨(by show (0 : Int) < _; decide), ?_⟩
      | refine ⟨rfl, ?_⟩
      | refine ⟨⟨_, rfl⟩, ?_⟩
      | refine ⟨_, rfl, rfl, trivial, ?_⟩
      | refine ⟨_, _, rfl, ?_⟩))
        refine ⟨pb, p1, np, b, _, nm, x, rfl, Dp.same s45 db, hkb, by omega, by omega, (tc1.same s45).s, hcb, Nm.same s45 hx, hg, fun E' es2 H7 s7 hE0 hE hPe2 => ?_⟩
        (repeat (first
      | refine ifF ?_
      | refine ifT ?_
      | refine ⟨_, rfl, ?_⟩
      | refine ⟨_, _, rfl, rfl, ?_⟩
      | refine Or.inl ⟨_, rfl, ?_⟩
      | refine Or.inr ⟨_, rfl, ?_⟩
      | refine ⟨Or.inl ⟨by decide, by decide⟩, ?_⟩
      | refine ⟨Or.inr ⟨by decide, by decide⟩, ?_⟩
      | refine ⟨⟨by decide, by decide⟩, ?_⟩
      | refine ⟨⟨by decide, by decide, by decide⟩, ?_⟩
      | refine ⟨by decide, ?_⟩
      | refine ⟨(by show (0 : Int) < _; decide), ?_⟩
      | refine ⟨rfl, ?_⟩
      | refine ⟨⟨_, rfl⟩, ?_⟩
      | refine ⟨_, rfl, rfl, trivial, ?_⟩
      | refine ⟨_, _, rfl, ?_⟩))
        refine ⟨by show 2 ≤ sizeLine; decide, fun r hr => fin E' _ H7 s7 ⟨es2, hE, hPe2⟩ k r hr⟩
      | false =>
        rw [show word q = "among" from ew]
        (repeat (first
      | refine ifF ?_
      | refine ifT ?_
      | refine ⟨_, rfl, ?_⟩
      | refine ⟨_, _, rfl, rfl, ?_⟩
      | refine Or.inl ⟨_, rfl, ?_⟩
      | refine Or.inr ⟨_, rfl, ?_⟩
      | refine ⟨Or.inl ⟨by decide, by decide⟩, ?_⟩
      | refine ⟨Or.inr ⟨by decide, by decide⟩, ?_⟩
      | refine ⟨⟨by decide, by decide⟩, ?_⟩
      | refine ⟨⟨by decide, by decide, by decide⟩, ?_⟩
      | refine ⟨by decide, ?_⟩
      | refine ⟨(by show (0 : Int) < _; decide), ?_⟩
      | refine ⟨rfl, ?_⟩
      | refine ⟨⟨_, rfl⟩, ?_⟩
      | refine ⟨_, rfl, rfl, trivial, ?_⟩
      | refine ⟨_, _, rfl, ?_⟩))
        refine ⟨bl, _, 1, _, rfl, rfl, SqL.of hbl5, atI_nat (j := 1) rfl, ?_⟩
        (repeat (first
      | refine ifF ?_
      | refine ifT ?_
      | refine ⟨_, rfl, ?_⟩
      | refine ⟨_, _, rfl, rfl, ?_⟩
      | refine Or.inl ⟨_, rfl, ?_⟩
      | refine Or.inr ⟨_, rfl, ?_⟩
      | refine ⟨Or.inl ⟨by decide, by decide⟩, ?_⟩
      | refine ⟨Or.inr ⟨by decide, by decide⟩, ?_⟩
      | refine ⟨⟨by decide, by decide⟩, ?_⟩
      | refine ⟨⟨by decide, by decide, by decide⟩, ?_⟩
      | refine ⟨by decide, ?_⟩
      | refine ⟨(by show (0 : Int) < _; decide), ?_⟩
      | refine ⟨rfl, ?_⟩
      | refine ⟨⟨_, rfl⟩, ?_⟩
      | refine ⟨_, rfl, rfl, trivial, ?_⟩
      | refine ⟨_, _, rfl, ?_⟩))
        refine ⟨by show 2 ≤ sizeLine; decide, fun r hr => fin p1 _ H5 (.refl H5) (tc1.same s45) k r hr⟩
    | some y =>
      rw [ho] at hq0u k
      obtain ⟨py, rfl, ny⟩ := hq0u
      (repeat (first
      | refine ifF ?_
      | refine ifT ?_
      | refine ⟨_, rfl, ?_⟩
      | refine ⟨_, _, rfl, rfl, ?_⟩
      | refine Or.inl ⟨_, rfl, ?_⟩
      | refine Or.inr ⟨_, rfl, ?_⟩
      | refine ⟨Or.inl ⟨by decide, by decide⟩, ?_⟩
      | refine ⟨Or.inr ⟨by decide, by decide⟩, ?_⟩
      | refine ⟨⟨by decide, by decide⟩, ?_⟩
      | refine ⟨⟨by decide, by decide, by decide⟩, ?_⟩
      | refine ⟨by decide, ?_⟩
      | refine ⟨(by show (0 : Int) < _; decide), ?_⟩
      | refine ⟨rfl, ?_⟩
      | refine ⟨⟨_, rfl⟩, ?_⟩
      | refine ⟨_, rfl, rfl, trivial, ?_⟩
      | refine ⟨_, _, rfl, ?_⟩))
      refine ⟨p, _, 0, _, rfl, rfl, hT5, atI_nat (j := 0) rfl, ?_⟩
      cases sb with
      | true =>
        rw [show word q = "since" from ew]
        (repeat (first
      | refine ifF ?_
      | refine ifT ?_
      | refine ⟨_, rfl, ?_⟩
      | refine ⟨_, _, rfl, rfl, ?_⟩
      | refine Or.inl ⟨_, rfl, ?_⟩
      | refine Or.inr ⟨_, rfl, ?_⟩
      | refine ⟨Or.inl ⟨by decide, by decide⟩, ?_⟩
      | refine ⟨Or.inr ⟨by decide, by decide⟩, ?_⟩
      | refine ⟨⟨by decide, by decide⟩, ?_⟩
      | refine ⟨⟨by decide, by decide, by decide⟩, ?_⟩
      | refine ⟨by decide, ?_⟩
      | refine ⟨(by show (0 : Int) < _; decide), ?_⟩
      | refine ⟨rfl, ?_⟩
      | refine ⟨⟨_, rfl⟩, ?_⟩
      | refine ⟨_, rfl, rfl, trivial, ?_⟩
      | refine ⟨_, _, rfl, ?_⟩))
        refine ⟨p, _, 2, _, rfl, rfl, hT5, atI_nat (j := 2) rfl, ?_⟩
        (repeat (first
      | refine ifF ?_
      | refine ifT ?_
      | refine ⟨_, rfl, ?_⟩
      | refine ⟨_, _, rfl, rfl, ?_⟩
      | refine Or.inl ⟨_, rfl, ?_⟩
      | refine Or.inr ⟨_, rfl, ?_⟩
      | refine ⟨Or.inl ⟨by decide, by decide⟩, ?_⟩
      | refine ⟨Or.inr ⟨by decide, by decide⟩, ?_⟩
      | refine ⟨⟨by decide, by decide⟩, ?_⟩
      | refine ⟨⟨by decide, by decide, by decide⟩, ?_⟩
      | refine ⟨by decide, ?_⟩
      | refine ⟨(by show (0 : Int) < _; decide), ?_⟩
      | refine ⟨rfl, ?_⟩
      | refine ⟨⟨_, rfl⟩, ?_⟩
      | refine ⟨_, rfl, rfl, trivial, ?_⟩
      | refine ⟨_, _, rfl, ?_⟩))
        refine ⟨pb, b, rfl, Dp.same s45 db, hkb, by omega, fun E' es2 H7 s7 hE0 hE hPe2 => ?_⟩
        (repeat (first
      | refine ifF ?_
      | refine ifT ?_
      | refine ⟨_, rfl, ?_⟩
      | refine ⟨_, _, rfl, rfl, ?_⟩
      | refine Or.inl ⟨_, rfl, ?_⟩
      | refine Or.inr ⟨_, rfl, ?_⟩
      | refine ⟨Or.inl ⟨by decide, by decide⟩, ?_⟩
      | refine ⟨Or.inr ⟨by decide, by decide⟩, ?_⟩
      | refine ⟨⟨by decide, by decide⟩, ?_⟩
      | refine ⟨⟨by decide, by decide, by decide⟩, ?_⟩
      | refine ⟨by decide, ?_⟩
      | refine ⟨(by show (0 : Int) < _; decide), ?_⟩
      | refine ⟨rfl, ?_⟩
      | refine ⟨⟨_, rfl⟩, ?_⟩
      | refine ⟨_, rfl, rfl, trivial, ?_⟩
      | refine ⟨_, _, rfl, ?_⟩))
        refine ⟨by show 2 ≤ sizeLine; decide, fun r hr => fin E' _ H7 s7 ⟨es2, hE, hPe2⟩ k r hr⟩
      | false =>
        rw [show word q = "among" from ew]
        (repeat (first
      | refine ifF ?_
      | refine ifT ?_
      | refine ⟨_, rfl, ?_⟩
      | refine ⟨_, _, rfl, rfl, ?_⟩
      | refine Or.inl ⟨_, rfl, ?_⟩
      | refine Or.inr ⟨_, rfl, ?_⟩
      | refine ⟨Or.inl ⟨by decide, by decide⟩, ?_⟩
      | refine ⟨Or.inr ⟨by decide, by decide⟩, ?_⟩
      | refine ⟨⟨by decide, by decide⟩, ?_⟩
      | refine ⟨⟨by decide, by decide, by decide⟩, ?_⟩
      | refine ⟨by decide, ?_⟩
      | refine ⟨(by show (0 : Int) < _; decide), ?_⟩
      | refine ⟨rfl, ?_⟩
      | refine ⟨⟨_, rfl⟩, ?_⟩
      | refine ⟨_, rfl, rfl, trivial, ?_⟩
      | refine ⟨_, _, rfl, ?_⟩))
        refine ⟨p, _, 2, _, rfl, rfl, hT5, atI_nat (j := 2) rfl, ?_⟩
        (repeat (first
      | refine ifF ?_
      | refine ifT ?_
      | refine ⟨_, rfl, ?_⟩
      | refine ⟨_, _, rfl, rfl, ?_⟩
      | refine Or.inl ⟨_, rfl, ?_⟩
      | refine Or.inr ⟨_, rfl, ?_⟩
      | refine ⟨Or.inl ⟨by decide, by decide⟩, ?_⟩
      | refine ⟨Or.inr ⟨by decide, by decide⟩, ?_⟩
      | refine ⟨⟨by decide, by decide⟩, ?_⟩
      | refine ⟨⟨by decide, by decide, by decide⟩, ?_⟩
      | refine ⟨by decide, ?_⟩
      | refine ⟨(by show (0 : Int) < _; decide), ?_⟩
      | refine ⟨rfl, ?_⟩
      | refine ⟨⟨_, rfl⟩, ?_⟩
      | refine ⟨_, rfl, rfl, trivial, ?_⟩
      | refine ⟨_, _, rfl, ?_⟩))
        refine ⟨bl, _, 1, _, rfl, rfl, SqL.of hbl5, atI_nat (j := 1) rfl, ?_⟩
        (repeat (first
      | refine ifF ?_
      | refine ifT ?_
      | refine ⟨_, rfl, ?_⟩
      | refine ⟨_, _, rfl, rfl, ?_⟩
      | refine Or.inl ⟨_, rfl, ?_⟩
      | refine Or.inr ⟨_, rfl, ?_⟩
      | refine ⟨Or.inl ⟨by decide, by decide⟩, ?_⟩
      | refine ⟨Or.inr ⟨by decide, by decide⟩, ?_⟩
      | refine ⟨⟨by decide, by decide⟩, ?_⟩
      | refine ⟨⟨by decide, by decide, by decide⟩, ?_⟩
      | refine ⟨by decide, ?_⟩
      | refine ⟨(by show (0 : Int) < _; decide), ?_⟩
      | refine ⟨rfl, ?_⟩
      | refine ⟨⟨_, rfl⟩, ?_⟩
      | refine ⟨_, rfl, rfl, trivial, ?_⟩
      | refine ⟨_, _, rfl, ?_⟩))
        refine ⟨pb, p1, np, b, _, nm, x, rfl, Dp.same s45 db, hkb, by omega, by omega, (tc1.same s45).s, hcb, Nm.same s45 hx, hg, fun E' es2 H7 s7 hE0 hE hPe2 => ?_⟩
        (repeat (first
      | refine ifF ?_
      | refine ifT ?_
      | refine ⟨_, rfl, ?_⟩
      | refine ⟨_, _, rfl, rfl, ?_⟩
      | refine Or.inl ⟨_, rfl, ?_⟩
      | refine Or.inr ⟨_, rfl, ?_⟩
      | refine ⟨Or.inl ⟨by decide, by decide⟩, ?_⟩
      | refine ⟨Or.inr ⟨by decide, by decide⟩, ?_⟩
      | refine ⟨⟨by decide, by decide⟩, ?_⟩
      | refine ⟨⟨by decide, by decide, by decide⟩, ?_⟩
      | refine ⟨by decide, ?_⟩
      | refine ⟨(by show (0 : Int) < _; decide), ?_⟩
      | refine ⟨rfl, ?_⟩
      | refine ⟨⟨_, rfl⟩, ?_⟩
      | refine ⟨_, rfl, rfl, trivial, ?_⟩
      | refine ⟨_, _, rfl, ?_⟩))
        refine ⟨by show 2 ≤ sizeLine; decide, fun r hr => fin E' _ H7 s7 ⟨es2, hE, hPe2⟩ k r hr⟩
end
end My

namespace My
open PySem PySem.Spec PyProof.Rows L2
theorem flat_take {hs : List (List Cell)} {i : Nat} {c : List Cell} (h : hs[i]? = some c) : (hs.take (i + 1)).flatten = (hs.take i).flatten ++ c := by
  rw [List.take_succ, h, List.flatten_append]
  simp
theorem flat_le : ∀ (hs : List (List Cell)) (i : Nat), (hs.take i).flatten.length ≤ hs.flatten.length
  | [], i => by simp
  | h :: r, 0 => by simp
  | h :: r, i + 1 => by
    have := flat_le r i
    rw [List.take_succ_cons, List.flatten_cons, List.flatten_cons, List.length_append, List.length_append]
    omega
section
variable {P : Program} {w : World} {K : PySem.W.Frag} {mg : Str → Option Value} {base : Heap}
/-! ### hear_cells -/
theorem hear_step (T : Top K mg w) (n k : Nat) (hk5 : 5 ≤ k) (G_hear_below : FnOk P w K mg base CX0 k T.a_hear_below T.d_hear_below ["tree", "below", "name", "number"] (sp_hb K n)) : FnOk P w K mg base CX0 (k + 1) T.a_hear_cells T.d_hear_cells ["tree", "cells", "name", "number"] (sp_hc K n) := by
  have G_cells_below : FnOk P w K mg base CX0 k T.a_cells_below T.d_cells_below ["tree", "cells"] (sp_cb K) := (ok_cells_below T).mono (by omega)
  have G_own_cell : FnOk P w K mg base CX0 k T.a_own_cell T.d_own_cell ["tree", "cells", "told", "name", "number"] (sp_oc K) := (ok_own_cell T).mono (by omega)
  refine T.F_hear_cells.ok sc_hear_cells (fun vs H Q E h => ?_) (fun cdv A outer s H vs Q E hr h => ?_)
  · obtain ⟨p, ca, np, q, cs, nm, x, rfl, _⟩ := h
    rfl
  obtain ⟨p, ca, np, q, cs, nm, x, rfl, hd, hk, hz, hz2, hca, hco, hx, hg, k⟩ := h
  refine ⟨_, (pss_cons (ps_set (i := 4) sc_hear_cells.nd rfl (Or.inl rfl) (pe_call G_hear_below hr (by rfl) T.m_hear_below T.F_hear_below.kp T.b_hear_below .nil pass0 (pa_cons (pv 0) (pa_cons (pe_call G_cells_below hr (by rfl) T.m_cells_below T.F_cells_below.kp T.b_cells_below .nil pass0 (pa_cons (pv 0) (pa_cons (pv 1) pa_nil))) (pa_cons (pv 2) (pa_cons (pv 3) pa_nil))))))
      (pss_cons (ps_setLc (i := 6) (own := [("part_cells", 5)]) (g := gName 5) (by rfl) sc_hear_cells.nd rfl rfl (sw_true rfl rfl rfl (by decide +kernel)) (pi_list (pv 4)) (blkOk_by (own := [("part_cells", 5)]) (N := ["tree", "cells", "name", "number", "heard", "part_cells", "told", "new"]) (sc := defScope s_hear_cells) (by decide +kernel)) (fun _ _ _ _ _ => (pg_name (i := 5) sc_hear_cells.nd rfl (Or.inl rfl))) (fun _ _ _ _ _ => pts_nil) (fun _ _ _ _ _ => (pe_ix (show IxR _ (rIxT K) from ix_tup) (pe_ix (show IxR _ (rIxL K) from ix_list) (pv 5) pe_int (fun _ _ => rfl)) pe_int (fun _ _ => rfl))))
      (pss_cons (ps_set (i := 7) sc_hear_cells.nd rfl (Or.inl rfl) (pe_lst (pa_cons (pe_call G_own_cell hr (by rfl) T.m_own_cell T.F_own_cell.kp T.b_own_cell .nil pass0 (pa_cons (pv 0) (pa_cons (pv 1) (pa_cons (pv 6) (pa_cons (pv 2) (pa_cons (pv 3) pa_nil)))))) pa_nil)))
      (pss_cons (ps_for PassesOwn.never rfl (pi_list (pv 4)) (pg_name (i := 5) sc_hear_cells.nd rfl (Or.inl rfl))
        (pss_one (ps_expr (pe_bm PySem.F.plainAttrs_list PySem.F.slot_list_extend PySem.F.type_list_extend mt_extend (pv 7) (pa_cons (pv 5) pa_nil)))))
      (pss_one (ps_ret (pv 7))))))), ?_⟩
  have lk : (kids q).length ≤ 3 := by cases q <;> simp [kids]
  have ehq := hear_eq q cs nm x
  have hlen := (hear_ok hk hco (nm := nm) hg).len
  have hhs := heard_ok hk hco (nm := nm) hg
  have lhs := heard_len q cs nm x
  (repeat (first
      | refine ifF ?_
      | refine ifT ?_
      | refine ⟨_, rfl, ?_⟩
      | refine ⟨_, _, rfl, rfl, ?_⟩
      | refine Or.inl ⟨_, rfl, ?_⟩
      | refine Or.inr ⟨_, rfl, ?_⟩
      | refine ⟨Or.inl ⟨by decide, by decide⟩, ?_⟩
      | refine ⟨Or.inr ⟨by decide, by decide⟩, ?_⟩
      | refine ⟨⟨by decide, by decide⟩, ?_⟩
      | refine ⟨⟨by decide, by decide, by decide⟩, ?_⟩
      | refine ⟨by decide, ?_⟩
      | refine ⟨(by show (0 : Int) < _; decide), ?_⟩
      | refine ⟨rfl, ?_⟩
      | refine ⟨⟨_, rfl⟩, ?_⟩
      | refine ⟨_, rfl, rfl, trivial, ?_⟩
      | refine ⟨_, _, rfl, ?_⟩))
  refine ⟨p, ca, q, cs, rfl, hd, hk, hz2, hca, hco.len, fun B ps0 H1 s1 hB0 hB hps0 => ?_⟩
  (repeat (first
      | refine ifF ?_
      | refine ifT ?_
      | refine ⟨_, rfl, ?_⟩
      | refine ⟨_, _, rfl, rfl, ?_⟩
      | refine Or.inl ⟨_, rfl, ?_⟩
      | refine Or.inr ⟨_, rfl, ?_⟩
      | refine ⟨Or.inl ⟨by decide, by decide⟩, ?_⟩
      | refine ⟨Or.inr ⟨by decide, by decide⟩, ?_⟩
      | refine ⟨⟨by decide, by decide⟩, ?_⟩
      | refine ⟨⟨by decide, by decide, by decide⟩, ?_⟩
      | refine ⟨by decide, ?_⟩
      | refine ⟨(by show (0 : Int) < _; decide), ?_⟩
      | refine ⟨rfl, ?_⟩
      | refine ⟨⟨_, rfl⟩, ?_⟩
      | refine ⟨_, rfl, rfl, trivial, ?_⟩
      | refine ⟨_, _, rfl, ?_⟩))
  refine ⟨p, B, np, ps0, q, cs, nm, x, rfl, Dp.same s1 hd, hk, hz, hz2, hB, hps0, hco, Nm.same s1 hx, hg, fun D ps H2 s2 hD0 hD hps => ?_⟩
  have s12 := s1.trans s2
  rw [ehq] at k hlen
  unfold finC at k hlen
  generalize heardC q cs nm x = hs at hhs lhs hps k hlen
  have lps := Paired.length hps
  (repeat (first
      | refine ifF ?_
      | refine ifT ?_
      | refine ⟨_, rfl, ?_⟩
      | refine ⟨_, _, rfl, rfl, ?_⟩
      | refine Or.inl ⟨_, rfl, ?_⟩
      | refine Or.inr ⟨_, rfl, ?_⟩
      | refine ⟨Or.inl ⟨by decide, by decide⟩, ?_⟩
      | refine ⟨Or.inr ⟨by decide, by decide⟩, ?_⟩
      | refine ⟨⟨by decide, by decide⟩, ?_⟩
      | refine ⟨⟨by decide, by decide, by decide⟩, ?_⟩
      | refine ⟨by decide, ?_⟩
      | refine ⟨(by show (0 : Int) < _; decide), ?_⟩
      | refine ⟨rfl, ?_⟩
      | refine ⟨⟨_, rfl⟩, ?_⟩
      | refine ⟨_, rfl, rfl, trivial, ?_⟩
      | refine ⟨_, _, rfl, ?_⟩))
  refine ⟨⟨_, SqL.of hD⟩, fun M hM => ?_⟩
  refine lc_list (xs := ps.map V.ref) (fun j H' => ∃ us, H' = upd H2 M (.lst us) ∧ Paired (Ov K H2) us ((hs.map hdO).take j)) ⟨[], rfl, .nil⟩ ?_ ?_ ?_
  · rintro j H' _ ⟨us, rfl, _⟩
    exact (same_upd hM).seq (SqL.of hD)
  · rintro j y H' hy ⟨us, rfl, hus⟩
    have lus := Paired.length hus
    rw [List.length_take, List.length_map] at lus
    obtain ⟨pj, rfl, hpj⟩ := ref_at hy
    obtain ⟨c, hc, ts, hts, htp⟩ := pget hps hpj
    obtain ⟨a, hca'⟩ := hhs c (List.mem_of_getElem? hc)
    have lc := hca'.len
    have hpa := qsz_pos a
    obtain ⟨v0, hv0, cv0⟩ := pget3 htp (i := 0) (by omega)
    have ehd : (c[0]'(by omega)).1 = hdO c := by
      cases c with
      | nil => exact absurd lc (by simp; omega)
      | cons _ _ => rfl
    obtain ⟨q0, hq0, u0, rfl, hq0T, hq0u, hq0A⟩ := cv0
    rw [ehd] at hq0u
    have su : L2.Same H2 (upd H2 M (.lst us)) := same_upd hM
    refine ⟨rfl, ?_⟩
    (repeat (first
      | refine ifF ?_
      | refine ifT ?_
      | refine ⟨_, rfl, ?_⟩
      | refine ⟨_, _, rfl, rfl, ?_⟩
      | refine Or.inl ⟨_, rfl, ?_⟩
      | refine Or.inr ⟨_, rfl, ?_⟩
      | refine ⟨Or.inl ⟨by decide, by decide⟩, ?_⟩
      | refine ⟨Or.inr ⟨by decide, by decide⟩, ?_⟩
      | refine ⟨⟨by decide, by decide⟩, ?_⟩
      | refine ⟨⟨by decide, by decide, by decide⟩, ?_⟩
      | refine ⟨by decide, ?_⟩
      | refine ⟨(by show (0 : Int) < _; decide), ?_⟩
      | refine ⟨rfl, ?_⟩
      | refine ⟨⟨_, rfl⟩, ?_⟩
      | refine ⟨_, rfl, rfl, trivial, ?_⟩
      | refine ⟨_, _, rfl, ?_⟩))
    refine ⟨pj, _, 0, _, rfl, rfl, su.seq (SqL.of hts), atI_nat (j := 0) hv0, ?_⟩
    (repeat (first
      | refine ifF ?_
      | refine ifT ?_
      | refine ⟨_, rfl, ?_⟩
      | refine ⟨_, _, rfl, rfl, ?_⟩
      | refine Or.inl ⟨_, rfl, ?_⟩
      | refine Or.inr ⟨_, rfl, ?_⟩
      | refine ⟨Or.inl ⟨by decide, by decide⟩, ?_⟩
      | refine ⟨Or.inr ⟨by decide, by decide⟩, ?_⟩
      | refine ⟨⟨by decide, by decide⟩, ?_⟩
      | refine ⟨⟨by decide, by decide, by decide⟩, ?_⟩
      | refine ⟨by decide, ?_⟩
      | refine ⟨(by show (0 : Int) < _; decide), ?_⟩
      | refine ⟨rfl, ?_⟩
      | refine ⟨⟨_, rfl⟩, ?_⟩
      | refine ⟨_, rfl, rfl, trivial, ?_⟩
      | refine ⟨_, _, rfl, ?_⟩))
    refine ⟨q0, _, 0, _, rfl, rfl, My.Same.sqT su hq0T, atI_nat (j := 0) rfl, ?_⟩
    refine ⟨_, upd_same, smallL (by omega), us ++ [u0], upd_upd, ?_⟩
    rw [List.take_succ, List.getElem?_map, hc]
    exact papp hus (.cons hq0u .nil)
  rintro H3 ⟨us, rfl, hus⟩
  rw [List.length_map, lps, ← List.length_map (f := hdO) (as := hs), List.take_length] at hus
  have s3 : L2.Same H2 (upd H2 M (.lst us)) := same_upd hM
  have hM3 : (upd H2 M (.lst us)) M = some (.lst us) := upd_same
  have hD3 := s3 _ _ hD
  have hps3 := pmono (fun _ _ h => TC.same s3 h) hps
  have hus3 := Os.tx (TX.same s3) hus
  have s13 := s12.trans s3
  generalize upd H2 M (.lst us) = H3 at s3 hM3 hD3 hps3 hus3 s13 ⊢
  (repeat (first
      | refine ifF ?_
      | refine ifT ?_
      | refine ⟨_, rfl, ?_⟩
      | refine ⟨_, _, rfl, rfl, ?_⟩
      | refine Or.inl ⟨_, rfl, ?_⟩
      | refine Or.inr ⟨_, rfl, ?_⟩
      | refine ⟨Or.inl ⟨by decide, by decide⟩, ?_⟩
      | refine ⟨Or.inr ⟨by decide, by decide⟩, ?_⟩
      | refine ⟨⟨by decide, by decide⟩, ?_⟩
      | refine ⟨⟨by decide, by decide, by decide⟩, ?_⟩
      | refine ⟨by decide, ?_⟩
      | refine ⟨(by show (0 : Int) < _; decide), ?_⟩
      | refine ⟨rfl, ?_⟩
      | refine ⟨⟨_, rfl⟩, ?_⟩
      | refine ⟨_, rfl, rfl, trivial, ?_⟩
      | refine ⟨_, _, rfl, ?_⟩))
  refine ⟨p, ca, M, np, q, cs, us, hs.map hdO, nm, x, rfl, Dp.same s13 hd, hk, hca.same s13, hco, SqL.of hM3, hus3, by rw [List.length_map]; exact lhs, ?_, Nm.same s13 hx, fun r H4 s4 hr4 => ?_⟩
  · intro y hy
    obtain ⟨c, hc, e⟩ := List.mem_map.mp hy
    obtain ⟨a, ha⟩ := hhs c hc
    exact hdO_ok ha e
  (repeat (first
      | refine ifF ?_
      | refine ifT ?_
      | refine ⟨_, rfl, ?_⟩
      | refine ⟨_, _, rfl, rfl, ?_⟩
      | refine Or.inl ⟨_, rfl, ?_⟩
      | refine Or.inr ⟨_, rfl, ?_⟩
      | refine ⟨Or.inl ⟨by decide, by decide⟩, ?_⟩
      | refine ⟨Or.inr ⟨by decide, by decide⟩, ?_⟩
      | refine ⟨⟨by decide, by decide⟩, ?_⟩
      | refine ⟨⟨by decide, by decide, by decide⟩, ?_⟩
      | refine ⟨by decide, ?_⟩
      | refine ⟨(by show (0 : Int) < _; decide), ?_⟩
      | refine ⟨rfl, ?_⟩
      | refine ⟨⟨_, rfl⟩, ?_⟩
      | refine ⟨_, rfl, rfl, trivial, ?_⟩
      | refine ⟨_, _, rfl, ?_⟩))
  refine ⟨by show 1 ≤ sizeLine; decide, fun N hN => ?_⟩
  have s14 := s13.trans s4
  have hD4 := s4 _ _ hD3
  have hNH := none_of s14 hN
  have s5 : L2.Same H4 (upd H4 N (.lst [.ref r])) := same_upd hN
  have hN5 : (upd H4 N (.lst [.ref r])) N = some (.lst [.ref r]) := upd_same
  have hD5 := s5 _ _ hD4
  have hr5 := Cv.tx (TX.same s5) hr4
  have hps4 := pmono (fun _ _ h => TC.same s4 h) hps3
  have hps5 : Paired (fun p' c' => p' ≠ N ∧ TC K (upd H4 N (.lst [.ref r])) p' c') ps hs := pmono (fun p' c' (h : TC K H4 p' c') => ⟨fun e => (by obtain ⟨ts, h1, _⟩ := h; rw [e, hN] at h1; cases h1), h.same s5⟩) hps4
  have s15 := s14.trans s5
  have hDN : D ≠ N := fun e => by rw [e, hN] at hD4; cases hD4
  generalize upd H4 N (.lst [.ref r]) = H5 at s5 hN5 hD5 hr5 hps5 s15 ⊢
  (repeat (first
      | refine ifF ?_
      | refine ifT ?_
      | refine ⟨_, rfl, ?_⟩
      | refine ⟨_, _, rfl, rfl, ?_⟩
      | refine Or.inl ⟨_, rfl, ?_⟩
      | refine Or.inr ⟨_, rfl, ?_⟩
      | refine ⟨Or.inl ⟨by decide, by decide⟩, ?_⟩
      | refine ⟨Or.inr ⟨by decide, by decide⟩, ?_⟩
      | refine ⟨⟨by decide, by decide⟩, ?_⟩
      | refine ⟨⟨by decide, by decide, by decide⟩, ?_⟩
      | refine ⟨by decide, ?_⟩
      | refine ⟨(by show (0 : Int) < _; decide), ?_⟩
      | refine ⟨rfl, ?_⟩
      | refine ⟨⟨_, rfl⟩, ?_⟩
      | refine ⟨_, rfl, rfl, trivial, ?_⟩
      | refine ⟨_, _, rfl, ?_⟩))
  refine ⟨⟨_, SqL.of hD5⟩, for_list (xs := ps.map V.ref) (fun i σ H' => ∃ (ns : List V) (y5 : Option V), σ = [some (.ref p), some (.ref ca), some (.str nm), some (.ref np), some (.ref D), y5, some (.ref M), some (.ref N)] ∧ L2.Same H H' ∧ H' D = some (.lst (ps.map V.ref)) ∧ H' N = some (.lst ns) ∧ Paired (Cv K H') ns (ownC q cs (hs.map hdO) nm x :: (hs.take i).flatten) ∧ Paired (fun p' c' => p' ≠ N ∧ TC K H' p' c') ps hs) ?_ ?_ ?_ ?_⟩
  · exact ⟨[.ref r], _, rfl, s15, hD5, hN5, .cons hr5 .nil, hps5⟩
  · rintro i σ H' _ ⟨ns, y5, rfl, sm, hDl, _⟩
    exact SqL.of hDl
  · rintro i z σ H' hz ⟨ns, y5, rfl, sm, hDl, hNl, hns, hpp⟩
    obtain ⟨pj, rfl, hpj⟩ := ref_at hz
    obtain ⟨c, hc, hjn, ts, hts, htp⟩ := pget hpp hpj
    have lns := Paired.length hns
    have lts := Paired.length htp
    have lfl := flat_le hs (i + 1)
    have efl := flat_take hc
    rw [List.length_cons] at lns hlen
    (repeat (first
      | refine ifF ?_
      | refine ifT ?_
      | refine ⟨_, rfl, ?_⟩
      | refine ⟨_, _, rfl, rfl, ?_⟩
      | refine Or.inl ⟨_, rfl, ?_⟩
      | refine Or.inr ⟨_, rfl, ?_⟩
      | refine ⟨Or.inl ⟨by decide, by decide⟩, ?_⟩
      | refine ⟨Or.inr ⟨by decide, by decide⟩, ?_⟩
      | refine ⟨⟨by decide, by decide⟩, ?_⟩
      | refine ⟨⟨by decide, by decide, by decide⟩, ?_⟩
      | refine ⟨by decide, ?_⟩
      | refine ⟨(by show (0 : Int) < _; decide), ?_⟩
      | refine ⟨rfl, ?_⟩
      | refine ⟨⟨_, rfl⟩, ?_⟩
      | refine ⟨_, rfl, rfl, trivial, ?_⟩
      | refine ⟨_, _, rfl, ?_⟩))
    refine ⟨.inl ⟨rfl, _, SqL.of hNl⟩, ?_⟩
    (repeat (first
      | refine ifF ?_
      | refine ifT ?_
      | refine ⟨_, rfl, ?_⟩
      | refine ⟨_, _, rfl, rfl, ?_⟩
      | refine Or.inl ⟨_, rfl, ?_⟩
      | refine Or.inr ⟨_, rfl, ?_⟩
      | refine ⟨Or.inl ⟨by decide, by decide⟩, ?_⟩
      | refine ⟨Or.inr ⟨by decide, by decide⟩, ?_⟩
      | refine ⟨⟨by decide, by decide⟩, ?_⟩
      | refine ⟨⟨by decide, by decide, by decide⟩, ?_⟩
      | refine ⟨by decide, ?_⟩
      | refine ⟨(by show (0 : Int) < _; decide), ?_⟩
      | refine ⟨rfl, ?_⟩
      | refine ⟨⟨_, rfl⟩, ?_⟩
      | refine ⟨_, rfl, rfl, trivial, ?_⟩
      | refine ⟨_, _, rfl, ?_⟩))
    rw [efl, List.length_append] at lfl
    refine ⟨N, pj, ns, _, rfl, rfl, hNl, hts, small (by omega), ?_⟩
    have tx5 : TX K H' (upd H' N (.lst (ns ++ ts))) := TX.lst hNl
    refine ⟨ns ++ ts, _, rfl, same_upd2 hNH sm, by rw [upd_ne hDN]; exact hDl, upd_same, ?_, pmono (R := fun p' c' => p' ≠ N ∧ TC K H' p' c') (fun p' c' h => ⟨h.1, TC.upd hNl h.1 h.2⟩) hpp⟩
    rw [efl, ← List.cons_append]
    exact papp (Cs.tx tx5 hns) (Cs.tx tx5 htp)
  · rintro σ H' ⟨ns, y5, rfl, sm, hDl, hNl, hns, hpp⟩
    rw [List.length_map, lps, List.take_length] at hns
    exact ⟨_, rfl, k N ns H' sm hNH hNl hns⟩
theorem ok_hear_cells (T : Top K mg w) : ∀ n : Nat, FnOk P w K mg base CX0 (2 * n + 6) T.a_hear_cells T.d_hear_cells ["tree", "cells", "name", "number"] (sp_hc K n)
  | 0 => by
    have no0 : FnOk P w K mg base CX0 6 T.a_hear_cells T.d_hear_cells ["tree", "cells", "name", "number"] (fun _ _ _ _ => False) := ⟨fun vs H Q E h => h.elim, fun A outer s H args us vs Q E _ _ _ _ h => h.elim⟩
    refine no0.imp fun vs H Q E h => ?_
    obtain ⟨p, ca, np, q, cs, nm, x, _, _, _, hz, _⟩ := h
    have := qsz_pos q
    omega
  | n + 1 => by
    have ih := ok_hear_cells T n
    have s := below_step T n (2 * n + 6) (by omega) ih
    exact hear_step T (n + 1) (2 * n + 7) (by omega) s
end
end My


namespace My
open PySem PySem.Spec PyProof.Rows L2
/-! ### cells along a row -/
def foldC (q : Qn) (row : List Rec) : List Cell := row.foldl (fun cs r => hearC q cs r.1 r.2) (List.replicate (qsz q) cell0)
theorem foldC_snoc (q : Qn) (row : List Rec) (r : Rec) : foldC q (row ++ [r]) = hearC q (foldC q row) r.1 r.2 := by
  unfold foldC
  rw [List.foldl_append]
  rfl
theorem rowOk_snoc {row : List Rec} {r : Rec} (h : RowOk (row ++ [r])) : RowOk row ∧ gd2 r.2 := ⟨fun x hx => h x (List.mem_append_left _ hx), h r (by simp)⟩
theorem rep_add {n m : Nat} : List.replicate n cell0 ++ List.replicate m cell0 = List.replicate (n + m) cell0 := by
  induction n with
  | zero => rw [Nat.zero_add]; rfl
  | succ n ih => rw [Nat.succ_add, List.replicate_succ, List.replicate_succ, List.cons_append, ih]
theorem foldC_ok {q : Qn} (hq : Qk q) : ∀ {row : List Rec}, RowOk row → CellsOk q (foldC q row) := by
  intro row
  induction row using srec with
  | h0 => exact fun _ => rep_ok hq
  | h1 row r ih =>
    intro h
    rw [foldC_snoc]
    exact hear_ok hq (ih (rowOk_snoc h).1) (rowOk_snoc h).2
theorem belowC_flat : ∀ {ks : List Qn} {css : List (List Cell)} {pre : List Cell} {n : Nat}, pre.length = n → Paired (fun a c => c.length = qsz a) ks css → belowC ks (pre ++ css.flatten) n = css
  | _, _, _, _, _, .nil => rfl
  | a :: ks, c :: css, pre, n, hn, .cons h t => by
    have hc : (c ++ css.flatten).length = c.length + css.flatten.length := List.length_append
    show sl (pre ++ (c :: css).flatten) n (qsz a) :: belowC ks (pre ++ (c :: css).flatten) (n + qsz a) = _
    rw [List.flatten_cons]
    have e1 : sl (pre ++ (c ++ css.flatten)) n (qsz a) = c := by
      unfold sl
      rw [List.drop_left' hn, List.take_left' h]
    rw [e1, ← List.append_assoc, belowC_flat (pre := pre ++ c) (by rw [List.length_append, hn, h]) t]
/-! ### put in and cut off -/
theorem Srt.tail {a : Q2} {s : List Q2} (h : Srt (a :: s)) : Srt s := ⟨(List.pairwise_cons.mp h.1).2, fun x hx => h.2 x (List.mem_cons_of_mem _ hx)⟩
theorem with2_cons {a x : Q2} {s : List Q2} (h : Srt (a :: s)) (hx : ok2 x) : (lt2 a x → with2 (a :: s) x = a :: with2 s x) ∧ (a = x → with2 (a :: s) x = a :: s) ∧ (lt2 x a → with2 (a :: s) x = x :: a :: s) := by
  have ha := h.2 a (by simp)
  have hs := fun y hy => (List.pairwise_cons.mp h.1).1 y hy
  have up : ∀ y ∈ s, (x = a ∨ lt2 x a) → lt2 x y := fun y hy e => by
    rcases e with e | e
    · rw [e]; exact hs y hy
    · exact lt2_trans hx.1 ha.1 (h.2 y (List.mem_cons_of_mem _ hy)).1 e (hs y hy)
  have e1 : (x = a ∨ lt2 x a) → s.filter (fun y => decide (lt2 y x)) = [] := fun e => List.filter_eq_nil_iff.mpr fun y hy => by
    rw [decide_eq_true_iff]
    exact lt2_asymm (up y hy e)
  have e2 : (x = a ∨ lt2 x a) → s.filter (fun y => decide (lt2 x y)) = s := fun e => List.filter_eq_self.mpr fun y hy => decide_eq_true (up y hy e)
  refine ⟨fun c => ?_, fun c => ?_, fun c => ?_⟩
  · unfold with2
    rw [List.filter_cons, if_pos (decide_eq_true c), List.filter_cons, if_neg (by rw [decide_eq_true_iff]; exact lt2_asymm c)]
    rfl
  · subst c
    unfold with2
    rw [List.filter_cons, if_neg (by rw [decide_eq_true_iff]; exact lt2_irr _), List.filter_cons, if_neg (by rw [decide_eq_true_iff]; exact lt2_irr _), e1 (.inl rfl), e2 (.inl rfl)]
    rfl
  · unfold with2
    rw [List.filter_cons, if_neg (by rw [decide_eq_true_iff]; exact lt2_asymm c), List.filter_cons, if_pos (decide_eq_true c), e1 (.inr c), e2 (.inr c)]
    rfl
theorem tri2 {x y : Q2} (hx : ok2 x) (hy : ok2 y) : lt2 x y ∨ x = y ∨ lt2 y x := by
  by_cases h : lt2 x y
  · exact .inl h
  by_cases h' : lt2 y x
  · exact .inr (.inr h')
  exact .inr (.inl (eq2 hx hy h h'))
theorem Srt.take {s : List Q2} (h : Srt s) (k : Nat) : Srt (s.take k) := srt_sub (List.take_sublist _ _) h
theorem with2_take : ∀ {s : List Q2} (k : Nat) {x : Q2}, Srt s → ok2 x → (with2 (s.take k) x).take k = (with2 s x).take k
  | [], k, x, _, _ => by rw [List.take_nil]
  | a :: s, 0, x, _, _ => by rw [List.take_zero, List.take_zero]
  | a :: s, k + 1, x, h, hx => by
    have ha := h.2 a (by simp)
    have ht := h.take (k + 1)
    rw [List.take_succ_cons] at ht ⊢
    obtain ⟨f1, f2, f3⟩ := with2_cons h hx
    obtain ⟨g1, g2, g3⟩ := with2_cons ht hx
    rcases tri2 ha hx with c | c | c
    · rw [f1 c, g1 c, List.take_succ_cons, List.take_succ_cons, with2_take k h.tail hx]
    · rw [f2 c, g2 c, List.take_succ_cons, List.take_succ_cons, List.take_take, Nat.min_self]
    · rw [f3 c, g3 c, List.take_succ_cons, List.take_succ_cons]
      congr 1
      cases k with
      | zero => rfl
      | succ k => rw [List.take_succ_cons, List.take_succ_cons, List.take_take, Nat.min_eq_left (by omega)]
theorem Srt.snoc {a : Q2} {s : List Q2} (h : Srt (s ++ [a])) : Srt s ∧ ok2 a ∧ ∀ y ∈ s, lt2 y a :=
  ⟨srt_sub (List.sublist_append_left _ _) h, h.2 a (by simp), fun y hy => (List.pairwise_append.mp h.1).2.2 y hy a (by simp)⟩
theorem with2_snoc {a x : Q2} {s : List Q2} (h : Srt (s ++ [a])) (hx : ok2 x) : (lt2 x a → with2 (s ++ [a]) x = with2 s x ++ [a]) ∧ (a = x → with2 (s ++ [a]) x = s ++ [a]) ∧ (lt2 a x → with2 (s ++ [a]) x = s ++ [a, x]) := by
  obtain ⟨h1, ha, hs⟩ := h.snoc
  have up : ∀ y ∈ s, (a = x ∨ lt2 a x) → lt2 y x := fun y hy e => by
    rcases e with e | e
    · rw [← e]; exact hs y hy
    · exact lt2_trans (h1.2 y hy).1 ha.1 hx.1 (hs y hy) e
  have e1 : (a = x ∨ lt2 a x) → s.filter (fun y => decide (lt2 x y)) = [] := fun e => List.filter_eq_nil_iff.mpr fun y hy => by
    rw [decide_eq_true_iff]
    exact lt2_asymm (up y hy e)
  have e2 : (a = x ∨ lt2 a x) → s.filter (fun y => decide (lt2 y x)) = s := fun e => List.filter_eq_self.mpr fun y hy => decide_eq_true (up y hy e)
  refine ⟨fun c => ?_, fun c => ?_, fun c => ?_⟩
  · unfold with2
    rw [List.filter_append, List.filter_append, List.filter_cons, if_neg (by rw [decide_eq_true_iff]; exact lt2_asymm c), List.filter_cons, if_pos (decide_eq_true c), List.filter_nil, List.filter_nil, List.append_nil]
    simp
  · subst c
    unfold with2
    rw [List.filter_append, List.filter_append, List.filter_cons, if_neg (by rw [decide_eq_true_iff]; exact lt2_irr _), List.filter_cons, if_neg (by rw [decide_eq_true_iff]; exact lt2_irr _), e1 (.inl rfl), e2 (.inl rfl)]
    simp
  · unfold with2
    rw [List.filter_append, List.filter_append, List.filter_cons, if_pos (decide_eq_true c), List.filter_cons, if_neg (by rw [decide_eq_true_iff]; exact lt2_asymm c), e1 (.inr c), e2 (.inr c)]
    simp
theorem keepG_snoc (k : Nat) (s : List Q2) (a : Q2) : keepG (k + 1) (s ++ [a]) = keepG k s ++ [a] := by
  unfold keepG
  rw [List.length_append, show s.length + [a].length - (k + 1) = s.length - k by simp, List.drop_append_of_le_length (by omega)]
theorem keepG_zero (s : List Q2) : keepG 0 s = [] := by
  unfold keepG
  exact List.drop_length
theorem keepG_keep (k m : Nat) (s : List Q2) (h : m ≤ k) : keepG m (keepG k s) = keepG m s := by
  unfold keepG
  rw [List.length_drop, List.drop_drop]
  congr 1
  omega
theorem with2_keep : ∀ {s : List Q2}, ∀ (k : Nat) {x : Q2}, Srt s → ok2 x → keepG k (with2 (keepG k s) x) = keepG k (with2 s x) := by
  intro s
  induction s using srec with
  | h0 => intro k x _ _; rw [show keepG k ([] : List Q2) = [] by unfold keepG; rw [List.drop_nil]]
  | h1 s a ih =>
    intro k x h hx
    cases k with
    | zero => rw [keepG_zero, keepG_zero]
    | succ k =>
      obtain ⟨h1, ha, hs⟩ := h.snoc
      have ht : Srt (keepG (k + 1) (s ++ [a])) := srt_sub (keepG_sub _ _) h
      rw [keepG_snoc] at ht ⊢
      obtain ⟨f1, f2, f3⟩ := with2_snoc h hx
      obtain ⟨g1, g2, g3⟩ := with2_snoc ht hx
      rcases tri2 ha hx with c | c | c
      · rw [f3 c, g3 c, show s ++ [a, x] = (s ++ [a]) ++ [x] by simp, show keepG k s ++ [a, x] = (keepG k s ++ [a]) ++ [x] by simp, keepG_snoc, keepG_snoc]
        congr 1
        cases k with
        | zero => rw [keepG_zero, keepG_zero]
        | succ k => rw [keepG_snoc, keepG_snoc, keepG_keep _ _ _ (by omega)]
      · rw [f2 c, g2 c, keepG_snoc, keepG_snoc, keepG_keep _ _ _ (Nat.le_refl _)]
      · rw [f1 c, g1 c, keepG_snoc, keepG_snoc, ih k h1 hx]
theorem setS_take {s : List Q2} (k : Nat) {o : O2} (hs : Srt s) (ho : ∀ x, o = some x → ok2 x) : (setS (s.take k) o).take k = (setS s o).take k := by
  cases o with
  | none => show (s.take k).take k = s.take k; rw [List.take_take, Nat.min_self]
  | some x => exact with2_take k hs (ho x rfl)
theorem setS_keep {s : List Q2} (k : Nat) {o : O2} (hs : Srt s) (ho : ∀ x, o = some x → ok2 x) : keepG k (setS (keepG k s) o) = keepG k (setS s o) := by
  cases o with
  | none => exact keepG_keep k k s (Nat.le_refl _)
  | some x => exact with2_keep k hs (ho x rfl)
/-! ### what each part sees -/
def seenC (q : Qn) (row : List Rec) : List (List Cell) := match q with
  | .since a b => [foldC a row, foldC b (sinceF (row.zip (an a row)))]
  | .among a b => [foldC a row, foldC b (amongF (row.zip (an a row)))]
  | q => (kids q).map fun a => foldC a row
theorem sinceF_in {l : List (Rec × O2)} {r : Rec} (h : r ∈ sinceF l) : ∃ o, (r, o) ∈ l := by
  induction l using srec with
  | h0 => cases h
  | h1 l p ih =>
    rw [sinceF_snoc] at h
    unfold sinceS at h
    split at h
    · cases h
    · rcases List.mem_append.mp h with h | h
      · obtain ⟨o, ho⟩ := ih h
        exact ⟨o, List.mem_append_left _ ho⟩
      · rw [List.mem_singleton.mp h]
        exact ⟨p.2, by simp⟩
theorem amongF_in {l : List (Rec × O2)} {r : Rec} (h : r ∈ amongF l) : ∃ o, (r, o) ∈ l := by
  obtain ⟨p, hp, rfl⟩ := List.mem_map.mp h
  exact ⟨p.2, (List.mem_filter.mp hp).1⟩
theorem sinceF_ok {row : List Rec} (h : RowOk row) (os : List O2) : RowOk (sinceF (row.zip os)) := fun r hr => by
  obtain ⟨o, ho⟩ := sinceF_in hr
  exact h r (List.of_mem_zip ho).1
theorem amongF_ok {row : List Rec} (h : RowOk row) (os : List O2) : RowOk (amongF (row.zip os)) := fun r hr => by
  obtain ⟨o, ho⟩ := amongF_in hr
  exact h r (List.of_mem_zip ho).1
theorem kids_len {q : Qn} (hq : Qk q) {row : List Rec} (h : RowOk row) : Paired (fun a c => c.length = qsz a) (kids q) (seenC q row) := by
  cases q with
  | now => exact .nil
  | nothing => exact .nil
  | is n => exact .nil
  | less a b => exact .cons (foldC_ok hq.1 h).len (.cons (foldC_ok hq.2 h).len .nil)
  | same a b => exact .cons (foldC_ok hq.1 h).len (.cons (foldC_ok hq.2 h).len .nil)
  | iff a b c => exact .cons (foldC_ok hq.1 h).len (.cons (foldC_ok hq.2.1 h).len (.cons (foldC_ok hq.2.2 h).len .nil))
  | last a => exact .cons (foldC_ok (q := a) hq h).len .nil
  | first a => exact .cons (foldC_ok (q := a) hq h).len .nil
  | before a => exact .cons (foldC_ok (q := a) hq h).len .nil
  | great k a => exact .cons (foldC_ok hq.2 h).len .nil
  | least k a => exact .cons (foldC_ok hq.2 h).len .nil
  | times k a => exact .cons (foldC_ok hq.2 h).len .nil
  | circle m k a => exact .cons (foldC_ok hq.2 h).len .nil
  | since a b => exact .cons (foldC_ok hq.1 h).len (.cons (foldC_ok hq.2 (sinceF_ok h _)).len .nil)
  | among a b => exact .cons (foldC_ok hq.1 h).len (.cons (foldC_ok hq.2 (amongF_ok h _)).len .nil)
/-- a question's own cell behind a row -/
def cellM (q : Qn) (row : List Rec) : Cell := match q with
  | .great k a => (mean (.great k a) row, 0, keepG k (setF (an a row)))
  | .least k a => (mean (.least k a) row, 0, (setF (an a row)).take k)
  | .times k a => (mean (.times k a) row, min (cntF (an a row)) k, [])
  | .circle m k a => (mean (.circle m k a) row, cntF (an a row) % m, [])
  | q => (mean q row, 0, [])
def heardOk (q : Qn) : Prop := ∀ {row : List Rec}, RowOk row → foldC q row = cellM q row :: (seenC q row).flatten
theorem hdO_fold {q : Qn} (h : heardOk q) {row : List Rec} (ho : RowOk row) : hdO (foldC q row) = mean q row := by
  rw [h ho]
  cases q <;> rfl
theorem fold_nil {q : Qn} (hq : Qk q) : foldC q [] = cellM q [] :: (seenC q []).flatten := by
  have e0 : cellM q [] = cell0 := by
    have e1 := mean_nil hq
    cases q with
    | great k a => show (mean (.great k a) [], 0, keepG k []) = _; rw [e1]; unfold keepG; rw [List.drop_nil]; rfl
    | least k a => show (mean (.least k a) [], 0, ([] : List Q2).take k) = _; rw [e1, List.take_nil]; rfl
    | times k a => show (_, min 0 k, _) = _; rw [e1, Nat.zero_min]; rfl
    | circle m k a => show (_, 0 % m, _) = _; rw [e1, Nat.zero_mod]; rfl
    | _ => show (_, _, _) = _; rw [e1]; rfl
  rw [e0]
  have rep : ∀ n, List.replicate (n + 1) cell0 = cell0 :: List.replicate n cell0 := fun n => List.replicate_succ
  cases q with
  | now => rfl
  | nothing => rfl
  | is n => rfl
  | less a b => show List.replicate (qsz a + qsz b + 1) cell0 = cell0 :: (List.replicate (qsz a) cell0 ++ (List.replicate (qsz b) cell0 ++ [])); rw [rep, List.append_nil, rep_add]
  | same a b => show List.replicate (qsz a + qsz b + 1) cell0 = cell0 :: (List.replicate (qsz a) cell0 ++ (List.replicate (qsz b) cell0 ++ [])); rw [rep, List.append_nil, rep_add]
  | since a b => show List.replicate (qsz a + qsz b + 1) cell0 = cell0 :: (List.replicate (qsz a) cell0 ++ (List.replicate (qsz b) cell0 ++ [])); rw [rep, List.append_nil, rep_add]
  | among a b => show List.replicate (qsz a + qsz b + 1) cell0 = cell0 :: (List.replicate (qsz a) cell0 ++ (List.replicate (qsz b) cell0 ++ [])); rw [rep, List.append_nil, rep_add]
  | iff a b c => show List.replicate (qsz a + qsz b + qsz c + 1) cell0 = cell0 :: (List.replicate (qsz a) cell0 ++ (List.replicate (qsz b) cell0 ++ (List.replicate (qsz c) cell0 ++ []))); rw [rep, List.append_nil, rep_add, rep_add, Nat.add_assoc]
  | last a => show List.replicate (qsz a + 1) cell0 = cell0 :: (List.replicate (qsz a) cell0 ++ []); rw [rep, List.append_nil]
  | first a => show List.replicate (qsz a + 1) cell0 = cell0 :: (List.replicate (qsz a) cell0 ++ []); rw [rep, List.append_nil]
  | before a => show List.replicate (qsz a + 1) cell0 = cell0 :: (List.replicate (qsz a) cell0 ++ []); rw [rep, List.append_nil]
  | great k a => show List.replicate (qsz a + 1) cell0 = cell0 :: (List.replicate (qsz a) cell0 ++ []); rw [rep, List.append_nil]
  | least k a => show List.replicate (qsz a + 1) cell0 = cell0 :: (List.replicate (qsz a) cell0 ++ []); rw [rep, List.append_nil]
  | times k a => show List.replicate (qsz a + 1) cell0 = cell0 :: (List.replicate (qsz a) cell0 ++ []); rw [rep, List.append_nil]
  | circle m k a => show List.replicate (qsz a + 1) cell0 = cell0 :: (List.replicate (qsz a) cell0 ++ []); rw [rep, List.append_nil]
/-- the parts hear -/
theorem heard_seen {q : Qn} (hq : Qk q) (ih : ∀ a ∈ kids q, heardOk a) {row : List Rec} {r : Rec} (h : RowOk (row ++ [r])) {cs : List Cell} (hb : belowC (kids q) cs 1 = seenC q row) : heardC q cs r.1 r.2 = seenC q (row ++ [r]) := by
  have snoc : ∀ a, hearC a (foldC a row) r.1 r.2 = foldC a (row ++ [r]) := fun a => (foldC_snoc a row r).symm
  have plain : ∀ ks : List Qn, ((ks.zip (ks.map fun a => foldC a row)).map fun p => hearC p.1 p.2 r.1 r.2) = ks.map fun a => foldC a (row ++ [r]) := by
    intro ks
    induction ks with
    | nil => rfl
    | cons a ks ih => rw [List.map_cons, List.zip_cons_cons, List.map_cons, ih, snoc]; rfl
  have two : ∀ {a b : Qn}, kids q = [a, b] → ∀ {c d : List Cell}, seenC q row = [c, d] → sl cs 1 (qsz a) = c ∧ sl cs (1 + qsz a) (qsz b) = d := fun e c d e2 => by
    rw [e, e2] at hb
    have hb : [sl cs 1 _, sl cs (1 + _) _] = [c, d] := hb
    exact ⟨by injection hb, by injection hb with _ hb; injection hb⟩
  cases q with
  | since a b =>
    obtain ⟨e1, e2⟩ := two rfl rfl
    have ha := hdO_fold (ih a (by simp [kids])) h
    show [hearC a (sl cs 1 (qsz a)) r.1 r.2, if (hdO (hearC a (sl cs 1 (qsz a)) r.1 r.2)).isSome then List.replicate (qsz b) cell0 else hearC b (sl cs (1 + qsz a) (qsz b)) r.1 r.2] = [foldC a (row ++ [r]), foldC b (sinceF ((row ++ [r]).zip (an a (row ++ [r]))))]
    rw [e1, e2, snoc, ha, an_snoc, List.zip_append (by rw [an_len]), List.zip_cons_cons, List.zip_nil_left, sinceF_snoc]
    unfold sinceS
    cases e : (mean a (row ++ [r])).isSome with
    | true => rfl
    | false => rw [if_neg (by decide), if_neg (by decide)]; show _ = [_, foldC b (_ ++ [r])]; rw [foldC_snoc b]
  | among a b =>
    obtain ⟨e1, e2⟩ := two rfl rfl
    have ha := hdO_fold (ih a (by simp [kids])) h
    show [hearC a (sl cs 1 (qsz a)) r.1 r.2, if (hdO (hearC a (sl cs 1 (qsz a)) r.1 r.2)).isSome then hearC b (sl cs (1 + qsz a) (qsz b)) r.1 r.2 else sl cs (1 + qsz a) (qsz b)] = [foldC a (row ++ [r]), foldC b (amongF ((row ++ [r]).zip (an a (row ++ [r]))))]
    rw [e1, e2, snoc, ha, an_snoc, List.zip_append (by rw [an_len]), List.zip_cons_cons, List.zip_nil_left, amongF_snoc]
    cases e : (mean a (row ++ [r])).isSome with
    | true => rw [if_pos rfl, if_pos rfl]; show _ = [_, foldC b (_ ++ [r])]; rw [foldC_snoc b]
    | false => rw [if_neg (by decide), if_neg (by decide), List.append_nil]
  | _ =>
    show ((kids _).zip (belowC (kids _) cs 1)).map (fun p => hearC p.1 p.2 r.1 r.2) = _
    rw [hb]
    exact plain _
theorem numO_snoc (row : List Rec) (r : Rec) : numO (row ++ [r]) = some r.2 := by
  unfold numO
  rw [List.getLast?_concat]
  rfl
theorem mean_gd {q : Qn} {row : List Rec} (h : RowOk row) {x : Q2} (e : mean q row = some x) : gd2 x := by
  obtain ⟨r, hr, rfl⟩ := mean_num e
  exact h r hr
theorem an_gd {q : Qn} {row : List Rec} (h : RowOk row) {x : Q2} (e : some x ∈ an q row) : gd2 x := by
  obtain ⟨i, hi, e2⟩ := List.mem_iff_getElem.mp e
  have hi' : i < row.length := by rw [an_len] at hi; exact hi
  have e3 : (an q row)[i]? = some (mean q (row.take (i + 1))) := pf_get _ hi'
  rw [List.getElem?_eq_getElem hi, e2] at e3
  exact mean_gd (fun r hr => h r (List.mem_of_mem_take hr)) (Option.some.inj e3).symm
theorem own_mean {q : Qn} (hq : Qk q) (ih : ∀ a ∈ kids q, heardOk a) {row : List Rec} {r : Rec} (h : RowOk (row ++ [r])) {cs : List Cell} (hc : cs = cellM q row :: (seenC q row).flatten) : ownC q cs ((seenC q (row ++ [r])).map hdO) r.1 r.2 = cellM q (row ++ [r]) := by
  have hd : cs.headD cell0 = cellM q row := by rw [hc]; rfl
  obtain ⟨hrow, hr⟩ := rowOk_snoc h
  have me : ∀ {a : Qn}, a ∈ kids q → hdO (foldC a (row ++ [r])) = mean a (row ++ [r]) := fun ha => hdO_fold (ih _ ha) h
  cases q with
  | now => show (some r.2, (cs.headD cell0).2.1, (cs.headD cell0).2.2) = (numO (row ++ [r]), 0, []); rw [hd, numO_snoc]; rfl
  | nothing => show (none, (cs.headD cell0).2.1, (cs.headD cell0).2.2) = (none, 0, []); rw [hd]; rfl
  | is n =>
    show ((if r.1 = n then some r.2 else none), (cs.headD cell0).2.1, (cs.headD cell0).2.2) = ((row ++ [r]).getLast?.bind fun r => if r.1 = n then some r.2 else none, 0, [])
    rw [hd, List.getLast?_concat]
    rfl
  | less a b =>
    show (lessO (hdO (foldC a (row ++ [r]))) (hdO (foldC b (row ++ [r]))), (cs.headD cell0).2.1, (cs.headD cell0).2.2) = (lessO (mean a (row ++ [r])) (mean b (row ++ [r])), 0, [])
    rw [hd, me (by simp [kids]), me (by simp [kids])]
    rfl
  | same a b =>
    show (sameO (hdO (foldC a (row ++ [r]))) (hdO (foldC b (row ++ [r]))), (cs.headD cell0).2.1, (cs.headD cell0).2.2) = (sameO (mean a (row ++ [r])) (mean b (row ++ [r])), 0, [])
    rw [hd, me (by simp [kids]), me (by simp [kids])]
    rfl
  | iff a b c =>
    show ((if (hdO (foldC a (row ++ [r]))).isSome then hdO (foldC b (row ++ [r])) else hdO (foldC c (row ++ [r]))), (cs.headD cell0).2.1, (cs.headD cell0).2.2) = ((if (mean a (row ++ [r])).isSome then mean b (row ++ [r]) else mean c (row ++ [r])), 0, [])
    rw [hd, me (by simp [kids]), me (by simp [kids]), me (by simp [kids])]
    rfl
  | last a =>
    show (lastS (cs.headD cell0).1 (hdO (foldC a (row ++ [r]))), (cs.headD cell0).2.1, (cs.headD cell0).2.2) = (lastF (an a (row ++ [r])), 0, [])
    rw [hd, me (by simp [kids]), an_snoc, lastF_snoc]
    rfl
  | first a =>
    show (firstS (cs.headD cell0).1 (hdO (foldC a (row ++ [r]))), (cs.headD cell0).2.1, (cs.headD cell0).2.2) = (firstF (an a (row ++ [r])), 0, [])
    rw [hd, me (by simp [kids]), an_snoc, firstF_snoc]
    rfl
  | before a =>
    have hl := (foldC_ok (q := a) hq hrow).len
    have hp := qsz_pos a
    have e1 : (cs.getD 1 cell0).1 = mean a row := by
      rw [← hdO_fold (ih a (by simp [kids])) hrow, hc]
      show ((foldC a row ++ []).getD 0 cell0).1 = _
      cases e : foldC a row with
      | nil => rw [e] at hl; simp at hl; omega
      | cons c l => rfl
    show ((cs.getD 1 cell0).1, (cs.headD cell0).2.1, (cs.headD cell0).2.2) = (mean a (row ++ [r]).dropLast, 0, [])
    rw [hd, e1, List.dropLast_concat]
    rfl
  | since a b =>
    have hz : RowOk (sinceF ((row ++ [r]).zip (an a (row ++ [r])))) := sinceF_ok h _
    show (hdO (foldC b (sinceF ((row ++ [r]).zip (an a (row ++ [r]))))), (cs.headD cell0).2.1, (cs.headD cell0).2.2) = (mean b (sinceF ((row ++ [r]).zip (an a (row ++ [r])))), 0, [])
    rw [hd, hdO_fold (ih b (by simp [kids])) hz]
    rfl
  | among a b =>
    have hz : RowOk (amongF ((row ++ [r]).zip (an a (row ++ [r])))) := amongF_ok h _
    show (hdO (foldC b (amongF ((row ++ [r]).zip (an a (row ++ [r]))))), (cs.headD cell0).2.1, (cs.headD cell0).2.2) = (mean b (amongF ((row ++ [r]).zip (an a (row ++ [r])))), 0, [])
    rw [hd, hdO_fold (ih b (by simp [kids])) hz]
    rfl
  | great k a =>
    have hs := (setF_srt (l := an a row) fun x hx => (an_gd hrow hx).1).1
    have ek : keepG k (setS (keepG k (setF (an a row))) (mean a (row ++ [r]))) = keepG k (setF (an a (row ++ [r]))) := by
      rw [setS_keep k hs fun x e => (mean_gd h e).1, an_snoc, setF_snoc]
    show ((if (keepG k (setS (cs.headD cell0).2.2 (hdO (foldC a (row ++ [r]))))).length = k then (keepG k (setS (cs.headD cell0).2.2 (hdO (foldC a (row ++ [r])))))[0]? else none), (cs.headD cell0).2.1, keepG k (setS (cs.headD cell0).2.2 (hdO (foldC a (row ++ [r]))))) = (greatF k (an a (row ++ [r])), 0, keepG k (setF (an a (row ++ [r]))))
    rw [hd, me (by simp [kids])]
    show ((if (keepG k (setS (keepG k (setF (an a row))) (mean a (row ++ [r])))).length = k then (keepG k (setS (keepG k (setF (an a row))) (mean a (row ++ [r]))))[0]? else none), 0, keepG k (setS (keepG k (setF (an a row))) (mean a (row ++ [r])))) = _
    rw [ek]
    have e3 : (if (keepG k (setF (an a (row ++ [r])))).length = k then (keepG k (setF (an a (row ++ [r]))))[0]? else none) = greatF k (an a (row ++ [r])) := by
      unfold greatF keepG
      rw [List.length_drop]
      by_cases c : (setF (an a (row ++ [r]))).length < k
      · rw [if_pos c, if_neg (by omega)]
      · rw [if_neg c, if_pos (by omega), List.getElem?_drop, Nat.add_zero]
    rw [e3]
  | least k a =>
    have hs := (setF_srt (l := an a row) fun x hx => (an_gd hrow hx).1).1
    have ek : (setS ((setF (an a row)).take k) (mean a (row ++ [r]))).take k = (setF (an a (row ++ [r]))).take k := by
      rw [setS_take k hs fun x e => (mean_gd h e).1, an_snoc, setF_snoc]
    show ((if ((setS (cs.headD cell0).2.2 (hdO (foldC a (row ++ [r])))).take k).length = k then ((setS (cs.headD cell0).2.2 (hdO (foldC a (row ++ [r])))).take k)[k - 1]? else none), (cs.headD cell0).2.1, (setS (cs.headD cell0).2.2 (hdO (foldC a (row ++ [r])))).take k) = (leastF k (an a (row ++ [r])), 0, (setF (an a (row ++ [r]))).take k)
    rw [hd, me (by simp [kids])]
    show ((if ((setS ((setF (an a row)).take k) (mean a (row ++ [r]))).take k).length = k then ((setS ((setF (an a row)).take k) (mean a (row ++ [r]))).take k)[k - 1]? else none), 0, (setS ((setF (an a row)).take k) (mean a (row ++ [r]))).take k) = _
    rw [ek]
    have hk1 := hq.1.1
    have e3 : (if ((setF (an a (row ++ [r]))).take k).length = k then ((setF (an a (row ++ [r]))).take k)[k - 1]? else none) = leastF k (an a (row ++ [r])) := by
      unfold leastF
      rw [List.length_take]
      by_cases c : (setF (an a (row ++ [r]))).length < k
      · rw [if_pos c, if_neg (by omega)]
      · rw [if_neg c, if_pos (by omega), List.getElem?_take, if_pos (by omega)]
    rw [e3]
  | times k a =>
    show ((if (if (hdO (foldC a (row ++ [r]))).isSome then min ((cs.headD cell0).2.1 + 1) k else (cs.headD cell0).2.1) = k then some r.2 else none), (if (hdO (foldC a (row ++ [r]))).isSome then min ((cs.headD cell0).2.1 + 1) k else (cs.headD cell0).2.1), (cs.headD cell0).2.2) = ((if k ≤ cntF (an a (row ++ [r])) then numO (row ++ [r]) else none), min (cntF (an a (row ++ [r]))) k, [])
    rw [hd, me (by simp [kids]), an_snoc, cntF_snoc, numO_snoc]
    show ((if (if (mean a (row ++ [r])).isSome then min (min (cntF (an a row)) k + 1) k else min (cntF (an a row)) k) = k then some r.2 else none), (if (mean a (row ++ [r])).isSome then min (min (cntF (an a row)) k + 1) k else min (cntF (an a row)) k), ([] : List Q2)) = _
    have e : (if (mean a (row ++ [r])).isSome then min (min (cntF (an a row)) k + 1) k else min (cntF (an a row)) k) = min (cntF (an a row) + (if (mean a (row ++ [r])).isSome then 1 else 0)) k := by
      split <;> omega
    rw [e]
    by_cases c : k ≤ cntF (an a row) + (if (mean a (row ++ [r])).isSome then 1 else 0)
    · rw [if_pos c, if_pos (by omega)]
    · rw [if_neg c, if_neg (by omega)]
  | circle m k a =>
    show ((if (if (hdO (foldC a (row ++ [r]))).isSome then ((cs.headD cell0).2.1 + 1) % m else (cs.headD cell0).2.1) = k then some r.2 else none), (if (hdO (foldC a (row ++ [r]))).isSome then ((cs.headD cell0).2.1 + 1) % m else (cs.headD cell0).2.1), (cs.headD cell0).2.2) = ((if cntF (an a (row ++ [r])) % m = k then numO (row ++ [r]) else none), cntF (an a (row ++ [r])) % m, [])
    rw [hd, me (by simp [kids]), an_snoc, cntF_snoc, numO_snoc]
    show ((if (if (mean a (row ++ [r])).isSome then (cntF (an a row) % m + 1) % m else cntF (an a row) % m) = k then some r.2 else none), (if (mean a (row ++ [r])).isSome then (cntF (an a row) % m + 1) % m else cntF (an a row) % m), ([] : List Q2)) = _
    have e : (if (mean a (row ++ [r])).isSome then (cntF (an a row) % m + 1) % m else cntF (an a row) % m) = (cntF (an a row) + (if (mean a (row ++ [r])).isSome then 1 else 0)) % m := by
      split
      · rw [Nat.mod_add_mod]
      · rfl
    rw [e]
theorem heard_step {q : Qn} (hq : Qk q) (ih : ∀ a ∈ kids q, heardOk a) : heardOk q := by
  intro row
  induction row using srec with
  | h0 => exact fun _ => fold_nil hq
  | h1 row r ihr =>
    intro h
    obtain ⟨hrow, hr⟩ := rowOk_snoc h
    have e := ihr hrow
    have hb : belowC (kids q) (foldC q row) 1 = seenC q row := by
      rw [e]
      exact belowC_flat (pre := [cellM q row]) rfl (kids_len hq hrow)
    rw [foldC_snoc, hear_eq, heard_seen hq ih h hb]
    unfold finC
    rw [own_mean hq ih h e]
theorem heard_all : ∀ {q : Qn}, Qk q → heardOk q := by
  intro q
  induction q with
  | now => exact fun h => heard_step h fun a ha => by cases ha
  | nothing => exact fun h => heard_step h fun a ha => by cases ha
  | is n => exact fun h => heard_step h fun a ha => by cases ha
  | less a b iha ihb =>
    intro h
    refine heard_step h fun c hc => ?_
    simp only [kids, List.mem_cons, List.not_mem_nil, or_false] at hc
    rcases hc with rfl | rfl
    · exact iha h.1
    · exact ihb h.2
  | same a b iha ihb =>
    intro h
    refine heard_step h fun c hc => ?_
    simp only [kids, List.mem_cons, List.not_mem_nil, or_false] at hc
    rcases hc with rfl | rfl
    · exact iha h.1
    · exact ihb h.2
  | since a b iha ihb =>
    intro h
    refine heard_step h fun c hc => ?_
    simp only [kids, List.mem_cons, List.not_mem_nil, or_false] at hc
    rcases hc with rfl | rfl
    · exact iha h.1
    · exact ihb h.2
  | among a b iha ihb =>
    intro h
    refine heard_step h fun c hc => ?_
    simp only [kids, List.mem_cons, List.not_mem_nil, or_false] at hc
    rcases hc with rfl | rfl
    · exact iha h.1
    · exact ihb h.2
  | iff a b c iha ihb ihc =>
    intro h
    refine heard_step h fun d hd => ?_
    simp only [kids, List.mem_cons, List.not_mem_nil, or_false] at hd
    rcases hd with rfl | rfl | rfl
    · exact iha h.1
    · exact ihb h.2.1
    · exact ihc h.2.2
  | last a ih =>
    intro h
    refine heard_step h fun c hc => ?_
    simp only [kids, List.mem_cons, List.not_mem_nil, or_false] at hc
    subst hc; exact ih h
  | first a ih =>
    intro h
    refine heard_step h fun c hc => ?_
    simp only [kids, List.mem_cons, List.not_mem_nil, or_false] at hc
    subst hc; exact ih h
  | before a ih =>
    intro h
    refine heard_step h fun c hc => ?_
    simp only [kids, List.mem_cons, List.not_mem_nil, or_false] at hc
    subst hc; exact ih h
  | great k a ih =>
    intro h
    refine heard_step h fun c hc => ?_
    simp only [kids, List.mem_cons, List.not_mem_nil, or_false] at hc
    subst hc; exact ih h.2
  | least k a ih =>
    intro h
    refine heard_step h fun c hc => ?_
    simp only [kids, List.mem_cons, List.not_mem_nil, or_false] at hc
    subst hc; exact ih h.2
  | times k a ih =>
    intro h
    refine heard_step h fun c hc => ?_
    simp only [kids, List.mem_cons, List.not_mem_nil, or_false] at hc
    subst hc; exact ih h.2
  | circle m k a ih =>
    intro h
    refine heard_step h fun c hc => ?_
    simp only [kids, List.mem_cons, List.not_mem_nil, or_false] at hc
    subst hc; exact ih h.2
end My

namespace My
open PySem PySem.Spec PyProof.Rows L2
theorem qn_ind {P : Qn → Prop} (h : ∀ q, (∀ a ∈ kids q, P a) → P q) : ∀ q, P q := by
  have key : ∀ n q, qsz q ≤ n → P q := by
    intro n
    induction n with
    | zero => intro q hq; have := qsz_pos q; omega
    | succ n ih => intro q hq; exact h q fun a ha => ih a (by have := kids_sz ha; omega)
  exact fun q => key _ q (Nat.le_refl _)
/-! ### numbers replaced, in the same order -/
structure Mono (A : List Q2) (ρ : Q2 → Q2) : Prop where
  lt : ∀ x ∈ A, ∀ y ∈ A, lt2 (ρ x) (ρ y) ↔ lt2 x y
  inj : ∀ x ∈ A, ∀ y ∈ A, ρ x = ρ y ↔ x = y
def mapC (ρ : Q2 → Q2) (c : Cell) : Cell := (c.1.map ρ, c.2.1, c.2.2.map ρ)
def NumIn (A : List Q2) (c : Cell) : Prop := (∀ y, c.1 = some y → y ∈ A) ∧ ∀ y ∈ c.2.2, y ∈ A
def CIn (A : List Q2) (cs : List Cell) : Prop := ∀ c ∈ cs, NumIn A c
def OIn (A : List Q2) (os : List O2) : Prop := ∀ z, some z ∈ os → z ∈ A
section
variable {A : List Q2} {ρ : Q2 → Q2}
theorem filter_mapP {α β : Type} {f : α → β} {p : β → Bool} {p' : α → Bool} : ∀ {l : List α}, (∀ a ∈ l, p (f a) = p' a) → (l.map f).filter p = (l.filter p').map f
  | [], _ => rfl
  | a :: l, h => by
    have e := h a (by simp)
    have ih := filter_mapP (f := f) (p := p) (p' := p') (l := l) fun b hb => h b (List.mem_cons_of_mem _ hb)
    rw [List.map_cons, List.filter_cons, List.filter_cons, e, ih]
    cases p' a <;> rfl
theorem with2_map (m : Mono A ρ) {xs : List Q2} (hs : ∀ y ∈ xs, y ∈ A) {x : Q2} (hx : x ∈ A) : with2 (xs.map ρ) (ρ x) = (with2 xs x).map ρ := by
  unfold with2
  have e1 : (xs.map ρ).filter (fun y => decide (lt2 y (ρ x))) = (xs.filter fun y => decide (lt2 y x)).map ρ := filter_mapP fun y hy => decide_eq_decide.mpr (m.lt y (hs y hy) x hx)
  have e2 : (xs.map ρ).filter (fun y => decide (lt2 (ρ x) y)) = (xs.filter fun y => decide (lt2 x y)).map ρ := filter_mapP fun y hy => decide_eq_decide.mpr (m.lt x hx y (hs y hy))
  rw [List.map_append, List.map_append, e1, e2]
  rfl
theorem setS_map (m : Mono A ρ) {xs : List Q2} (hs : ∀ y ∈ xs, y ∈ A) {o : O2} (ho : ∀ x, o = some x → x ∈ A) : setS (xs.map ρ) (o.map ρ) = (setS xs o).map ρ := by
  cases o with
  | none => rfl
  | some x => exact with2_map m hs (ho x rfl)
theorem setS_in {xs : List Q2} (hs : ∀ y ∈ xs, y ∈ A) {o : O2} (ho : ∀ x, o = some x → x ∈ A) : ∀ y ∈ setS xs o, y ∈ A := by
  cases o with
  | none => exact hs
  | some x =>
    intro y hy
    rcases with2_mem hy with rfl | hy
    · exact ho _ rfl
    · exact hs y hy
theorem keepG_map (k : Nat) (xs : List Q2) : keepG k (xs.map ρ) = (keepG k xs).map ρ := by
  unfold keepG
  rw [List.length_map, List.map_drop]
theorem getD_mapO (os : List O2) (i : Nat) : (os.map (Option.map ρ)).getD i none = (os.getD i none).map ρ := by
  rw [List.getD_eq_getElem?_getD, List.getD_eq_getElem?_getD, List.getElem?_map]
  cases os[i]? <;> rfl
theorem getD_in {os : List O2} (h : OIn A os) {i : Nat} {z : Q2} (e : os.getD i none = some z) : z ∈ A := by
  rw [List.getD_eq_getElem?_getD] at e
  cases e2 : os[i]? with
  | none => rw [e2] at e; cases e
  | some o =>
    rw [e2] at e
    have e : o = some z := e
    exact h z (by rw [← e]; exact List.mem_of_getElem? e2)
theorem headD_mapC (cs : List Cell) : (cs.map (mapC ρ)).headD cell0 = mapC ρ (cs.headD cell0) := by cases cs <;> rfl
theorem getD_mapC (cs : List Cell) (i : Nat) : (cs.map (mapC ρ)).getD i cell0 = mapC ρ (cs.getD i cell0) := by
  rw [List.getD_eq_getElem?_getD, List.getD_eq_getElem?_getD, List.getElem?_map]
  cases cs[i]? <;> rfl
theorem head_in {cs : List Cell} (h : CIn A cs) : NumIn A (cs.headD cell0) := by
  cases cs with
  | nil => exact ⟨(fun _ e => by cases e), (fun _ e => by cases e)⟩
  | cons c cs => exact h c (by simp)
theorem getD_cin {cs : List Cell} (h : CIn A cs) (i : Nat) : NumIn A (cs.getD i cell0) := by
  rw [List.getD_eq_getElem?_getD]
  cases e : cs[i]? with
  | none => exact ⟨(fun _ e => by cases e), (fun _ e => by cases e)⟩
  | some c => exact h c (List.mem_of_getElem? e)
theorem sl_map (cs : List Cell) (i n : Nat) : sl (cs.map (mapC ρ)) i n = (sl cs i n).map (mapC ρ) := by
  unfold sl
  rw [List.map_take, List.map_drop]
theorem sl_in {cs : List Cell} (h : CIn A cs) (i n : Nat) : CIn A (sl cs i n) := fun c hc => h c (List.mem_of_mem_drop (List.mem_of_mem_take hc))
theorem rep_map (n : Nat) : (List.replicate n cell0).map (mapC ρ) = List.replicate n cell0 := by rw [List.map_replicate]; rfl
theorem rep_in (n : Nat) : CIn A (List.replicate n cell0) := fun c hc => by
  rw [(List.mem_replicate.mp hc).2]
  exact ⟨(fun _ e => by cases e), (fun _ e => by cases e)⟩
theorem hdO_map (cs : List Cell) : hdO (cs.map (mapC ρ)) = (hdO cs).map ρ := by
  unfold hdO
  rw [headD_mapC]
  rfl
theorem if_mapO (c : Prop) [Decidable c] (x y : O2) : (if c then x.map ρ else y.map ρ) = (if c then x else y).map ρ := by split <;> rfl
theorem isSome_mapO (x : O2) : (x.map ρ).isSome = x.isSome := by cases x <;> rfl
theorem lessO_map (m : Mono A ρ) {x y : O2} (hx : ∀ z, x = some z → z ∈ A) (hy : ∀ z, y = some z → z ∈ A) : lessO (x.map ρ) (y.map ρ) = (lessO x y).map ρ := by
  cases x with
  | none => rfl
  | some u => cases y with
    | none => rfl
    | some v =>
      show (if lt2 (ρ u) (ρ v) then some (ρ u) else none) = (if lt2 u v then some u else none).map ρ
      by_cases c : lt2 u v
      · rw [if_pos c, if_pos ((m.lt u (hx u rfl) v (hy v rfl)).mpr c)]; rfl
      · rw [if_neg c, if_neg fun z => c ((m.lt u (hx u rfl) v (hy v rfl)).mp z)]; rfl
theorem sameO_map (m : Mono A ρ) {x y : O2} (hx : ∀ z, x = some z → z ∈ A) (hy : ∀ z, y = some z → z ∈ A) : sameO (x.map ρ) (y.map ρ) = (sameO x y).map ρ := by
  cases x with
  | none => rfl
  | some u => cases y with
    | none => rfl
    | some v =>
      show (if ρ u = ρ v then some (ρ u) else none) = (if u = v then some u else none).map ρ
      by_cases c : u = v
      · rw [if_pos c, if_pos ((m.inj u (hx u rfl) v (hy v rfl)).mpr c)]; rfl
      · rw [if_neg c, if_neg fun z => c ((m.inj u (hx u rfl) v (hy v rfl)).mp z)]; rfl
theorem own_map (m : Mono A ρ) (q : Qn) {cs : List Cell} (hc : CIn A cs) {told : List O2} (ht : OIn A told) {nm : Str} {x : Q2} (hx : x ∈ A) :
    ownC q (cs.map (mapC ρ)) (told.map (Option.map ρ)) nm (ρ x) = mapC ρ (ownC q cs told nm x) ∧ NumIn A (ownC q cs told nm x) := by
  have hh := head_in hc
  have ed := headD_mapC (ρ := ρ) cs
  have g := fun i => getD_mapO (ρ := ρ) told i
  have gi : ∀ i z, told.getD i none = some z → z ∈ A := fun i z e => getD_in ht e
  have num : ∀ (c : Prop) [Decidable c], (if c then some (ρ x) else none) = (if c then some x else none).map ρ := fun c _ => by split <;> rfl
  have numi : ∀ (c : Prop) [Decidable c] (z : Q2), (if c then some x else none) = some z → z ∈ A := fun c _ z e => by
    split at e
    · cases e; exact hx
    · cases e
  cases q with
  | now => exact ⟨by show (some (ρ x), ((cs.map (mapC ρ)).headD cell0).2) = _; rw [ed]; rfl, fun z e => by cases e; exact hx, hh.2⟩
  | nothing => exact ⟨by show (none, ((cs.map (mapC ρ)).headD cell0).2) = _; rw [ed]; rfl, (fun z e => by cases e), hh.2⟩
  | is n =>
    refine ⟨?_, fun z e => numi _ z e, hh.2⟩
    show ((if nm = n then some (ρ x) else none), ((cs.map (mapC ρ)).headD cell0).2) = _
    rw [ed, num]
    rfl
  | less a b =>
    refine ⟨?_, fun z e => ?_, hh.2⟩
    · show (lessO ((told.map (Option.map ρ)).getD 0 none) ((told.map (Option.map ρ)).getD 1 none), ((cs.map (mapC ρ)).headD cell0).2) = _
      rw [ed, g, g, lessO_map m (gi 0) (gi 1)]
      rfl
    · have e : lessO (told.getD 0 none) (told.getD 1 none) = some z := e
      unfold lessO at e
      split at e
      · rename_i u v e1 e2
        split at e
        · cases e; exact gi 0 _ e1
        · cases e
      · cases e
  | same a b =>
    refine ⟨?_, fun z e => ?_, hh.2⟩
    · show (sameO ((told.map (Option.map ρ)).getD 0 none) ((told.map (Option.map ρ)).getD 1 none), ((cs.map (mapC ρ)).headD cell0).2) = _
      rw [ed, g, g, sameO_map m (gi 0) (gi 1)]
      rfl
    · have e : sameO (told.getD 0 none) (told.getD 1 none) = some z := e
      unfold sameO at e
      split at e
      · rename_i u v e1 e2
        split at e
        · cases e; exact gi 0 _ e1
        · cases e
      · cases e
  | iff a b c =>
    refine ⟨?_, fun z e => ?_, hh.2⟩
    · show ((if ((told.map (Option.map ρ)).getD 0 none).isSome then (told.map (Option.map ρ)).getD 1 none else (told.map (Option.map ρ)).getD 2 none), ((cs.map (mapC ρ)).headD cell0).2) = _
      rw [ed, g, g, g, isSome_mapO, if_mapO]
      rfl
    · have e : (if (told.getD 0 none).isSome then told.getD 1 none else told.getD 2 none) = some z := e
      split at e
      · exact gi 1 _ e
      · exact gi 2 _ e
  | last a =>
    refine ⟨?_, fun z e => ?_, hh.2⟩
    · show (lastS ((cs.map (mapC ρ)).headD cell0).1 ((told.map (Option.map ρ)).getD 0 none), ((cs.map (mapC ρ)).headD cell0).2) = _
      rw [ed, g]
      unfold lastS
      rw [isSome_mapO]
      show ((if (told.getD 0 none).isSome then (told.getD 0 none).map ρ else (cs.headD cell0).1.map ρ), _) = _
      rw [if_mapO]
      rfl
    · have e : lastS (cs.headD cell0).1 (told.getD 0 none) = some z := e
      unfold lastS at e
      split at e
      · exact gi 0 _ e
      · exact hh.1 z e
  | first a =>
    refine ⟨?_, fun z e => ?_, hh.2⟩
    · show (firstS ((cs.map (mapC ρ)).headD cell0).1 ((told.map (Option.map ρ)).getD 0 none), ((cs.map (mapC ρ)).headD cell0).2) = _
      rw [ed, g]
      unfold firstS
      show ((if ((cs.headD cell0).1.map ρ).isSome then (cs.headD cell0).1.map ρ else (told.getD 0 none).map ρ), _) = _
      rw [isSome_mapO, if_mapO]
      rfl
    · have e : firstS (cs.headD cell0).1 (told.getD 0 none) = some z := e
      unfold firstS at e
      split at e
      · exact hh.1 z e
      · exact gi 0 _ e
  | before a =>
    refine ⟨?_, fun z e => (getD_cin hc 1).1 z e, hh.2⟩
    show (((cs.map (mapC ρ)).getD 1 cell0).1, ((cs.map (mapC ρ)).headD cell0).2) = _
    rw [ed, getD_mapC]
    rfl
  | since a b =>
    refine ⟨?_, fun z e => gi 1 z e, hh.2⟩
    show ((told.map (Option.map ρ)).getD 1 none, ((cs.map (mapC ρ)).headD cell0).2) = _
    rw [ed, g]
    rfl
  | among a b =>
    refine ⟨?_, fun z e => gi 1 z e, hh.2⟩
    show ((told.map (Option.map ρ)).getD 1 none, ((cs.map (mapC ρ)).headD cell0).2) = _
    rw [ed, g]
    rfl
  | great k a =>
    have hin := setS_in hh.2 (gi 0)
    have hkin : ∀ y ∈ keepG k (setS (cs.headD cell0).2.2 (told.getD 0 none)), y ∈ A := fun y hy => hin y ((keepG_sub _ _).subset hy)
    have em : keepG k (setS ((cs.headD cell0).2.2.map ρ) ((told.getD 0 none).map ρ)) = (keepG k (setS (cs.headD cell0).2.2 (told.getD 0 none))).map ρ := by rw [setS_map m hh.2 (gi 0), keepG_map]
    refine ⟨?_, fun z e => ?_, hkin⟩
    · show ((if (keepG k (setS ((cs.map (mapC ρ)).headD cell0).2.2 ((told.map (Option.map ρ)).getD 0 none))).length = k then (keepG k (setS ((cs.map (mapC ρ)).headD cell0).2.2 ((told.map (Option.map ρ)).getD 0 none)))[0]? else none), ((cs.map (mapC ρ)).headD cell0).2.1, keepG k (setS ((cs.map (mapC ρ)).headD cell0).2.2 ((told.map (Option.map ρ)).getD 0 none))) = _
      rw [ed, g]
      show ((if (keepG k (setS ((cs.headD cell0).2.2.map ρ) ((told.getD 0 none).map ρ))).length = k then (keepG k (setS ((cs.headD cell0).2.2.map ρ) ((told.getD 0 none).map ρ)))[0]? else none), (cs.headD cell0).2.1, keepG k (setS ((cs.headD cell0).2.2.map ρ) ((told.getD 0 none).map ρ))) = _
      rw [em, List.length_map, List.getElem?_map]
      show ((if _ then _ else (none : O2).map ρ), _, _) = _
      rw [if_mapO]
      rfl
    · have e : (if (keepG k (setS (cs.headD cell0).2.2 (told.getD 0 none))).length = k then (keepG k (setS (cs.headD cell0).2.2 (told.getD 0 none)))[0]? else none) = some z := e
      split at e
      · exact hkin z (List.mem_of_getElem? e)
      · cases e
  | least k a =>
    have hin := setS_in hh.2 (gi 0)
    have hkin : ∀ y ∈ (setS (cs.headD cell0).2.2 (told.getD 0 none)).take k, y ∈ A := fun y hy => hin y (List.mem_of_mem_take hy)
    have em : (setS ((cs.headD cell0).2.2.map ρ) ((told.getD 0 none).map ρ)).take k = ((setS (cs.headD cell0).2.2 (told.getD 0 none)).take k).map ρ := by rw [setS_map m hh.2 (gi 0), List.map_take]
    refine ⟨?_, fun z e => ?_, hkin⟩
    · show ((if ((setS ((cs.map (mapC ρ)).headD cell0).2.2 ((told.map (Option.map ρ)).getD 0 none)).take k).length = k then ((setS ((cs.map (mapC ρ)).headD cell0).2.2 ((told.map (Option.map ρ)).getD 0 none)).take k)[k - 1]? else none), ((cs.map (mapC ρ)).headD cell0).2.1, (setS ((cs.map (mapC ρ)).headD cell0).2.2 ((told.map (Option.map ρ)).getD 0 none)).take k) = _
      rw [ed, g]
      show ((if ((setS ((cs.headD cell0).2.2.map ρ) ((told.getD 0 none).map ρ)).take k).length = k then ((setS ((cs.headD cell0).2.2.map ρ) ((told.getD 0 none).map ρ)).take k)[k - 1]? else none), (cs.headD cell0).2.1, (setS ((cs.headD cell0).2.2.map ρ) ((told.getD 0 none).map ρ)).take k) = _
      rw [em, List.length_map, List.getElem?_map]
      show ((if _ then _ else (none : O2).map ρ), _, _) = _
      rw [if_mapO]
      rfl
    · have e : (if ((setS (cs.headD cell0).2.2 (told.getD 0 none)).take k).length = k then ((setS (cs.headD cell0).2.2 (told.getD 0 none)).take k)[k - 1]? else none) = some z := e
      split at e
      · exact hkin z (List.mem_of_getElem? e)
      · cases e
  | times k a =>
    refine ⟨?_, fun z e => numi _ z e, hh.2⟩
    show ((if (if ((told.map (Option.map ρ)).getD 0 none).isSome then min (((cs.map (mapC ρ)).headD cell0).2.1 + 1) k else ((cs.map (mapC ρ)).headD cell0).2.1) = k then some (ρ x) else none), (if ((told.map (Option.map ρ)).getD 0 none).isSome then min (((cs.map (mapC ρ)).headD cell0).2.1 + 1) k else ((cs.map (mapC ρ)).headD cell0).2.1), ((cs.map (mapC ρ)).headD cell0).2.2) = _
    rw [ed, g, isSome_mapO, num]
    rfl
  | circle m' k a =>
    refine ⟨?_, fun z e => numi _ z e, hh.2⟩
    show ((if (if ((told.map (Option.map ρ)).getD 0 none).isSome then (((cs.map (mapC ρ)).headD cell0).2.1 + 1) % m' else ((cs.map (mapC ρ)).headD cell0).2.1) = k then some (ρ x) else none), (if ((told.map (Option.map ρ)).getD 0 none).isSome then (((cs.map (mapC ρ)).headD cell0).2.1 + 1) % m' else ((cs.map (mapC ρ)).headD cell0).2.1), ((cs.map (mapC ρ)).headD cell0).2.2) = _
    rw [ed, g, isSome_mapO, num]
    rfl
theorem belowC_map : ∀ (ks : List Qn) (cs : List Cell) (i : Nat), belowC ks (cs.map (mapC ρ)) i = (belowC ks cs i).map (List.map (mapC ρ))
  | [], _, _ => rfl
  | a :: ks, cs, i => by
    show sl _ i (qsz a) :: belowC ks _ (i + qsz a) = _
    rw [sl_map, belowC_map ks cs]
    rfl
theorem belowC_in {cs : List Cell} (h : CIn A cs) : ∀ (ks : List Qn) (i : Nat), ∀ c ∈ belowC ks cs i, CIn A c
  | [], _, _, hc => by cases hc
  | a :: ks, i, c, hc => by
    rcases List.mem_cons.mp hc with rfl | hc
    · exact sl_in h _ _
    · exact belowC_in h ks _ c hc
def HearM (A : List Q2) (ρ : Q2 → Q2) (q : Qn) : Prop := ∀ {cs : List Cell} {nm : Str} {x : Q2}, CIn A cs → x ∈ A → hearC q (cs.map (mapC ρ)) nm (ρ x) = (hearC q cs nm x).map (mapC ρ) ∧ CIn A (hearC q cs nm x)
theorem heardP_map {nm : Str} {x : Q2} (hx : x ∈ A) : ∀ {ks : List Qn} {bs : List (List Cell)}, (∀ a ∈ ks, HearM A ρ a) → (∀ b ∈ bs, CIn A b) →
    ((ks.zip (bs.map (List.map (mapC ρ)))).map fun p => hearC p.1 p.2 nm (ρ x)) = ((ks.zip bs).map fun p => hearC p.1 p.2 nm x).map (List.map (mapC ρ)) ∧ ∀ c ∈ ((ks.zip bs).map fun p => hearC p.1 p.2 nm x), CIn A c
  | [], _, _, _ => ⟨rfl, fun _ h => by cases h⟩
  | _ :: _, [], _, _ => ⟨rfl, fun _ h => by cases h⟩
  | a :: ks, b :: bs, ih, hb => by
    obtain ⟨e1, i1⟩ := ih a (by simp) (cs := b) (nm := nm) (x := x) (hb b (by simp)) hx
    obtain ⟨e2, i2⟩ := heardP_map (nm := nm) hx (ks := ks) (bs := bs) (fun c hc => ih c (List.mem_cons_of_mem _ hc)) (fun c hc => hb c (List.mem_cons_of_mem _ hc))
    refine ⟨?_, fun c hc => ?_⟩
    · show hearC a (b.map (mapC ρ)) nm (ρ x) :: ((ks.zip (bs.map (List.map (mapC ρ)))).map fun p => hearC p.1 p.2 nm (ρ x)) = _
      rw [e1, e2]
      rfl
    · rcases List.mem_cons.mp hc with rfl | hc
      · exact i1
      · exact i2 c hc
theorem heard_map {q : Qn} (ih : ∀ a ∈ kids q, HearM A ρ a) {cs : List Cell} (hc : CIn A cs) {nm : Str} {x : Q2} (hx : x ∈ A) : heardC q (cs.map (mapC ρ)) nm (ρ x) = (heardC q cs nm x).map (List.map (mapC ρ)) ∧ ∀ c ∈ heardC q cs nm x, CIn A c := by
  cases q with
  | since a b =>
    obtain ⟨e1, i1⟩ := ih a (by simp [kids]) (cs := sl cs 1 (qsz a)) (nm := nm) (x := x) (sl_in hc _ _) hx
    obtain ⟨e2, i2⟩ := ih b (by simp [kids]) (cs := sl cs (1 + qsz a) (qsz b)) (nm := nm) (x := x) (sl_in hc _ _) hx
    simp only [heardC]
    rw [sl_map, e1, hdO_map, isSome_mapO, sl_map, e2]
    refine ⟨?_, fun c hc' => ?_⟩
    · rw [List.map_cons, List.map_cons, List.map_nil]
      split
      · rw [rep_map]
      · rfl
    · simp only [List.mem_cons, List.not_mem_nil, or_false] at hc'
      rcases hc' with rfl | rfl
      · exact i1
      · split
        · exact rep_in _
        · exact i2
  | among a b =>
    obtain ⟨e1, i1⟩ := ih a (by simp [kids]) (cs := sl cs 1 (qsz a)) (nm := nm) (x := x) (sl_in hc _ _) hx
    obtain ⟨e2, i2⟩ := ih b (by simp [kids]) (cs := sl cs (1 + qsz a) (qsz b)) (nm := nm) (x := x) (sl_in hc _ _) hx
    simp only [heardC]
    rw [sl_map, e1, hdO_map, isSome_mapO, sl_map, e2]
    refine ⟨?_, fun c hc' => ?_⟩
    · rw [List.map_cons, List.map_cons, List.map_nil]
      split <;> rfl
    · simp only [List.mem_cons, List.not_mem_nil, or_false] at hc'
      rcases hc' with rfl | rfl
      · exact i1
      · split
        · exact i2
        · exact sl_in hc _ _
  | _ =>
    simp only [heardC]
    rw [belowC_map]
    exact heardP_map hx ih (belowC_in hc _ _)
theorem hear_map (m : Mono A ρ) : ∀ q, HearM A ρ q := qn_ind fun q ih cs nm x hc hx => by
  obtain ⟨e, i⟩ := heard_map ih hc (nm := nm) hx
  rw [hear_eq, hear_eq, e]
  unfold finC
  have et : ((heardC q cs nm x).map (List.map (mapC ρ))).map hdO = ((heardC q cs nm x).map hdO).map (Option.map ρ) := by
    rw [List.map_map, List.map_map]
    exact List.map_congr_left fun c _ => hdO_map c
  have ht : OIn A ((heardC q cs nm x).map hdO) := fun z hz => by
    obtain ⟨c, hc', e⟩ := List.mem_map.mp hz
    exact (head_in (i c hc')).1 z e
  obtain ⟨e2, i2⟩ := own_map m q hc ht (nm := nm) hx
  rw [et, e2]
  refine ⟨?_, fun c hc' => ?_⟩
  · rw [List.map_cons, List.map_flatten]
  · rcases List.mem_cons.mp hc' with rfl | hc'
    · exact i2
    · obtain ⟨l, hl, hcl⟩ := List.mem_flatten.mp hc'
      exact i l hl c hcl
def mapR (ρ : Q2 → Q2) (row : List Rec) : List Rec := row.map fun r => (r.1, ρ r.2)
theorem fold_map (m : Mono A ρ) (q : Qn) : ∀ {row : List Rec}, (∀ r ∈ row, r.2 ∈ A) → foldC q (mapR ρ row) = (foldC q row).map (mapC ρ) ∧ CIn A (foldC q row) := by
  intro row
  induction row using srec with
  | h0 => exact fun _ => ⟨(rep_map _).symm, rep_in _⟩
  | h1 row r ih =>
    intro h
    obtain ⟨e, i⟩ := ih fun x hx => h x (List.mem_append_left _ hx)
    obtain ⟨e2, i2⟩ := hear_map m q (cs := foldC q row) (nm := r.1) (x := r.2) i (h r (by simp))
    unfold mapR at e ⊢
    rw [List.map_append, List.map_cons, List.map_nil, foldC_snoc, foldC_snoc, e]
    exact ⟨e2, i2⟩
theorem mean_map (m : Mono A ρ) {q : Qn} (hq : Qk q) {row : List Rec} (h : ∀ r ∈ row, r.2 ∈ A) (h1 : RowOk row) (h2 : RowOk (mapR ρ row)) : mean q (mapR ρ row) = (mean q row).map ρ ∧ ∀ y, mean q row = some y → y ∈ A := by
  obtain ⟨e, i⟩ := fold_map m q h
  have e1 := hdO_fold (heard_all hq) h1
  have e2 := hdO_fold (heard_all hq) h2
  refine ⟨?_, fun y hy => ?_⟩
  · rw [← e1, ← e2, e, hdO_map]
  · rw [← e1] at hy
    exact (head_in i).1 y hy
end
end My

namespace My
open PySem PySem.Spec PyProof.Rows L2 NumText TL
section
variable {P : Program} {w : World} {K : PySem.W.Frag} {mg : Str → Option Value} {base : Heap}
/-! ### _law_row -/
def sp_lrow (K : PySem.W.Frag) : Sp := fun vs H Q _ => ∃ (st nm : Addr) (n : Nat) (ns : List Str) (most : Nat), vs = [.ref st, .ref nm, .int (most : Int)] ∧ St H st n ∧ n < 2 ^ 30 ∧ SqT K H nm (ns.map V.str) ∧ NsOk ns ∧ most ≤ 50 ∧
  ∀ D vs' row n' H', SX st H H' → St H' st n' → n' ≤ n + 1000 → H D = none → H' D = some (.lst vs') → Paired (Rv K H') vs' row → RowOk row → (∀ r ∈ row, r.1 ∈ ns) → row.length ≤ most → Q (.ref D) H'
theorem ok_law_row (T : Top K mg w) : FnOk P w K mg base CX0 4 T.a_law_row T.d_law_row ["state", "names", "most"] (sp_lrow K) := by
  refine T.F_law_row.ok sc_law_row (fun vs H Q E h => ?_) (fun cdv A outer s H vs Q E hr h => ?_)
  · obtain ⟨st, nm, n, ns, most, rfl, _⟩ := h
    rfl
  obtain ⟨st, nm, n, ns, most, rfl, hs, hn, hN, hno, hm, q⟩ := h
  refine ⟨_, (pss_cons (ps_set (i := 3) sc_law_row.nd rfl (Or.inl rfl) (pe_lst pa_nil))
      (pss_cons (ps_for PassesOwn.never rfl (pi_range1 (by rfl) T.z_range (pa_cons (pe_call ((ok_law_take T).mono (by decide)) hr (by rfl) T.m_law_take T.F_law_take.kp T.b_law_take .nil pass0 (pa_cons (pv 0) (pa_cons (pe_op op_add (pv 2) pe_int) pa_nil))) pa_nil)) (pg_name (i := 4) sc_law_row.nd rfl (Or.inl rfl))
        (pss_cons (ps_set (i := 5) sc_law_row.nd rfl (Or.inl rfl) (pe_call ((ok_law_number T).mono (by decide)) hr (by rfl) T.m_law_number T.F_law_number.kp T.b_law_number .nil pass0 (pa_cons (pv 0) pa_nil)))
      (C8.pss_cut (ps_if (PW.pt (pw_and (pt_cmpR op_gt (pe_callB call_len_seq (by rfl) T.z_len (by decide +kernel) (pa_cons (pv 3) pa_nil)) pe_int (nomark _)) (pw_and1 (pt_cmpR op_eq (pe_call ((ok_law_take T).mono (by decide)) hr (by rfl) T.m_law_take T.F_law_take.kp T.b_law_take .nil pass0 (pa_cons (pv 0) (pa_cons pe_int pa_nil))) pe_int (nomark _)))))
        (pss_one (ps_set (i := 5) sc_law_row.nd rfl (Or.inl rfl) (pe_ix ix_tup (pe_ix ix_list (pv 3) (pe_call ((ok_law_take T).mono (by decide)) hr (by rfl) T.m_law_take T.F_law_take.kp T.b_law_take .nil pass0 (pa_cons (pv 0) (pa_cons (pe_callB call_len_seq (by rfl) T.z_len (by decide +kernel) (pa_cons (pv 3) pa_nil)) pa_nil))) (fun _ _ => rfl)) pe_int (fun _ _ => rfl))))
        pss_nil)
      (pss_one (ps_expr (pe_bm PySem.F.plainAttrs_list PySem.F.slot_list_append PySem.F.type_list_append mt_append (pv 3) (pa_cons (pe_tup (pa_cons (pe_ix ix_tup (pv 1) (pe_call ((ok_law_take T).mono (by decide)) hr (by rfl) T.m_law_take T.F_law_take.kp T.b_law_take .nil pass0 (pa_cons (pv 0) (pa_cons (pe_callB call_len_seq (by rfl) T.z_len (by decide +kernel) (pa_cons (pv 1) pa_nil)) pa_nil))) (fun _ _ => rfl)) (pa_cons (pv 5) pa_nil))) pa_nil)))))))
      (pss_one (ps_ret (pv 3))))), ?_⟩
  (repeat (first
      | refine ⟨_, rfl, ?_⟩
      | refine ⟨_, _, rfl, rfl, ?_⟩
      | refine Or.inl ⟨_, rfl, ?_⟩
      | refine Or.inr ⟨_, rfl, ?_⟩
      | refine ⟨Or.inl ⟨by decide, by decide⟩, ?_⟩
      | refine ⟨Or.inr ⟨by decide, by decide⟩, ?_⟩
      | refine ⟨⟨by decide, by decide⟩, ?_⟩
      | refine ⟨⟨by decide, by decide, by decide⟩, ?_⟩
      | refine ⟨by decide, ?_⟩
      | refine ⟨(by show (0 : Int) < _; decide), ?_⟩
      | refine ⟨rfl, ?_⟩
      | refine ⟨⟨_, rfl⟩, ?_⟩
      | refine ⟨_, rfl, rfl, trivial, ?_⟩
      | refine ⟨_, _, rfl, ?_⟩))
  refine fun D hD => ?_
  have hDst : D ≠ st := fun z => by
    obtain ⟨xs, hx⟩ := hs.isL
    rw [z, hx] at hD
    cases hD
  have s0 := hs.new (o := .lst []) hD
  have x0 : SX st H (upd H D (.lst [])) := SX.new hD
  have hD0 : (upd H D (.lst [])) D = some (.lst []) := upd_same
  generalize upd H D (.lst []) = H0 at s0 x0 hD0 ⊢
  (repeat (first
      | refine ifF ?_
      | refine ifT ?_
      | refine ⟨_, rfl, ?_⟩
      | refine ⟨_, _, rfl, rfl, ?_⟩
      | refine Or.inl ⟨_, rfl, ?_⟩
      | refine Or.inr ⟨_, rfl, ?_⟩
      | refine ⟨Or.inl ⟨by decide, by decide⟩, ?_⟩
      | refine ⟨Or.inr ⟨by decide, by decide⟩, ?_⟩
      | refine ⟨⟨by decide, by decide⟩, ?_⟩
      | refine ⟨⟨by decide, by decide, by decide⟩, ?_⟩
      | refine ⟨by decide, ?_⟩
      | refine ⟨(by show (0 : Int) < _; decide), ?_⟩
      | refine ⟨rfl, ?_⟩
      | refine ⟨⟨_, rfl⟩, ?_⟩
      | refine ⟨_, rfl, rfl, trivial, ?_⟩
      | refine ⟨_, _, rfl, ?_⟩))
  refine ⟨st, n, (most : Int) + 1, rfl, s0, by omega, by omega, fun v H1 v0 v1 x1 s1 => ?_⟩
  have x01 := x0.trans x1
  have hD1 := x1.lst hDst hD0
  (repeat (first
      | refine ifF ?_
      | refine ifT ?_
      | refine ⟨_, rfl, ?_⟩
      | refine ⟨_, _, rfl, rfl, ?_⟩
      | refine Or.inl ⟨_, rfl, ?_⟩
      | refine Or.inr ⟨_, rfl, ?_⟩
      | refine ⟨Or.inl ⟨by decide, by decide⟩, ?_⟩
      | refine ⟨Or.inr ⟨by decide, by decide⟩, ?_⟩
      | refine ⟨⟨by decide, by decide⟩, ?_⟩
      | refine ⟨⟨by decide, by decide, by decide⟩, ?_⟩
      | refine ⟨by decide, ?_⟩
      | refine ⟨(by show (0 : Int) < _; decide), ?_⟩
      | refine ⟨rfl, ?_⟩
      | refine ⟨⟨_, rfl⟩, ?_⟩
      | refine ⟨_, rfl, rfl, trivial, ?_⟩
      | refine ⟨_, _, rfl, ?_⟩))
  refine ⟨by omega, by omega, ?_⟩
  obtain ⟨m, rfl⟩ : ∃ m : Nat, v = (m : Int) := ⟨v.toNat, by omega⟩
  rw [show ((m : Nat) : Int).toNat = m from rfl]
  refine for_range (lo := 0) (n := m) (fun i σ H' => ∃ (vs' : List V) (row : List Rec) (n' : Nat) (y4 y5 : Option V), σ = [some (.ref st), some (.ref nm), some (.int (most : Int)), some (.ref D), y4, y5] ∧ SX st H H' ∧ St H' st n' ∧ n' ≤ n + 1 + 10 * i ∧ H' D = some (.lst vs') ∧ Paired (Rv K H') vs' row ∧ RowOk row ∧ (∀ r ∈ row, r.1 ∈ ns) ∧ row.length = i) ⟨[], [], n + 1, none, none, rfl, x01, s1, by omega, hD1, .nil, (fun _ h => by cases h), (fun _ h => by cases h), rfl⟩ ?_ ?_
  · rintro i σ H' hi ⟨vs', row, n', y4, y5, rfl, sx, hs', hn', hDl, hvp, hok, hnm', hlen⟩
    have lv := Paired.length hvp
    (repeat (first
      | refine ifF ?_
      | refine ifT ?_
      | refine ⟨_, rfl, ?_⟩
      | refine ⟨_, _, rfl, rfl, ?_⟩
      | refine Or.inl ⟨_, rfl, ?_⟩
      | refine Or.inr ⟨_, rfl, ?_⟩
      | refine ⟨Or.inl ⟨by decide, by decide⟩, ?_⟩
      | refine ⟨Or.inr ⟨by decide, by decide⟩, ?_⟩
      | refine ⟨⟨by decide, by decide⟩, ?_⟩
      | refine ⟨⟨by decide, by decide, by decide⟩, ?_⟩
      | refine ⟨by decide, ?_⟩
      | refine ⟨(by show (0 : Int) < _; decide), ?_⟩
      | refine ⟨rfl, ?_⟩
      | refine ⟨⟨_, rfl⟩, ?_⟩
      | refine ⟨_, rfl, rfl, trivial, ?_⟩
      | refine ⟨_, _, rfl, ?_⟩))
    refine ⟨st, n', rfl, hs', by omega, fun pq xq n2 H2 x2 s2 hn2 hnm hgd => ?_⟩
    have hD2 := x2.lst hDst hDl
    have hv2 := Rs.tx (TX.sx x2) hvp
    refine ⟨fun σ' H' => ∃ (pq' : Addr) (xq' : Q2) (n3 : Nat), σ' = [some (.ref st), some (.ref nm), some (.int (most : Int)), some (.ref D), some (.int (0 + (i : Int))), some (.ref pq')] ∧ SX st H2 H' ∧ St H' st n3 ∧ n3 ≤ n2 + 2 ∧ Nm K H' pq' xq' ∧ gd2 xq', ?_, ?_⟩
    · (repeat (first
      | refine ifF ?_
      | refine ifT ?_
      | refine ⟨_, rfl, ?_⟩
      | refine ⟨_, _, rfl, rfl, ?_⟩
      | refine Or.inl ⟨_, rfl, ?_⟩
      | refine Or.inr ⟨_, rfl, ?_⟩
      | refine ⟨Or.inl ⟨by decide, by decide⟩, ?_⟩
      | refine ⟨Or.inr ⟨by decide, by decide⟩, ?_⟩
      | refine ⟨⟨by decide, by decide⟩, ?_⟩
      | refine ⟨⟨by decide, by decide, by decide⟩, ?_⟩
      | refine ⟨by decide, ?_⟩
      | refine ⟨(by show (0 : Int) < _; decide), ?_⟩
      | refine ⟨rfl, ?_⟩
      | refine ⟨⟨_, rfl⟩, ?_⟩
      | refine ⟨_, rfl, rfl, trivial, ?_⟩
      | refine ⟨_, _, rfl, ?_⟩))
      refine ⟨D, _, rfl, .inl (SqL.of hD2), ?_⟩
      (repeat (first
      | refine ifF ?_
      | refine ifT ?_
      | refine ⟨_, rfl, ?_⟩
      | refine ⟨_, _, rfl, rfl, ?_⟩
      | refine Or.inl ⟨_, rfl, ?_⟩
      | refine Or.inr ⟨_, rfl, ?_⟩
      | refine ⟨Or.inl ⟨by decide, by decide⟩, ?_⟩
      | refine ⟨Or.inr ⟨by decide, by decide⟩, ?_⟩
      | refine ⟨⟨by decide, by decide⟩, ?_⟩
      | refine ⟨⟨by decide, by decide, by decide⟩, ?_⟩
      | refine ⟨by decide, ?_⟩
      | refine ⟨(by show (0 : Int) < _; decide), ?_⟩
      | refine ⟨rfl, ?_⟩
      | refine ⟨⟨_, rfl⟩, ?_⟩
      | refine ⟨_, rfl, rfl, trivial, ?_⟩
      | refine ⟨_, _, rfl, ?_⟩))
      refine ite_dec (fun c => ?_) (fun c => ?_)
      · (repeat (first
      | refine ifF ?_
      | refine ifT ?_
      | refine ⟨_, rfl, ?_⟩
      | refine ⟨_, _, rfl, rfl, ?_⟩
      | refine Or.inl ⟨_, rfl, ?_⟩
      | refine Or.inr ⟨_, rfl, ?_⟩
      | refine ⟨Or.inl ⟨by decide, by decide⟩, ?_⟩
      | refine ⟨Or.inr ⟨by decide, by decide⟩, ?_⟩
      | refine ⟨⟨by decide, by decide⟩, ?_⟩
      | refine ⟨⟨by decide, by decide, by decide⟩, ?_⟩
      | refine ⟨by decide, ?_⟩
      | refine ⟨(by show (0 : Int) < _; decide), ?_⟩
      | refine ⟨rfl, ?_⟩
      | refine ⟨⟨_, rfl⟩, ?_⟩
      | refine ⟨_, rfl, rfl, trivial, ?_⟩
      | refine ⟨_, _, rfl, ?_⟩))
        refine ⟨st, n2, 3, rfl, s2, by omega, by decide, fun u H3 u0 u1 x3 s3 => ?_⟩
        have hD3 := x3.lst hDst hD2
        have hv3 := Rs.tx (TX.sx x3) hv2
        (repeat (first
      | refine ifF ?_
      | refine ifT ?_
      | refine ⟨_, rfl, ?_⟩
      | refine ⟨_, _, rfl, rfl, ?_⟩
      | refine Or.inl ⟨_, rfl, ?_⟩
      | refine Or.inr ⟨_, rfl, ?_⟩
      | refine ⟨Or.inl ⟨by decide, by decide⟩, ?_⟩
      | refine ⟨Or.inr ⟨by decide, by decide⟩, ?_⟩
      | refine ⟨⟨by decide, by decide⟩, ?_⟩
      | refine ⟨⟨by decide, by decide, by decide⟩, ?_⟩
      | refine ⟨by decide, ?_⟩
      | refine ⟨(by show (0 : Int) < _; decide), ?_⟩
      | refine ⟨rfl, ?_⟩
      | refine ⟨⟨_, rfl⟩, ?_⟩
      | refine ⟨_, rfl, rfl, trivial, ?_⟩
      | refine ⟨_, _, rfl, ?_⟩))
        refine ite_dec (fun c2 => ?_) (fun c2 => ?_)
        · (repeat (first
      | refine ifF ?_
      | refine ifT ?_
      | refine ⟨_, rfl, ?_⟩
      | refine ⟨_, _, rfl, rfl, ?_⟩
      | refine Or.inl ⟨_, rfl, ?_⟩
      | refine Or.inr ⟨_, rfl, ?_⟩
      | refine ⟨Or.inl ⟨by decide, by decide⟩, ?_⟩
      | refine ⟨Or.inr ⟨by decide, by decide⟩, ?_⟩
      | refine ⟨⟨by decide, by decide⟩, ?_⟩
      | refine ⟨⟨by decide, by decide, by decide⟩, ?_⟩
      | refine ⟨by decide, ?_⟩
      | refine ⟨(by show (0 : Int) < _; decide), ?_⟩
      | refine ⟨rfl, ?_⟩
      | refine ⟨⟨_, rfl⟩, ?_⟩
      | refine ⟨_, rfl, rfl, trivial, ?_⟩
      | refine ⟨_, _, rfl, ?_⟩))
          refine ⟨D, _, rfl, .inl (SqL.of hD3), ?_⟩
          (repeat (first
      | refine ifF ?_
      | refine ifT ?_
      | refine ⟨_, rfl, ?_⟩
      | refine ⟨_, _, rfl, rfl, ?_⟩
      | refine Or.inl ⟨_, rfl, ?_⟩
      | refine Or.inr ⟨_, rfl, ?_⟩
      | refine ⟨Or.inl ⟨by decide, by decide⟩, ?_⟩
      | refine ⟨Or.inr ⟨by decide, by decide⟩, ?_⟩
      | refine ⟨⟨by decide, by decide⟩, ?_⟩
      | refine ⟨⟨by decide, by decide, by decide⟩, ?_⟩
      | refine ⟨by decide, ?_⟩
      | refine ⟨(by show (0 : Int) < _; decide), ?_⟩
      | refine ⟨rfl, ?_⟩
      | refine ⟨⟨_, rfl⟩, ?_⟩
      | refine ⟨_, rfl, rfl, trivial, ?_⟩
      | refine ⟨_, _, rfl, ?_⟩))
          refine ⟨st, n2 + 1, ((vs'.length : Nat) : Int), rfl, s3, by omega, by omega, fun j H4 j0 j1 x4 s4 => ?_⟩
          have hD4 := x4.lst hDst hD3
          have hv4 := Rs.tx (TX.sx x4) hv3
          obtain ⟨jn, rfl⟩ : ∃ jn : Nat, j = (jn : Int) := ⟨j.toNat, by omega⟩
          have hj : jn < row.length := by omega
          obtain ⟨r, hr1, pr, pn, rfl, hpr, hpn⟩ := pget3 hv4 hj
          (repeat (first
      | refine ifF ?_
      | refine ifT ?_
      | refine ⟨_, rfl, ?_⟩
      | refine ⟨_, _, rfl, rfl, ?_⟩
      | refine Or.inl ⟨_, rfl, ?_⟩
      | refine Or.inr ⟨_, rfl, ?_⟩
      | refine ⟨Or.inl ⟨by decide, by decide⟩, ?_⟩
      | refine ⟨Or.inr ⟨by decide, by decide⟩, ?_⟩
      | refine ⟨⟨by decide, by decide⟩, ?_⟩
      | refine ⟨⟨by decide, by decide, by decide⟩, ?_⟩
      | refine ⟨by decide, ?_⟩
      | refine ⟨(by show (0 : Int) < _; decide), ?_⟩
      | refine ⟨rfl, ?_⟩
      | refine ⟨⟨_, rfl⟩, ?_⟩
      | refine ⟨_, rfl, rfl, trivial, ?_⟩
      | refine ⟨_, _, rfl, ?_⟩))
          refine ⟨D, _, _, _, rfl, rfl, SqL.of hD4, atI_nat hr1, ?_⟩
          (repeat (first
      | refine ifF ?_
      | refine ifT ?_
      | refine ⟨_, rfl, ?_⟩
      | refine ⟨_, _, rfl, rfl, ?_⟩
      | refine Or.inl ⟨_, rfl, ?_⟩
      | refine Or.inr ⟨_, rfl, ?_⟩
      | refine ⟨Or.inl ⟨by decide, by decide⟩, ?_⟩
      | refine ⟨Or.inr ⟨by decide, by decide⟩, ?_⟩
      | refine ⟨⟨by decide, by decide⟩, ?_⟩
      | refine ⟨⟨by decide, by decide, by decide⟩, ?_⟩
      | refine ⟨by decide, ?_⟩
      | refine ⟨(by show (0 : Int) < _; decide), ?_⟩
      | refine ⟨rfl, ?_⟩
      | refine ⟨⟨_, rfl⟩, ?_⟩
      | refine ⟨_, rfl, rfl, trivial, ?_⟩
      | refine ⟨_, _, rfl, ?_⟩))
          refine ⟨pr, _, 1, _, rfl, rfl, hpr, atI_nat (j := 1) rfl, ?_⟩
          exact ⟨pn, row[jn].2, n2 + 2, rfl, x3.trans x4, s4, by omega, hpn, hok _ (List.getElem_mem hj)⟩
        · (repeat (first
      | refine ifF ?_
      | refine ifT ?_
      | refine ⟨_, rfl, ?_⟩
      | refine ⟨_, _, rfl, rfl, ?_⟩
      | refine Or.inl ⟨_, rfl, ?_⟩
      | refine Or.inr ⟨_, rfl, ?_⟩
      | refine ⟨Or.inl ⟨by decide, by decide⟩, ?_⟩
      | refine ⟨Or.inr ⟨by decide, by decide⟩, ?_⟩
      | refine ⟨⟨by decide, by decide⟩, ?_⟩
      | refine ⟨⟨by decide, by decide, by decide⟩, ?_⟩
      | refine ⟨by decide, ?_⟩
      | refine ⟨(by show (0 : Int) < _; decide), ?_⟩
      | refine ⟨rfl, ?_⟩
      | refine ⟨⟨_, rfl⟩, ?_⟩
      | refine ⟨_, rfl, rfl, trivial, ?_⟩
      | refine ⟨_, _, rfl, ?_⟩))
          exact ⟨pq, xq, n2 + 1, rfl, x3, s3, by omega, Nm.sx x3 hnm, hgd⟩
      · (repeat (first
      | refine ifF ?_
      | refine ifT ?_
      | refine ⟨_, rfl, ?_⟩
      | refine ⟨_, _, rfl, rfl, ?_⟩
      | refine Or.inl ⟨_, rfl, ?_⟩
      | refine Or.inr ⟨_, rfl, ?_⟩
      | refine ⟨Or.inl ⟨by decide, by decide⟩, ?_⟩
      | refine ⟨Or.inr ⟨by decide, by decide⟩, ?_⟩
      | refine ⟨⟨by decide, by decide⟩, ?_⟩
      | refine ⟨⟨by decide, by decide, by decide⟩, ?_⟩
      | refine ⟨by decide, ?_⟩
      | refine ⟨(by show (0 : Int) < _; decide), ?_⟩
      | refine ⟨rfl, ?_⟩
      | refine ⟨⟨_, rfl⟩, ?_⟩
      | refine ⟨_, rfl, rfl, trivial, ?_⟩
      | refine ⟨_, _, rfl, ?_⟩))
        exact ⟨pq, xq, n2, rfl, SX.refl _ _, s2, by omega, hnm, hgd⟩
    · rintro σ' H3 ⟨pq', xq', n3, rfl, x3, s3, hn3, hnm3, hgd3⟩
      have hD3 := x3.lst hDst hD2
      have hv3 := Rs.tx (TX.sx x3) hv2
      have sx3 := (sx.trans x2).trans x3
      have hN3 := sx3.seqT hN
      (repeat (first
      | refine ifF ?_
      | refine ifT ?_
      | refine ⟨_, rfl, ?_⟩
      | refine ⟨_, _, rfl, rfl, ?_⟩
      | refine Or.inl ⟨_, rfl, ?_⟩
      | refine Or.inr ⟨_, rfl, ?_⟩
      | refine ⟨Or.inl ⟨by decide, by decide⟩, ?_⟩
      | refine ⟨Or.inr ⟨by decide, by decide⟩, ?_⟩
      | refine ⟨⟨by decide, by decide⟩, ?_⟩
      | refine ⟨⟨by decide, by decide, by decide⟩, ?_⟩
      | refine ⟨by decide, ?_⟩
      | refine ⟨(by show (0 : Int) < _; decide), ?_⟩
      | refine ⟨rfl, ?_⟩
      | refine ⟨⟨_, rfl⟩, ?_⟩
      | refine ⟨_, rfl, rfl, trivial, ?_⟩
      | refine ⟨_, _, rfl, ?_⟩))
      refine ⟨.inl ⟨rfl, _, SqL.of hD3⟩, ?_⟩
      (repeat (first
      | refine ifF ?_
      | refine ifT ?_
      | refine ⟨_, rfl, ?_⟩
      | refine ⟨_, _, rfl, rfl, ?_⟩
      | refine Or.inl ⟨_, rfl, ?_⟩
      | refine Or.inr ⟨_, rfl, ?_⟩
      | refine ⟨Or.inl ⟨by decide, by decide⟩, ?_⟩
      | refine ⟨Or.inr ⟨by decide, by decide⟩, ?_⟩
      | refine ⟨⟨by decide, by decide⟩, ?_⟩
      | refine ⟨⟨by decide, by decide, by decide⟩, ?_⟩
      | refine ⟨by decide, ?_⟩
      | refine ⟨(by show (0 : Int) < _; decide), ?_⟩
      | refine ⟨rfl, ?_⟩
      | refine ⟨⟨_, rfl⟩, ?_⟩
      | refine ⟨_, rfl, rfl, trivial, ?_⟩
      | refine ⟨_, _, rfl, ?_⟩))
      refine ⟨nm, _, rfl, .inr hN3, ?_⟩
      (repeat (first
      | refine ifF ?_
      | refine ifT ?_
      | refine ⟨_, rfl, ?_⟩
      | refine ⟨_, _, rfl, rfl, ?_⟩
      | refine Or.inl ⟨_, rfl, ?_⟩
      | refine Or.inr ⟨_, rfl, ?_⟩
      | refine ⟨Or.inl ⟨by decide, by decide⟩, ?_⟩
      | refine ⟨Or.inr ⟨by decide, by decide⟩, ?_⟩
      | refine ⟨⟨by decide, by decide⟩, ?_⟩
      | refine ⟨⟨by decide, by decide, by decide⟩, ?_⟩
      | refine ⟨by decide, ?_⟩
      | refine ⟨(by show (0 : Int) < _; decide), ?_⟩
      | refine ⟨rfl, ?_⟩
      | refine ⟨⟨_, rfl⟩, ?_⟩
      | refine ⟨_, rfl, rfl, trivial, ?_⟩
      | refine ⟨_, _, rfl, ?_⟩))
      rw [List.length_map]
      refine ⟨st, n3, ((ns.length : Nat) : Int), rfl, s3, by omega, by have := hno.2.1; omega, fun j H4 j0 j1 x4 s4 => ?_⟩
      have hD4 := x4.lst hDst hD3
      have hv4 := Rs.tx (TX.sx x4) hv3
      have hN4 := x4.seqT hN3
      obtain ⟨jn, rfl⟩ : ∃ jn : Nat, j = (jn : Int) := ⟨j.toNat, by omega⟩
      have hj : jn < ns.length := by omega
      (repeat (first
      | refine ifF ?_
      | refine ifT ?_
      | refine ⟨_, rfl, ?_⟩
      | refine ⟨_, _, rfl, rfl, ?_⟩
      | refine Or.inl ⟨_, rfl, ?_⟩
      | refine Or.inr ⟨_, rfl, ?_⟩
      | refine ⟨Or.inl ⟨by decide, by decide⟩, ?_⟩
      | refine ⟨Or.inr ⟨by decide, by decide⟩, ?_⟩
      | refine ⟨⟨by decide, by decide⟩, ?_⟩
      | refine ⟨⟨by decide, by decide, by decide⟩, ?_⟩
      | refine ⟨by decide, ?_⟩
      | refine ⟨(by show (0 : Int) < _; decide), ?_⟩
      | refine ⟨rfl, ?_⟩
      | refine ⟨⟨_, rfl⟩, ?_⟩
      | refine ⟨_, rfl, rfl, trivial, ?_⟩
      | refine ⟨_, _, rfl, ?_⟩))
      refine ⟨nm, _, _, _, rfl, rfl, hN4, atI_nat (j := jn) (by rw [List.getElem?_map, List.getElem?_eq_getElem hj]; rfl), ?_⟩
      refine ⟨_, rfl, by show 2 ≤ sizeLine; decide, fun pt hpt => ?_⟩
      have s5 : L2.Same H4 (upd H4 pt (.tup [.str ns[jn], .ref pq'])) := same_upd hpt
      have h5 : (upd H4 pt (.tup [.str ns[jn], .ref pq'])) pt = some (.tup [.str ns[jn], .ref pq']) := upd_same
      have x5 : SX st H4 (upd H4 pt (.tup [.str ns[jn], .ref pq'])) := SX.new hpt
      have st5 := s4.new (o := .tup [.str ns[jn], .ref pq']) hpt
      have hD5 := s5 _ _ hD4
      have hv5 := Rs.tx (TX.same s5) hv4
      have hnm5 := Nm.same s5 (Nm.sx x4 hnm3)
      have sx5 := (sx3.trans x4).trans x5
      generalize upd H4 pt (.tup [.str ns[jn], .ref pq']) = H5 at s5 h5 x5 st5 hD5 hv5 hnm5 sx5 ⊢
      refine ⟨D, _, _, rfl, rfl, hD5, smallL (by omega), ?_⟩
      have tx6 : TX K H5 (upd H5 D (.lst (vs' ++ [.ref pt]))) := TX.lst hD5
      refine ⟨vs' ++ [.ref pt], row ++ [(ns[jn], xq')], n3 + 1, _, _, rfl, SX.new2 hD sx5, St.upd hs hD sx5 st5, by omega, upd_same, papp (Rs.tx tx6 hv5) (.cons ⟨pt, pq', rfl, tx6 _ _ (SqT.of h5), tx6 _ _ hnm5⟩ .nil), fun r hr => ?_, fun r hr => ?_, by rw [List.length_append, hlen]; rfl⟩
      · rcases List.mem_append.mp hr with h | h
        · exact hok r h
        · rw [List.mem_singleton.mp h]
          exact hgd3
      · rcases List.mem_append.mp hr with h | h
        · exact hnm' r h
        · rw [List.mem_singleton.mp h]
          exact List.getElem_mem hj
  · rintro σ H' ⟨vs', row, n', y4, y5, rfl, sx, hs', hn', hDl, hvp, hok, hnm', hlen⟩
    exact ⟨_, rfl, q D vs' row n' H' sx hs' (by omega) hD hDl hvp hok hnm' (by omega)⟩
end
end My

namespace My
open PySem PySem.Spec PyProof.Rows L2
variable {X : Cx}
/-- t.index(x) of data in a tuple, the first place -/
def rTIndexD (K : PySem.W.Frag) : V → List V → Hp → VK → Prop := fun x xs H Q => ∃ (a : Addr) (y : V) (d : PyData) (ds : List PyData) (j : Nat) (z : PyData), x = V.ref a ∧ xs = [y] ∧ Dp K H (V.ref a) (.tuple ds) ∧ Dp K H y d ∧ SeqAt.shaped (.tuple ds) = true ∧ SeqAt.shaped d = true ∧ ds[j]? = some z ∧ PyData.eqv z d = true ∧ (∀ (m : Nat) (z' : PyData), m < j → ds[m]? = some z' → PyData.eqv z' d = false) ∧ Q (.int (j : Nat)) H
theorem mt_tup_indexD (hu : X.A.units + 65 < cLine) : MtR X "tuple.index" (rTIndexD X.K) := by
  intro pins s σ H x xs v us Q I rx rxs h
  obtain ⟨a, y, d, ds, j, z, rfl, rfl, hl, hy, sl, sd, hz, hzj, hno, q⟩ := h
  cases rx
  cases rxs with
  | cons ry rt =>
    rename_i uy ut
    cases rt
    obtain ⟨bs, r1⟩ := Dp.reads I d y uy hy ry
    have hxs : PyData.canLayAll0 ds = true := SeqAt.canLay_of_shaped sl
    have hroom : X.A.units + 1 + min (PyData.depthAll ds) d.depth < cLine := room_in_shaped sd hu
    cases hl with
    | tup hs ha =>
      obtain ⟨its, rv, ⟨⟨cls, dd, data, sls⟩, ho, hc, n, hdt⟩, hlen⟩ := I.tuple hs
      simp only at hc hdt
      subst hc hdt
      obtain ⟨as, h4⟩ := Dp.readsAll I ds _ its ha rv
      have hn : its.length = ds.length := SeqAt.ReadsAll.length ds its as h4
      have hmap : its.map (SeqAt.readOf s.heap) = ds := SeqAt.readsAll_map ds its as hxs h4
      obtain ⟨hjd, _⟩ := List.getElem?_eq_some_iff.mp hz
      have hjl : j < its.length := by omega
      have hj : j < its.toArray.size := by simpa using hjl
      have at_ : ∀ (m : Nat) (hm : m < its.toArray.size) (z' : PyData), ds[m]? = some z' → SeqAt.readOf s.heap its.toArray[m] = z' := by
        intro m hm z' hz'
        have hml : m < its.length := by simpa using hm
        rw [← hmap, List.getElem?_map, List.getElem?_eq_getElem hml] at hz'
        have e1 : SeqAt.readOf s.heap its[m] = z' := Option.some.inj (show some (SeqAt.readOf s.heap its[m]) = some z' from hz')
        simpa using e1
      refine call_meets PySem.F.slot_tuple_index ⟨_, ho, rfl⟩ PySem.F.entry_tuple_index (PySem.F.args_tuple_index_2 _ _)
        (TI.tuple_indexAt a its.toArray n dd sls uy (fun u => PyData.eqv (SeqAt.readOf s.heap u) d) j hj ?_ ?_) ⟨ho, SeqAt.items_eqAt (vs := its.toArray) (show ReadsAll s.heap its.toArray.toList ds as from h4) r1 hxs (SeqAt.canLay_of_shaped sd) hroom, ?_⟩
      · show PyData.eqv (SeqAt.readOf s.heap its.toArray[j]) d = true
        rw [at_ j hj z hz]
        exact hzj
      · intro m hm hmj
        have hmd : m < ds.length := by omega
        have hz' : ds[m]? = some ds[m] := List.getElem?_eq_getElem hmd
        show PyData.eqv (SeqAt.readOf s.heap its.toArray[m]) d = false
        rw [at_ m hm _ hz']
        exact hno m _ hmj hz'
      · exact ⟨.int (j : Nat), H, I.tok _, ⟨_, rfl⟩, q⟩
end My

namespace My
open PySem PySem.Spec PyProof.Rows L2
/-! ### tuples whose object is known to have no dict of its own -/
section
variable {X : Cx}
theorem call_tuple_frz : CallR X (.type "tuple") (fun xs H Q => ∃ p ys, xs = [.ref p] ∧ SqL X.K H p ys ∧ ∀ l o, H l = none → o.cls = .type "tuple" → o.dict = none → Q (.ref l) (upd H l (.frz o (.tup ys)))) := by
  intro pins s σ H xs us Q I r h
  obtain ⟨p, ys, rfl, hq, q⟩ := h
  obtain ⟨u, rfl, rx⟩ := vals1 r
  cases rx
  obtain ⟨its, r', pl, hz⟩ := I.list hq
  have hlen := r'.length
  refine call_tuple_list pl.isList (fun h' kp => ?_) (by simp only [List.size_toArray] <;> omega)
  have I1 : Inv X pins σ H { s with heap := h' } := I.kept (t' := s.toks) kp
  have I2 : Inv X pins σ (upd H h'.objs.size (.frz { cls := .type "tuple", data := .seq its.toArray } (.tup ys))) { s with heap := h'.push { cls := .type "tuple", data := .seq its.toArray } } :=
    I1.laid (t' := s.toks) (fun b o e => Heap.get?_push_of_some _ e) (Nat.le_refl _) (show ObjOk X.prog X.w _ _ _ (.frz _ (.tup ys)) from ⟨Heap.get?_push_size _ rfl, hz, its, r', IsTup.new _ _⟩)
  exact ⟨.ref h'.objs.size, _, I2, rfl, q _ _ (I1.hok.fresh (Nat.le_refl _)) rfl rfl⟩
def FrzT (H : Hp) (p : Addr) : Prop := ∃ o xs, H p = some (.frz o (.tup xs)) ∧ o.cls = .type "tuple" ∧ o.dict = none
def tBMT (r : V → List V → Hp → VK → Prop) (to : TE) (t : TA) : TE := fun σ H Q => to σ H fun x H1 => (∃ p, x = .ref p ∧ FrzT H1 p) ∧ t σ H1 fun xs H2 => r x xs H2 Q
variable {o e : Expr} {es : List Expr} {to : TE} {t : TA} {name : Str} {apos cpos : Pos} {id : String} {r : V → List V → Hp → VK → Prop}
theorem pe_bmT (pa : PlainAttrs "tuple") (slot : Slot "tuple" name id) (hty : typeOf (.builtin id) = pure (.type "method_descriptor")) (hm : MtR X id r) (ho : PE X o to) (ha : PA X (e :: es) t)
    (hbase : attributeBase o name X.env (eval o X.env) = eval o X.env := by rfl)
    (hfew : ((backTo cpos (starEach (e :: es) X.env)).all (fun x => !x.1) && (backToKw cpos (keywordEach [] X.env)).all (fun x => x.1.isSome)
      && decide ((e :: es).length + ([] : List Keyword).length + (if ([] : List Keyword).isEmpty then 0 else 1) < 30)) = true := by rfl)
    (hline : (apos.endLine == cpos.line) = true := by rfl) (hs : starEach (e :: es) X.env = (false, eval e X.env) :: starEach es X.env := by rfl) (hplain : (backTo cpos (starEach es X.env)).any (·.1) = false := by rfl) :
    PE X (.Call (.Attribute o name apos) (e :: es) [] cpos) (tBMT r to t) := by
  refine ⟨fun pins s σ H Q I h => ?_⟩
  refine wpAny_Call_method_late hbase hfew hline rfl (thn (ho.run pins s σ H _ I h) fun v s1 ⟨x, H1, I1, r1, ty, q1⟩ => ?_)
  obtain ⟨p, rfl, ob, xs0, hp, hc, hd⟩ := ty
  cases r1
  obtain ⟨hg, _⟩ := I1.hok p _ hp
  refine ⟨"tuple", id, pa, slot, hty, ⟨ob, hg, hc⟩, fun a e => ?_, ?_⟩
  · cases e
    exact ⟨ob, hg, hd⟩
  have hA := ha.run cpos pins s1 σ H1 _ I1 q1
  rw [hs] at hA ⊢
  refine Calls.callWith_builtin (by show (false || (backTo cpos (starEach es X.env)).any (·.1)) = false; rw [hplain] <;> rfl) (Calls.evalArgs_plain ?_)
  exact thn hA fun us s2 ⟨vs, H2, I2, r2, q2⟩ => hm pins s2 σ H2 (.ref p) vs _ us Q I2 rfl r2 q2
end
section
variable {P : Program} {w : World} {K : PySem.W.Frag} {mg : Str → Option Value} {base : Heap}
def AmF (K : PySem.W.Frag) (H : Hp) (t : Addr) (xs : List Q2) : Prop := ∃ (ps : List Addr) (o : Obj), H t = some (.frz o (.tup (ps.map V.ref))) ∧ o.cls = .type "tuple" ∧ o.dict = none ∧ Paired (Nm K H) ps xs
theorem AmF.am {H : Hp} {t : Addr} {xs : List Q2} (h : AmF K H t xs) : Am K H t xs := by
  obtain ⟨ps, o, h1, _, _, h2⟩ := h
  exact ⟨ps, .inl (.inr ⟨o, h1⟩), h2⟩
theorem AmF.frz {H : Hp} {t : Addr} {xs : List Q2} (h : AmF K H t xs) : FrzT H t := by
  obtain ⟨ps, o, h1, h2, h3, _⟩ := h
  exact ⟨o, _, h1, h2, h3⟩
theorem AmF.same {H H' : Hp} {t : Addr} {xs : List Q2} (e : L2.Same H H') (h : AmF K H t xs) : AmF K H' t xs := by
  obtain ⟨ps, o, h1, hc, hd, h2⟩ := h
  exact ⟨ps, o, e _ _ h1, hc, hd, Paired.mono (fun _ _ q => Nm.same e q) h2⟩
theorem AmF.sx {st : Addr} {H H' : Hp} {t : Addr} {xs : List Q2} (e : SX st H H') (h : AmF K H t xs) : AmF K H' t xs := by
  obtain ⟨ps, o, h1, hc, hd, h2⟩ := h
  exact ⟨ps, o, e.1 _ _ h1 (fun _ _ z => by cases z), hc, hd, Paired.mono (fun _ _ q => Nm.sx e q) h2⟩
def sp_law_withF (K : PySem.W.Frag) : Sp := fun vs H Q _ => ∃ (t q : Addr) (xs : List Q2) (y : Q2), vs = [.ref t, .ref q] ∧ Am K H t xs ∧ Nm K H q y ∧ BdL 1000 xs ∧ bd2 1000 y ∧ xs.length ≤ 1000 ∧ ∀ p H', L2.Same H H' → AmF K H' p (with2 xs y) → Q (.ref p) H'
theorem ok_law_withF (T : Top K mg w) : FnOk P w K mg base CX0 2 T.a_law_with T.d_law_with ["among", "number"] (sp_law_withF K) := by
  refine T.F_law_with.ok sc_law_with (fun vs H Q E h => ?_) (fun cdv A outer s H vs Q E hr h => ?_)
  · obtain ⟨t, q, x, y, rfl, _⟩ := h
    rfl
  obtain ⟨t, q, xs, y, rfl, ⟨ps, hT, hP⟩, hy, bx, b_y, hl, k⟩ := h
  have el := Paired.length hP
  refine ⟨_, (pss_cons (ps_setLc (i := 2) (own := [("one", 4)]) (g := gName 4) (by rfl) sc_law_with.nd rfl rfl (sw_true rfl rfl rfl (by decide +kernel)) (pi_tup (pv 0)) (blkOk_by (own := [("one", 4)]) (N := ["among", "number", "lower", "higher", "one"]) (sc := defScope s_law_with) (by decide +kernel)) (fun _ _ _ _ _ => (pg_name (i := 4) sc_law_with.nd rfl (Or.inl rfl))) (fun _ _ _ _ _ => pts_one (pt_val (pe_call ((ok_law_less T).mono (by decide)) hr (by rfl) T.m_law_less T.F_law_less.kp T.b_law_less .nil pass0 (pa_cons (pv 4) (pa_cons (pv 1) pa_nil))))) (fun _ _ _ _ _ => (pv 4)))
      (pss_cons (ps_setLc (i := 3) (own := [("one", 4)]) (g := gName 4) (by rfl) sc_law_with.nd rfl rfl (sw_true rfl rfl rfl (by decide +kernel)) (pi_tup (pv 0)) (blkOk_by (own := [("one", 4)]) (N := ["among", "number", "lower", "higher", "one"]) (sc := defScope s_law_with) (by decide +kernel)) (fun _ _ _ _ _ => (pg_name (i := 4) sc_law_with.nd rfl (Or.inl rfl))) (fun _ _ _ _ _ => pts_one (pt_val (pe_call ((ok_law_less T).mono (by decide)) hr (by rfl) T.m_law_less T.F_law_less.kp T.b_law_less .nil pass0 (pa_cons (pv 1) (pa_cons (pv 4) pa_nil))))) (fun _ _ _ _ _ => (pv 4)))
      (pss_one (ps_ret (pe_callTy call_tuple_frz (by rfl) T.z_tuple (by decide +kernel) (pa_cons (pe_op op_cat (pe_op op_cat (pv 2) (pe_lst (pa_cons (pv 1) pa_nil))) (pv 3)) pa_nil)))))), ?_⟩
  refine ⟨_, rfl, t, rfl, ⟨_, hT⟩, fun D hD => ?_⟩
  have sD : ∀ o, L2.Same H (upd H D o) := fun o => same_upd hD
  refine lc_tup (xs := ps.map V.ref) (fun i H' => H' = upd H D (.lst ((selA (fun z => decide (lt2 z y)) (ps.take i) (xs.take i)).map V.ref))) rfl ?_ ?_ ?_
  · rintro i H' _ rfl
    exact My.Same.sqT (sD _) hT
  · rintro i x H' hx rfl
    obtain ⟨p, rfl, hp⟩ := ref_at hx
    obtain ⟨z, hz, nz⟩ := Paired.at hP hp
    refine ⟨rfl, ?_⟩
    (repeat (first
      | refine ⟨_, rfl, ?_⟩
      | refine ⟨_, _, rfl, rfl, ?_⟩
      | refine Or.inl ⟨_, rfl, ?_⟩
      | refine Or.inr ⟨_, rfl, ?_⟩
      | refine ⟨Or.inl ⟨by decide, by decide⟩, ?_⟩
      | refine ⟨Or.inr ⟨by decide, by decide⟩, ?_⟩
      | refine ⟨⟨by decide, by decide⟩, ?_⟩
      | refine ⟨⟨by decide, by decide, by decide⟩, ?_⟩
      | refine ⟨by decide, ?_⟩
      | refine ⟨(by show (0 : Int) < _; decide), ?_⟩
      | refine ⟨rfl, ?_⟩
      | refine ⟨⟨_, rfl⟩, ?_⟩
      | refine ⟨_, rfl, rfl, trivial, ?_⟩
      | refine ⟨_, _, rfl, ?_⟩))
    refine ⟨p, q, z, y, rfl, Nm.same (sD _) nz, Nm.same (sD _) hy, bx z (List.mem_of_getElem? hz), b_y, ?_⟩
    (repeat (first
      | refine ⟨_, rfl, ?_⟩
      | refine ⟨_, _, rfl, rfl, ?_⟩
      | refine Or.inl ⟨_, rfl, ?_⟩
      | refine Or.inr ⟨_, rfl, ?_⟩
      | refine ⟨Or.inl ⟨by decide, by decide⟩, ?_⟩
      | refine ⟨Or.inr ⟨by decide, by decide⟩, ?_⟩
      | refine ⟨⟨by decide, by decide⟩, ?_⟩
      | refine ⟨⟨by decide, by decide, by decide⟩, ?_⟩
      | refine ⟨by decide, ?_⟩
      | refine ⟨(by show (0 : Int) < _; decide), ?_⟩
      | refine ⟨rfl, ?_⟩
      | refine ⟨⟨_, rfl⟩, ?_⟩
      | refine ⟨_, rfl, rfl, trivial, ?_⟩
      | refine ⟨_, _, rfl, ?_⟩))
    refine ite_dec (fun c => ?_) (fun c => ?_)
    · (repeat (first
      | refine ⟨_, rfl, ?_⟩
      | refine ⟨_, _, rfl, rfl, ?_⟩
      | refine Or.inl ⟨_, rfl, ?_⟩
      | refine Or.inr ⟨_, rfl, ?_⟩
      | refine ⟨Or.inl ⟨by decide, by decide⟩, ?_⟩
      | refine ⟨Or.inr ⟨by decide, by decide⟩, ?_⟩
      | refine ⟨⟨by decide, by decide⟩, ?_⟩
      | refine ⟨⟨by decide, by decide, by decide⟩, ?_⟩
      | refine ⟨by decide, ?_⟩
      | refine ⟨(by show (0 : Int) < _; decide), ?_⟩
      | refine ⟨rfl, ?_⟩
      | refine ⟨⟨_, rfl⟩, ?_⟩
      | refine ⟨_, rfl, rfl, trivial, ?_⟩
      | refine ⟨_, _, rfl, ?_⟩))
      refine ⟨_, upd_same, smallL (by rw [List.length_map]; have := selA_le (fun z => decide (lt2 z y)) (ps.take i) (xs.take i); rw [List.length_take] at this; omega), ?_⟩
      rw [upd_upd, selA_step _ hp hz, if_pos (decide_eq_true c), List.map_append]
      rfl
    · show upd H D _ = upd H D _
      rw [selA_step _ hp hz, if_neg (fun q => c (of_decide_eq_true q)), List.append_nil]
  rintro _ rfl
  rw [List.length_map, selA_all _ rfl el.symm]
  have pl := selA_paired (fun z => decide (lt2 z y)) hP
  have ll := selA_le (fun z => decide (lt2 z y)) ps xs
  generalize hL : selA (fun z => decide (lt2 z y)) ps xs = lo at *
  generalize hH1 : upd H D (.lst (lo.map V.ref)) = H1
  have s1 : L2.Same H H1 := by rw [← hH1]; exact sD _
  have eD : H1 D = some (.lst (lo.map V.ref)) := by rw [← hH1]; exact upd_same
  have hT1 := My.Same.sqT s1 hT
  refine ⟨_, rfl, t, rfl, ⟨_, hT1⟩, fun D2 hD2 => ?_⟩
  have sD2 : ∀ o, L2.Same H1 (upd H1 D2 o) := fun o => same_upd hD2
  refine lc_tup (xs := ps.map V.ref) (fun i H' => H' = upd H1 D2 (.lst ((selA (fun z => decide (lt2 y z)) (ps.take i) (xs.take i)).map V.ref))) rfl ?_ ?_ ?_
  · rintro i H' _ rfl
    exact My.Same.sqT (sD2 _) hT1
  · rintro i x H' hx rfl
    obtain ⟨p, rfl, hp⟩ := ref_at hx
    obtain ⟨z, hz, nz⟩ := Paired.at hP hp
    refine ⟨rfl, ?_⟩
    (repeat (first
      | refine ⟨_, rfl, ?_⟩
      | refine ⟨_, _, rfl, rfl, ?_⟩
      | refine Or.inl ⟨_, rfl, ?_⟩
      | refine Or.inr ⟨_, rfl, ?_⟩
      | refine ⟨Or.inl ⟨by decide, by decide⟩, ?_⟩
      | refine ⟨Or.inr ⟨by decide, by decide⟩, ?_⟩
      | refine ⟨⟨by decide, by decide⟩, ?_⟩
      | refine ⟨⟨by decide, by decide, by decide⟩, ?_⟩
      | refine ⟨by decide, ?_⟩
      | refine ⟨(by show (0 : Int) < _; decide), ?_⟩
      | refine ⟨rfl, ?_⟩
      | refine ⟨⟨_, rfl⟩, ?_⟩
      | refine ⟨_, rfl, rfl, trivial, ?_⟩
      | refine ⟨_, _, rfl, ?_⟩))
    refine ⟨q, p, y, z, rfl, Nm.same (sD2 _) (Nm.same s1 hy), Nm.same (sD2 _) (Nm.same s1 nz), b_y, bx z (List.mem_of_getElem? hz), ?_⟩
    (repeat (first
      | refine ⟨_, rfl, ?_⟩
      | refine ⟨_, _, rfl, rfl, ?_⟩
      | refine Or.inl ⟨_, rfl, ?_⟩
      | refine Or.inr ⟨_, rfl, ?_⟩
      | refine ⟨Or.inl ⟨by decide, by decide⟩, ?_⟩
      | refine ⟨Or.inr ⟨by decide, by decide⟩, ?_⟩
      | refine ⟨⟨by decide, by decide⟩, ?_⟩
      | refine ⟨⟨by decide, by decide, by decide⟩, ?_⟩
      | refine ⟨by decide, ?_⟩
      | refine ⟨(by show (0 : Int) < _; decide), ?_⟩
      | refine ⟨rfl, ?_⟩
      | refine ⟨⟨_, rfl⟩, ?_⟩
      | refine ⟨_, rfl, rfl, trivial, ?_⟩
      | refine ⟨_, _, rfl, ?_⟩))
    refine ite_dec (fun c => ?_) (fun c => ?_)
    · (repeat (first
      | refine ⟨_, rfl, ?_⟩
      | refine ⟨_, _, rfl, rfl, ?_⟩
      | refine Or.inl ⟨_, rfl, ?_⟩
      | refine Or.inr ⟨_, rfl, ?_⟩
      | refine ⟨Or.inl ⟨by decide, by decide⟩, ?_⟩
      | refine ⟨Or.inr ⟨by decide, by decide⟩, ?_⟩
      | refine ⟨⟨by decide, by decide⟩, ?_⟩
      | refine ⟨⟨by decide, by decide, by decide⟩, ?_⟩
      | refine ⟨by decide, ?_⟩
      | refine ⟨(by show (0 : Int) < _; decide), ?_⟩
      | refine ⟨rfl, ?_⟩
      | refine ⟨⟨_, rfl⟩, ?_⟩
      | refine ⟨_, rfl, rfl, trivial, ?_⟩
      | refine ⟨_, _, rfl, ?_⟩))
      refine ⟨_, upd_same, smallL (by rw [List.length_map]; have := selA_le (fun z => decide (lt2 y z)) (ps.take i) (xs.take i); rw [List.length_take] at this; omega), ?_⟩
      rw [upd_upd, selA_step _ hp hz, if_pos (decide_eq_true c), List.map_append]
      rfl
    · show upd H1 D2 _ = upd H1 D2 _
      rw [selA_step _ hp hz, if_neg (fun q => c (of_decide_eq_true q)), List.append_nil]
  rintro _ rfl
  rw [List.length_map, selA_all _ rfl el.symm]
  have ph := selA_paired (fun z => decide (lt2 y z)) hP
  have lh := selA_le (fun z => decide (lt2 y z)) ps xs
  generalize hL2 : selA (fun z => decide (lt2 y z)) ps xs = hi at *
  generalize hH2 : upd H1 D2 (.lst (hi.map V.ref)) = H2
  have s2 : L2.Same H1 H2 := by rw [← hH2]; exact sD2 _
  have eD2 : H2 D2 = some (.lst (hi.map V.ref)) := by rw [← hH2]; exact upd_same
  (repeat (first
      | refine ⟨_, rfl, ?_⟩
      | refine ⟨_, _, rfl, rfl, ?_⟩
      | refine Or.inl ⟨_, rfl, ?_⟩
      | refine Or.inr ⟨_, rfl, ?_⟩
      | refine ⟨Or.inl ⟨by decide, by decide⟩, ?_⟩
      | refine ⟨Or.inr ⟨by decide, by decide⟩, ?_⟩
      | refine ⟨⟨by decide, by decide⟩, ?_⟩
      | refine ⟨⟨by decide, by decide, by decide⟩, ?_⟩
      | refine ⟨by decide, ?_⟩
      | refine ⟨(by show (0 : Int) < _; decide), ?_⟩
      | refine ⟨rfl, ?_⟩
      | refine ⟨⟨_, rfl⟩, ?_⟩
      | refine ⟨_, rfl, rfl, trivial, ?_⟩
      | refine ⟨_, _, rfl, ?_⟩))
  refine ⟨by show 1 ≤ sizeLine; decide, fun p3 h3 => ?_⟩
  refine ⟨D, p3, _, _, rfl, rfl, same_upd h3 _ _ (s2 _ _ eD), upd_same, small (by rw [List.length_map]; show lo.length + 1 ≤ _; omega), fun p4 h4 => ?_⟩
  refine ⟨_, rfl, p4, D2, _, _, rfl, rfl, upd_same, same_upd h4 _ _ (same_upd h3 _ _ eD2), small (by rw [List.length_append, List.length_map, List.length_map]; show lo.length + 1 + hi.length ≤ _; omega), fun p5 h5 => ?_⟩
  refine ⟨p5, _, rfl, SqL.of upd_same, fun p6 o6 h6 oc od => ?_⟩
  have sf := ((((s1.trans s2).trans (same_upd (o := .lst [.ref q]) h3)).trans (same_upd (o := .lst (lo.map V.ref ++ [.ref q])) h4)).trans (same_upd (o := .lst (lo.map V.ref ++ [.ref q] ++ hi.map V.ref)) h5)).trans (same_upd (o := .frz o6 (.tup (lo.map V.ref ++ [.ref q] ++ hi.map V.ref))) h6)
  refine k p6 _ sf ⟨lo ++ [q] ++ hi, o6, ?_, oc, od, ?_⟩
  · rw [List.map_append, List.map_append]
    exact upd_same
  · exact Paired.mono (fun _ _ r => Nm.same sf r) (Paired.app (Paired.app pl (.cons hy .nil)) ph)
end
end My

namespace My
open PySem PySem.Spec PyProof.Rows L2 NumText TL
/-! ### the place of a number -/
theorem rk_get {xs : List Q2} (s : Srt xs) {i : Nat} (hi : i < xs.length) : rk xs[i] xs = i := rk_cut (by omega) (fun j h hj => s.lt h hi hj) fun j h hj => by
  rcases Nat.eq_or_lt_of_le hj with e | e
  · subst e; exact lt2_irr _
  · exact lt2_asymm (s.lt hi h e)
def rho (A B : List Q2) (x : Q2) : Q2 := B.getD (rk x A) (0, 1)
theorem rho_at {A B : List Q2} (s : Srt A) (e : A.length = B.length) {i : Nat} (hi : i < A.length) : rho A B A[i] = B[i] := by
  unfold rho
  rw [rk_get s hi]
  exact getD_at (by omega) _
theorem rho_mono {A B : List Q2} (s : Srt A) (t : Srt B) (e : A.length = B.length) : Mono A (rho A B) := by
  have at_ : ∀ x ∈ A, ∃ i, ∃ hi : i < A.length, A[i] = x := fun x hx => List.mem_iff_getElem.mp hx
  refine ⟨fun x hx y hy => ?_, fun x hx y hy => ?_⟩
  · obtain ⟨i, hi, rfl⟩ := at_ x hx
    obtain ⟨j, hj, rfl⟩ := at_ y hy
    rw [rho_at s e hi, rho_at s e hj]
    rcases Nat.lt_trichotomy i j with c | c | c
    · exact ⟨fun _ => s.lt hi hj c, fun _ => t.lt (by omega) (by omega) c⟩
    · subst c
      exact ⟨fun h => (lt2_irr _ h).elim, fun h => (lt2_irr _ h).elim⟩
    · exact ⟨fun h => (lt2_asymm (t.lt (by omega) (by omega) c) h).elim, fun h => (lt2_asymm (s.lt hj hi c) h).elim⟩
  · obtain ⟨i, hi, rfl⟩ := at_ x hx
    obtain ⟨j, hj, rfl⟩ := at_ y hy
    rw [rho_at s e hi, rho_at s e hj]
    rcases Nat.lt_trichotomy i j with c | c | c
    · refine ⟨fun h => ?_, fun h => ?_⟩
      · have := t.lt (show i < B.length by omega) (show j < B.length by omega) c; rw [h] at this; exact (lt2_irr _ this).elim
      · have := s.lt hi hj c; rw [h] at this; exact (lt2_irr _ this).elim
    · subst c; exact ⟨fun _ => rfl, fun _ => rfl⟩
    · refine ⟨fun h => ?_, fun h => ?_⟩
      · have := t.lt (show j < B.length by omega) (show i < B.length by omega) c; rw [h] at this; exact (lt2_irr _ this).elim
      · have := s.lt hj hi c; rw [h] at this; exact (lt2_irr _ this).elim
theorem rho_in {A B : List Q2} (s : Srt A) (e : A.length = B.length) {x : Q2} (hx : x ∈ A) : rho A B x ∈ B := by
  obtain ⟨i, hi, rfl⟩ := List.mem_iff_getElem.mp hx
  rw [rho_at s e hi]
  exact List.getElem_mem _
theorem Am.dpT {K : PySem.W.Frag} {H : Hp} {p : Addr} {xs : List Q2} (h : Am K H p xs) : Dp K H (.ref p) (.tuple (xs.map qD)) := by
  obtain ⟨ps, h1, h2⟩ := h
  refine .tup h1 ?_
  clear h1
  induction h2 with
  | nil => exact .nil
  | cons r _ ih => exact .cons (Nm.dp r) ih
section
variable {P : Program} {w : World} {K : PySem.W.Frag} {mg : Str → Option Value} {base : Heap}
/-! ### _law_replaced -/
def sp_rp (K : PySem.W.Frag) : Sp := fun vs H Q _ => ∃ (v : V) (am ot : Addr) (o : O2) (A B : List Q2), vs = [v, .ref am, .ref ot] ∧ Ov K H v o ∧ AmF K H am A ∧ Am K H ot B ∧ Srt A ∧ A.length = B.length ∧ (∀ x, o = some x → x ∈ A) ∧ ∀ v', Ov K H v' (o.map (rho A B)) → Q v' H
theorem ok_law_replaced (T : Top K mg w) : FnOk P w K mg base CX0 1 T.a_law_replaced T.d_law_replaced ["value", "among", "others"] (sp_rp K) := by
  refine T.F_law_replaced.ok sc_law_replaced (fun vs H Q E h => ?_) (fun cdv A outer s H vs Q E hr h => ?_)
  · obtain ⟨v, am, ot, o, A, B, rfl, _⟩ := h
    rfl
  obtain ⟨v, am, ot, o, A, B, rfl, hv, hA, hB, sA, el, hin, k⟩ := h
  refine ⟨_, (pss_cons (ps_if (pt_cmpR op_isN (pv 0) pe_non (nomark _))
        (pss_one (ps_ret pe_non))
        pss_nil)
      (pss_one (ps_ret (pe_ix ix_tup (pv 2) (pe_bmT PySem.F.plainAttrs_tuple PySem.F.slot_tuple_index PySem.F.type_tuple_index (mt_tup_indexD (u65 hr)) (pv 1) (pa_cons (pv 0) pa_nil)) (fun _ _ => rfl))))), ?_⟩
  (repeat (first
      | refine ⟨_, rfl, ?_⟩
      | refine ⟨_, _, rfl, rfl, ?_⟩
      | refine Or.inl ⟨_, rfl, ?_⟩
      | refine Or.inr ⟨_, rfl, ?_⟩
      | refine ⟨Or.inl ⟨by decide, by decide⟩, ?_⟩
      | refine ⟨Or.inr ⟨by decide, by decide⟩, ?_⟩
      | refine ⟨⟨by decide, by decide⟩, ?_⟩
      | refine ⟨⟨by decide, by decide, by decide⟩, ?_⟩
      | refine ⟨by decide, ?_⟩
      | refine ⟨(by show (0 : Int) < _; decide), ?_⟩
      | refine ⟨rfl, ?_⟩
      | refine ⟨⟨_, rfl⟩, ?_⟩
      | refine ⟨_, rfl, rfl, trivial, ?_⟩
      | refine ⟨_, _, rfl, ?_⟩))
  cases o with
  | none =>
    have e : v = .non := hv
    subst e
    (repeat (first
      | refine ifF ?_
      | refine ifT ?_
      | refine ⟨_, rfl, ?_⟩
      | refine ⟨_, _, rfl, rfl, ?_⟩
      | refine Or.inl ⟨_, rfl, ?_⟩
      | refine Or.inr ⟨_, rfl, ?_⟩
      | refine ⟨Or.inl ⟨by decide, by decide⟩, ?_⟩
      | refine ⟨Or.inr ⟨by decide, by decide⟩, ?_⟩
      | refine ⟨⟨by decide, by decide⟩, ?_⟩
      | refine ⟨⟨by decide, by decide, by decide⟩, ?_⟩
      | refine ⟨by decide, ?_⟩
      | refine ⟨(by show (0 : Int) < _; decide), ?_⟩
      | refine ⟨rfl, ?_⟩
      | refine ⟨⟨_, rfl⟩, ?_⟩
      | refine ⟨_, rfl, rfl, trivial, ?_⟩
      | refine ⟨_, _, rfl, ?_⟩))
    exact k _ rfl
  | some x =>
    obtain ⟨p, rfl, hn⟩ := hv
    obtain ⟨i, hi, ex⟩ := List.mem_iff_getElem.mp (hin x rfl)
    obtain ⟨bs, hBT, hBP⟩ := hB
    obtain ⟨b, hb, bn⟩ := pget3 hBP (i := i) (by omega)
    (repeat (first
      | refine ifF ?_
      | refine ifT ?_
      | refine ⟨_, rfl, ?_⟩
      | refine ⟨_, _, rfl, rfl, ?_⟩
      | refine Or.inl ⟨_, rfl, ?_⟩
      | refine Or.inr ⟨_, rfl, ?_⟩
      | refine ⟨Or.inl ⟨by decide, by decide⟩, ?_⟩
      | refine ⟨Or.inr ⟨by decide, by decide⟩, ?_⟩
      | refine ⟨⟨by decide, by decide⟩, ?_⟩
      | refine ⟨⟨by decide, by decide, by decide⟩, ?_⟩
      | refine ⟨by decide, ?_⟩
      | refine ⟨(by show (0 : Int) < _; decide), ?_⟩
      | refine ⟨rfl, ?_⟩
      | refine ⟨⟨_, rfl⟩, ?_⟩
      | refine ⟨_, rfl, rfl, trivial, ?_⟩
      | refine ⟨_, _, rfl, ?_⟩))
    refine ⟨⟨am, rfl, hA.frz⟩, ?_⟩
    (repeat (first
      | refine ⟨_, rfl, ?_⟩
      | refine ⟨_, _, rfl, rfl, ?_⟩
      | refine Or.inl ⟨_, rfl, ?_⟩
      | refine Or.inr ⟨_, rfl, ?_⟩
      | refine ⟨Or.inl ⟨by decide, by decide⟩, ?_⟩
      | refine ⟨Or.inr ⟨by decide, by decide⟩, ?_⟩
      | refine ⟨⟨by decide, by decide⟩, ?_⟩
      | refine ⟨⟨by decide, by decide, by decide⟩, ?_⟩
      | refine ⟨by decide, ?_⟩
      | refine ⟨(by show (0 : Int) < _; decide), ?_⟩
      | refine ⟨rfl, ?_⟩
      | refine ⟨⟨_, rfl⟩, ?_⟩
      | refine ⟨_, rfl, rfl, trivial, ?_⟩
      | refine ⟨_, _, rfl, ?_⟩))
    have hdA := hA.am.dpT
    refine ⟨am, .ref p, qD x, A.map qD, i, qD A[i], rfl, rfl, hdA, Nm.dp hn, qDs_shaped A, qD_shaped x, by rw [List.getElem?_map, List.getElem?_eq_getElem hi]; rfl, by rw [qD_eqv, ex, decide_eq_true rfl], fun m z' hm hz' => ?_, ?_⟩
    · have hml : m < A.length := by omega
      rw [List.getElem?_map, List.getElem?_eq_getElem hml] at hz'
      cases hz'
      rw [qD_eqv]
      refine decide_eq_false fun e => ?_
      have := sA.lt hml hi hm
      rw [e, ex] at this
      exact lt2_irr _ this
    (repeat (first
      | refine ifF ?_
      | refine ifT ?_
      | refine ⟨_, rfl, ?_⟩
      | refine ⟨_, _, rfl, rfl, ?_⟩
      | refine Or.inl ⟨_, rfl, ?_⟩
      | refine Or.inr ⟨_, rfl, ?_⟩
      | refine ⟨Or.inl ⟨by decide, by decide⟩, ?_⟩
      | refine ⟨Or.inr ⟨by decide, by decide⟩, ?_⟩
      | refine ⟨⟨by decide, by decide⟩, ?_⟩
      | refine ⟨⟨by decide, by decide, by decide⟩, ?_⟩
      | refine ⟨by decide, ?_⟩
      | refine ⟨(by show (0 : Int) < _; decide), ?_⟩
      | refine ⟨rfl, ?_⟩
      | refine ⟨⟨_, rfl⟩, ?_⟩
      | refine ⟨_, rfl, rfl, trivial, ?_⟩
      | refine ⟨_, _, rfl, ?_⟩))
    refine ⟨ot, _, _, _, rfl, rfl, hBT, atI_nat (j := i) (by rw [List.getElem?_map, hb]; rfl), ?_⟩
    refine k _ ⟨b, rfl, ?_⟩
    rw [← ex, rho_at sA el hi]
    exact bn
/-! ### _law_number, once more, with its bound -/
def sp_law_number50 (K : PySem.W.Frag) : Sp := fun vs H Q _ => ∃ (st : Addr) (n : Nat), vs = [.ref st] ∧ St H st n ∧ n < 2 ^ 40 ∧ ∀ p x n' H', SX st H H' → St H' st n' → n' ≤ n + 4 → Nm K H' p x → (ok2 x ∧ bd2 50 x) → Q (.ref p) H'
theorem ok_law_number50 (T : Top K mg w) : FnOk P w K mg base CX0 3 T.a_law_number T.d_law_number ["state"] (sp_law_number50 K) := by
  refine T.F_law_number.ok sc_law_number (fun vs H Q E h => ?_) (fun cdv A outer s H vs Q E hr h => ?_)
  · obtain ⟨st, n, rfl, _⟩ := h
    rfl
  obtain ⟨st, n, rfl, hs, hn, q⟩ := h
  refine ⟨_, (pss_cons (ps_if (pt_cmpR op_eq (pe_call ((ok_law_take T).mono (by decide)) hr (by rfl) T.m_law_take T.F_law_take.kp T.b_law_take .nil pass0 (pa_cons (pv 0) (pa_cons pe_int pa_nil))) pe_int (nomark _))
        (pss_one (ps_ret (pe_call ((ok_law_pair T).mono (by decide)) hr (by rfl) T.m_law_pair T.F_law_pair.kp T.b_law_pair .nil pass0 (pa_cons (pe_op op_sub (pe_op op_pow (pe_call ((ok_law_take T).mono (by decide)) hr (by rfl) T.m_law_take T.F_law_take.kp T.b_law_take .nil pass0 (pa_cons (pv 0) (pa_cons pe_int pa_nil))) pe_int) (pe_op op_pow (pe_call ((ok_law_take T).mono (by decide)) hr (by rfl) T.m_law_take T.F_law_take.kp T.b_law_take .nil pass0 (pa_cons (pv 0) (pa_cons pe_int pa_nil))) pe_int)) (pa_cons (pe_op op_add pe_int (pe_op op_pow (pe_call ((ok_law_take T).mono (by decide)) hr (by rfl) T.m_law_take T.F_law_take.kp T.b_law_take .nil pass0 (pa_cons (pv 0) (pa_cons pe_int pa_nil))) pe_int)) pa_nil)))))
        pss_nil)
      (pss_one (ps_ret (pe_call ((ok_law_pair T).mono (by decide)) hr (by rfl) T.m_law_pair T.F_law_pair.kp T.b_law_pair .nil pass0 (pa_cons (pe_op op_sub (pe_call ((ok_law_take T).mono (by decide)) hr (by rfl) T.m_law_take T.F_law_take.kp T.b_law_take .nil pass0 (pa_cons (pv 0) (pa_cons pe_int pa_nil))) pe_int) (pa_cons (pe_op op_add pe_int (pe_call ((ok_law_take T).mono (by decide)) hr (by rfl) T.m_law_take T.F_law_take.kp T.b_law_take .nil pass0 (pa_cons (pv 0) (pa_cons pe_int pa_nil)))) pa_nil)))))), ?_⟩
  (repeat (first
      | refine ⟨_, rfl, ?_⟩
      | refine ⟨_, _, rfl, rfl, ?_⟩
      | refine Or.inl ⟨_, rfl, ?_⟩
      | refine Or.inr ⟨_, rfl, ?_⟩
      | refine ⟨Or.inl ⟨by decide, by decide⟩, ?_⟩
      | refine ⟨Or.inr ⟨by decide, by decide⟩, ?_⟩
      | refine ⟨⟨by decide, by decide⟩, ?_⟩
      | refine ⟨⟨by decide, by decide, by decide⟩, ?_⟩
      | refine ⟨by decide, ?_⟩
      | refine ⟨(by show (0 : Int) < _; decide), ?_⟩
      | refine ⟨rfl, ?_⟩
      | refine ⟨⟨_, rfl⟩, ?_⟩
      | refine ⟨_, rfl, rfl, trivial, ?_⟩
      | refine ⟨_, _, rfl, ?_⟩))
  refine ⟨st, n, 14, rfl, hs, by omega, by decide, fun v H1 h0 h1 x1 s1 => ?_⟩
  (repeat (first
      | refine ⟨_, rfl, ?_⟩
      | refine ⟨_, _, rfl, rfl, ?_⟩
      | refine Or.inl ⟨_, rfl, ?_⟩
      | refine Or.inr ⟨_, rfl, ?_⟩
      | refine ⟨Or.inl ⟨by decide, by decide⟩, ?_⟩
      | refine ⟨Or.inr ⟨by decide, by decide⟩, ?_⟩
      | refine ⟨⟨by decide, by decide⟩, ?_⟩
      | refine ⟨⟨by decide, by decide, by decide⟩, ?_⟩
      | refine ⟨by decide, ?_⟩
      | refine ⟨(by show (0 : Int) < _; decide), ?_⟩
      | refine ⟨rfl, ?_⟩
      | refine ⟨⟨_, rfl⟩, ?_⟩
      | refine ⟨_, rfl, rfl, trivial, ?_⟩
      | refine ⟨_, _, rfl, ?_⟩))
  refine ite_dec (fun c => ?_) (fun c => ?_)
  · (repeat (first
      | refine ⟨_, rfl, ?_⟩
      | refine ⟨_, _, rfl, rfl, ?_⟩
      | refine Or.inl ⟨_, rfl, ?_⟩
      | refine Or.inr ⟨_, rfl, ?_⟩
      | refine ⟨Or.inl ⟨by decide, by decide⟩, ?_⟩
      | refine ⟨Or.inr ⟨by decide, by decide⟩, ?_⟩
      | refine ⟨⟨by decide, by decide⟩, ?_⟩
      | refine ⟨⟨by decide, by decide, by decide⟩, ?_⟩
      | refine ⟨by decide, ?_⟩
      | refine ⟨(by show (0 : Int) < _; decide), ?_⟩
      | refine ⟨rfl, ?_⟩
      | refine ⟨⟨_, rfl⟩, ?_⟩
      | refine ⟨_, rfl, rfl, trivial, ?_⟩
      | refine ⟨_, _, rfl, ?_⟩))
    refine ⟨st, _, 1000, rfl, s1, by omega, by decide, fun a H2 a0 a1 x2 s2 => ?_⟩
    (repeat (first
      | refine ⟨_, rfl, ?_⟩
      | refine ⟨_, _, rfl, rfl, ?_⟩
      | refine Or.inl ⟨_, rfl, ?_⟩
      | refine Or.inr ⟨_, rfl, ?_⟩
      | refine ⟨Or.inl ⟨by decide, by decide⟩, ?_⟩
      | refine ⟨Or.inr ⟨by decide, by decide⟩, ?_⟩
      | refine ⟨⟨by decide, by decide⟩, ?_⟩
      | refine ⟨⟨by decide, by decide, by decide⟩, ?_⟩
      | refine ⟨by decide, ?_⟩
      | refine ⟨(by show (0 : Int) < _; decide), ?_⟩
      | refine ⟨rfl, ?_⟩
      | refine ⟨⟨_, rfl⟩, ?_⟩
      | refine ⟨_, rfl, rfl, trivial, ?_⟩
      | refine ⟨_, _, rfl, ?_⟩))
    refine ⟨⟨by decide, by decide, by omega⟩, ?_⟩
    (repeat (first
      | refine ⟨_, rfl, ?_⟩
      | refine ⟨_, _, rfl, rfl, ?_⟩
      | refine Or.inl ⟨_, rfl, ?_⟩
      | refine Or.inr ⟨_, rfl, ?_⟩
      | refine ⟨Or.inl ⟨by decide, by decide⟩, ?_⟩
      | refine ⟨Or.inr ⟨by decide, by decide⟩, ?_⟩
      | refine ⟨⟨by decide, by decide⟩, ?_⟩
      | refine ⟨⟨by decide, by decide, by decide⟩, ?_⟩
      | refine ⟨by decide, ?_⟩
      | refine ⟨(by show (0 : Int) < _; decide), ?_⟩
      | refine ⟨rfl, ?_⟩
      | refine ⟨⟨_, rfl⟩, ?_⟩
      | refine ⟨_, rfl, rfl, trivial, ?_⟩
      | refine ⟨_, _, rfl, ?_⟩))
    refine ⟨st, _, 1000, rfl, s2, by omega, by decide, fun b H3 b0 b1 x3 s3 => ?_⟩
    (repeat (first
      | refine ⟨_, rfl, ?_⟩
      | refine ⟨_, _, rfl, rfl, ?_⟩
      | refine Or.inl ⟨_, rfl, ?_⟩
      | refine Or.inr ⟨_, rfl, ?_⟩
      | refine ⟨Or.inl ⟨by decide, by decide⟩, ?_⟩
      | refine ⟨Or.inr ⟨by decide, by decide⟩, ?_⟩
      | refine ⟨⟨by decide, by decide⟩, ?_⟩
      | refine ⟨⟨by decide, by decide, by decide⟩, ?_⟩
      | refine ⟨by decide, ?_⟩
      | refine ⟨(by show (0 : Int) < _; decide), ?_⟩
      | refine ⟨rfl, ?_⟩
      | refine ⟨⟨_, rfl⟩, ?_⟩
      | refine ⟨_, rfl, rfl, trivial, ?_⟩
      | refine ⟨_, _, rfl, ?_⟩))
    refine ⟨⟨by decide, by decide, by omega⟩, ?_⟩
    (repeat (first
      | refine ⟨_, rfl, ?_⟩
      | refine ⟨_, _, rfl, rfl, ?_⟩
      | refine Or.inl ⟨_, rfl, ?_⟩
      | refine Or.inr ⟨_, rfl, ?_⟩
      | refine ⟨Or.inl ⟨by decide, by decide⟩, ?_⟩
      | refine ⟨Or.inr ⟨by decide, by decide⟩, ?_⟩
      | refine ⟨⟨by decide, by decide⟩, ?_⟩
      | refine ⟨⟨by decide, by decide, by decide⟩, ?_⟩
      | refine ⟨by decide, ?_⟩
      | refine ⟨(by show (0 : Int) < _; decide), ?_⟩
      | refine ⟨rfl, ?_⟩
      | refine ⟨⟨_, rfl⟩, ?_⟩
      | refine ⟨_, rfl, rfl, trivial, ?_⟩
      | refine ⟨_, _, rfl, ?_⟩))
    refine ⟨st, _, 1000, rfl, s3, by omega, by decide, fun c H4 c0 c1 x4 s4 => ?_⟩
    (repeat (first
      | refine ⟨_, rfl, ?_⟩
      | refine ⟨_, _, rfl, rfl, ?_⟩
      | refine Or.inl ⟨_, rfl, ?_⟩
      | refine Or.inr ⟨_, rfl, ?_⟩
      | refine ⟨Or.inl ⟨by decide, by decide⟩, ?_⟩
      | refine ⟨Or.inr ⟨by decide, by decide⟩, ?_⟩
      | refine ⟨⟨by decide, by decide⟩, ?_⟩
      | refine ⟨⟨by decide, by decide, by decide⟩, ?_⟩
      | refine ⟨by decide, ?_⟩
      | refine ⟨(by show (0 : Int) < _; decide), ?_⟩
      | refine ⟨rfl, ?_⟩
      | refine ⟨⟨_, rfl⟩, ?_⟩
      | refine ⟨_, rfl, rfl, trivial, ?_⟩
      | refine ⟨_, _, rfl, ?_⟩))
    refine ⟨⟨by decide, by decide, by omega⟩, ?_⟩
    (repeat (first
      | refine ⟨_, rfl, ?_⟩
      | refine ⟨_, _, rfl, rfl, ?_⟩
      | refine Or.inl ⟨_, rfl, ?_⟩
      | refine Or.inr ⟨_, rfl, ?_⟩
      | refine ⟨Or.inl ⟨by decide, by decide⟩, ?_⟩
      | refine ⟨Or.inr ⟨by decide, by decide⟩, ?_⟩
      | refine ⟨⟨by decide, by decide⟩, ?_⟩
      | refine ⟨⟨by decide, by decide, by decide⟩, ?_⟩
      | refine ⟨by decide, ?_⟩
      | refine ⟨(by show (0 : Int) < _; decide), ?_⟩
      | refine ⟨rfl, ?_⟩
      | refine ⟨⟨_, rfl⟩, ?_⟩
      | refine ⟨_, rfl, rfl, trivial, ?_⟩
      | refine ⟨_, _, rfl, ?_⟩))
    have ba := pow_bd a0 a1 4
    have bb := pow_bd b0 b1 3
    have bc := pow_bd c0 c1 3
    have hb0 : 0 < 1 + c ^ 3 := by omega
    refine ⟨hb0, Nat.lt_of_lt_of_le (show (1 + c ^ 3 : Int).natAbs < 2 ^ 60 by omega) (Nat.pow_le_pow_right (by decide) (by decide)), fun p hp => ?_⟩
    have s5 := s4.new (o := .tup [.int (red (a ^ 4 - b ^ 3) (1 + c ^ 3)).1, .int (red (a ^ 4 - b ^ 3) (1 + c ^ 3)).2]) hp
    exact q p (red (a ^ 4 - b ^ 3) (1 + c ^ 3)) _ _ ((((x1.trans x2).trans x3).trans x4).trans (SX.new hp)) s5 (by omega) (Nm.new upd_same) ⟨red_ok hb0, red_bd hb0 (by omega) (by omega)⟩
  · (repeat (first
      | refine ⟨_, rfl, ?_⟩
      | refine ⟨_, _, rfl, rfl, ?_⟩
      | refine Or.inl ⟨_, rfl, ?_⟩
      | refine Or.inr ⟨_, rfl, ?_⟩
      | refine ⟨Or.inl ⟨by decide, by decide⟩, ?_⟩
      | refine ⟨Or.inr ⟨by decide, by decide⟩, ?_⟩
      | refine ⟨⟨by decide, by decide⟩, ?_⟩
      | refine ⟨⟨by decide, by decide, by decide⟩, ?_⟩
      | refine ⟨by decide, ?_⟩
      | refine ⟨(by show (0 : Int) < _; decide), ?_⟩
      | refine ⟨rfl, ?_⟩
      | refine ⟨⟨_, rfl⟩, ?_⟩
      | refine ⟨_, rfl, rfl, trivial, ?_⟩
      | refine ⟨_, _, rfl, ?_⟩))
    refine ⟨st, _, 9, rfl, s1, by omega, by decide, fun a H2 a0 a1 x2 s2 => ?_⟩
    (repeat (first
      | refine ⟨_, rfl, ?_⟩
      | refine ⟨_, _, rfl, rfl, ?_⟩
      | refine Or.inl ⟨_, rfl, ?_⟩
      | refine Or.inr ⟨_, rfl, ?_⟩
      | refine ⟨Or.inl ⟨by decide, by decide⟩, ?_⟩
      | refine ⟨Or.inr ⟨by decide, by decide⟩, ?_⟩
      | refine ⟨⟨by decide, by decide⟩, ?_⟩
      | refine ⟨⟨by decide, by decide, by decide⟩, ?_⟩
      | refine ⟨by decide, ?_⟩
      | refine ⟨(by show (0 : Int) < _; decide), ?_⟩
      | refine ⟨rfl, ?_⟩
      | refine ⟨⟨_, rfl⟩, ?_⟩
      | refine ⟨_, rfl, rfl, trivial, ?_⟩
      | refine ⟨_, _, rfl, ?_⟩))
    refine ⟨st, _, 3, rfl, s2, by omega, by decide, fun b H3 b0 b1 x3 s3 => ?_⟩
    (repeat (first
      | refine ⟨_, rfl, ?_⟩
      | refine ⟨_, _, rfl, rfl, ?_⟩
      | refine Or.inl ⟨_, rfl, ?_⟩
      | refine Or.inr ⟨_, rfl, ?_⟩
      | refine ⟨Or.inl ⟨by decide, by decide⟩, ?_⟩
      | refine ⟨Or.inr ⟨by decide, by decide⟩, ?_⟩
      | refine ⟨⟨by decide, by decide⟩, ?_⟩
      | refine ⟨⟨by decide, by decide, by decide⟩, ?_⟩
      | refine ⟨by decide, ?_⟩
      | refine ⟨(by show (0 : Int) < _; decide), ?_⟩
      | refine ⟨rfl, ?_⟩
      | refine ⟨⟨_, rfl⟩, ?_⟩
      | refine ⟨_, rfl, rfl, trivial, ?_⟩
      | refine ⟨_, _, rfl, ?_⟩))
    have hb0 : 0 < 1 + b := by omega
    refine ⟨hb0, Nat.lt_of_lt_of_le (show (1 + b : Int).natAbs < 2 ^ 60 by omega) (Nat.pow_le_pow_right (by decide) (by decide)), fun p hp => ?_⟩
    have s5 := s3.new (o := .tup [.int (red (a - 4) (1 + b)).1, .int (red (a - 4) (1 + b)).2]) hp
    exact q p (red (a - 4) (1 + b)) _ _ (((x1.trans x2).trans x3).trans (SX.new hp)) s5 (by omega) (Nm.new upd_same) ⟨red_ok hb0, red_bd hb0 (by omega) (by omega)⟩
/-! ### _law_others -/
theorem bd50 {x : Q2} (h : bd2 50 x) : bd2 1000 x := bd2_mono h (by decide)
def aboveL (t m : Nat) : List Q2 := (List.range m).map fun k : Nat => (((t : Int) + 1 + (k : Int)), (1 : Int))
theorem ok_one (z : Int) : ok2 (z, 1) := ⟨by show (0 : Int) < 1; decide, Nat.gcd_one_right _⟩
theorem above_srt {B : List Q2} {t : Nat} (s : Srt B) (h : ∀ y ∈ B, y.1.natAbs ≤ t) (m : Nat) : Srt (B ++ aboveL t m) := by
  refine ⟨List.pairwise_append.mpr ⟨s.1, ?_, fun y hy z hz => ?_⟩, fun z hz => ?_⟩
  · unfold aboveL
    rw [List.pairwise_map]
    refine List.Pairwise.imp (R := (· < ·)) (fun {a b} hab => ?_) List.pairwise_lt_range
    show (_ + _ + _) * (1 : Int) < (_ + _ + _) * (1 : Int)
    omega
  · obtain ⟨k, _, rfl⟩ := List.mem_map.mp hz
    have h1 := h y hy
    have h2 : 0 < y.2 := (s.2 y hy).1
    show y.1 * (1 : Int) < ((t : Int) + 1 + (k : Int)) * y.2
    have h3 : ((t : Int) + 1 + (k : Int)) * 1 ≤ ((t : Int) + 1 + (k : Int)) * y.2 := Int.mul_le_mul_of_nonneg_left (by omega) (by omega)
    omega
  · rcases List.mem_append.mp hz with hz | hz
    · exact s.2 z hz
    · obtain ⟨k, _, rfl⟩ := List.mem_map.mp hz
      exact ok_one _
def sp_ot (K : PySem.W.Frag) : Sp := fun vs H Q _ => ∃ (st am : Addr) (n : Nat) (A : List Q2), vs = [.ref st, .ref am] ∧ St H st n ∧ n < 2 ^ 38 ∧ Am K H am A ∧ A.length ≤ 50 ∧ ∀ p B n' H', SX st H H' → St H' st n' → n' ≤ n + 300 → Am K H' p B → Srt B → B.length = A.length → (∀ y ∈ B, gd2 y) → Q (.ref p) H'
theorem ok_law_others (T : Top K mg w) : FnOk P w K mg base CX0 4 T.a_law_others T.d_law_others ["state", "among"] (sp_ot K) := by
  have G_law_with : FnOk P w K mg base CX0 3 T.a_law_with T.d_law_with ["among", "number"] (sp_law_with K) := (ok_law_with T).mono (by decide)
  have G_law_number : FnOk P w K mg base CX0 3 T.a_law_number T.d_law_number ["state"] (sp_law_number50 K) := ok_law_number50 T
  refine T.F_law_others.ok sc_law_others (fun vs H Q E h => ?_) (fun cdv A outer s H vs Q E hr h => ?_)
  · obtain ⟨st, am, n, A, rfl, _⟩ := h
    rfl
  obtain ⟨st, am, n, A, rfl, hs, hn, hA, hl, k⟩ := h
  refine ⟨_, (pss_cons (ps_set (i := 2) sc_law_others.nd rfl (Or.inl rfl) (pe_tup pa_nil))
      (pss_cons (ps_for PassesOwn.never rfl (pi_range1 (by rfl) T.z_range (pa_cons pe_int pa_nil)) (pg_name (i := 3) sc_law_others.nd rfl (Or.inl rfl))
        (pss_one (ps_if (pt_cmpR op_lt (pe_callB call_len_seq (by rfl) T.z_len (by decide +kernel) (pa_cons (pv 2) pa_nil)) (pe_callB call_len_seq (by rfl) T.z_len (by decide +kernel) (pa_cons (pv 1) pa_nil)) (nomark _))
        (pss_one (ps_set (i := 2) sc_law_others.nd rfl (Or.inl rfl) (pe_call G_law_with hr (by rfl) T.m_law_with T.F_law_with.kp T.b_law_with .nil pass0 (pa_cons (pv 2) (pa_cons (pe_call G_law_number hr (by rfl) T.m_law_number T.F_law_number.kp T.b_law_number .nil pass0 (pa_cons (pv 0) pa_nil)) pa_nil)))))
        pss_nil)))
      (pss_cons (ps_set (i := 4) sc_law_others.nd rfl (Or.inl rfl) pe_int)
      (pss_cons (ps_for PassesOwn.never rfl (pi_tup (pv 2)) (pg_name (i := 5) sc_law_others.nd rfl (Or.inl rfl))
        (pss_one (ps_set (i := 4) sc_law_others.nd rfl (Or.inl rfl) (pe_callB (call_max2 rfl) (by rfl) T.z_max (by decide +kernel) (pa_cons (pv 4) (pa_cons (pe_callB call_abs (by rfl) T.z_abs (by decide +kernel) (pa_cons (pe_ix ix_tup (pv 5) pe_int (fun _ _ => rfl)) pa_nil)) pa_nil))))))
      (pss_cons (ps_for PassesOwn.never rfl (pi_range1 (by rfl) T.z_range (pa_cons (pe_op op_sub (pe_callB call_len_seq (by rfl) T.z_len (by decide +kernel) (pa_cons (pv 1) pa_nil)) (pe_callB call_len_seq (by rfl) T.z_len (by decide +kernel) (pa_cons (pv 2) pa_nil))) pa_nil)) (pg_name (i := 3) sc_law_others.nd rfl (Or.inl rfl))
        (pss_one (ps_set (i := 2) sc_law_others.nd rfl (Or.inl rfl) (pe_op op_catA (pv 2) (pe_tup (pa_cons (pe_tup (pa_cons (pe_op op_add (pe_op op_add (pv 4) pe_int) (pv 3)) (pa_cons pe_int pa_nil))) pa_nil))))))
      (pss_one (ps_ret (pv 2)))))))), ?_⟩
  (repeat (first
      | refine ifF ?_
      | refine ifT ?_
      | refine ⟨_, rfl, ?_⟩
      | refine ⟨_, _, rfl, rfl, ?_⟩
      | refine Or.inl ⟨_, rfl, ?_⟩
      | refine Or.inr ⟨_, rfl, ?_⟩
      | refine ⟨Or.inl ⟨by decide, by decide⟩, ?_⟩
      | refine ⟨Or.inr ⟨by decide, by decide⟩, ?_⟩
      | refine ⟨⟨by decide, by decide⟩, ?_⟩
      | refine ⟨⟨by decide, by decide, by decide⟩, ?_⟩
      | refine ⟨by decide, ?_⟩
      | refine ⟨(by show (0 : Int) < _; decide), ?_⟩
      | refine ⟨rfl, ?_⟩
      | refine ⟨⟨_, rfl⟩, ?_⟩
      | refine ⟨_, rfl, rfl, trivial, ?_⟩
      | refine ⟨_, _, rfl, ?_⟩))
  refine fun t0 ht0 => ?_
  have x0 : SX st H (upd H t0 (.tup [])) := SX.new ht0
  have s0 := hs.new (o := .tup []) ht0
  have h0 : Am K (upd H t0 (.tup [])) t0 [] := ⟨[], SqT.of upd_same, .nil⟩
  generalize upd H t0 (.tup []) = H0 at x0 s0 h0 ⊢
  (repeat (first
      | refine ifF ?_
      | refine ifT ?_
      | refine ⟨_, rfl, ?_⟩
      | refine ⟨_, _, rfl, rfl, ?_⟩
      | refine Or.inl ⟨_, rfl, ?_⟩
      | refine Or.inr ⟨_, rfl, ?_⟩
      | refine ⟨Or.inl ⟨by decide, by decide⟩, ?_⟩
      | refine ⟨Or.inr ⟨by decide, by decide⟩, ?_⟩
      | refine ⟨⟨by decide, by decide⟩, ?_⟩
      | refine ⟨⟨by decide, by decide, by decide⟩, ?_⟩
      | refine ⟨by decide, ?_⟩
      | refine ⟨(by show (0 : Int) < _; decide), ?_⟩
      | refine ⟨rfl, ?_⟩
      | refine ⟨⟨_, rfl⟩, ?_⟩
      | refine ⟨_, rfl, rfl, trivial, ?_⟩
      | refine ⟨_, _, rfl, ?_⟩))
  refine for_range (lo := 0) (n := 60) (fun i σ H' => ∃ (po : Addr) (B : List Q2) (n' : Nat) (y3 : Option V), σ = [some (.ref st), some (.ref am), some (.ref po), y3, none, none] ∧ SX st H H' ∧ St H' st n' ∧ n' ≤ n + 4 * i ∧ Am K H' po B ∧ Srt B ∧ B.length ≤ A.length ∧ (∀ y ∈ B, ok2 y ∧ bd2 50 y)) ⟨t0, [], n, none, rfl, x0, s0, by omega, h0, ⟨List.Pairwise.nil, fun _ h => by cases h⟩, Nat.zero_le _, fun _ h => by cases h⟩ ?_ ?_
  · rintro i σ H' hi ⟨po, B, n', y3, rfl, sx, hs', hn', hB, sB, lB, gB⟩
    have hA' := Am.sx sx hA
    obtain ⟨pa, hAT, hAP⟩ := id hA'
    obtain ⟨pb, hBT, hBP⟩ := id hB
    have la := Paired.length hAP
    have lb := Paired.length hBP
    (repeat (first
      | refine ifF ?_
      | refine ifT ?_
      | refine ⟨_, rfl, ?_⟩
      | refine ⟨_, _, rfl, rfl, ?_⟩
      | refine Or.inl ⟨_, rfl, ?_⟩
      | refine Or.inr ⟨_, rfl, ?_⟩
      | refine ⟨Or.inl ⟨by decide, by decide⟩, ?_⟩
      | refine ⟨Or.inr ⟨by decide, by decide⟩, ?_⟩
      | refine ⟨⟨by decide, by decide⟩, ?_⟩
      | refine ⟨⟨by decide, by decide, by decide⟩, ?_⟩
      | refine ⟨by decide, ?_⟩
      | refine ⟨(by show (0 : Int) < _; decide), ?_⟩
      | refine ⟨rfl, ?_⟩
      | refine ⟨⟨_, rfl⟩, ?_⟩
      | refine ⟨_, rfl, rfl, trivial, ?_⟩
      | refine ⟨_, _, rfl, ?_⟩))
    refine ⟨po, _, rfl, .inr hBT, ?_⟩
    (repeat (first
      | refine ifF ?_
      | refine ifT ?_
      | refine ⟨_, rfl, ?_⟩
      | refine ⟨_, _, rfl, rfl, ?_⟩
      | refine Or.inl ⟨_, rfl, ?_⟩
      | refine Or.inr ⟨_, rfl, ?_⟩
      | refine ⟨Or.inl ⟨by decide, by decide⟩, ?_⟩
      | refine ⟨Or.inr ⟨by decide, by decide⟩, ?_⟩
      | refine ⟨⟨by decide, by decide⟩, ?_⟩
      | refine ⟨⟨by decide, by decide, by decide⟩, ?_⟩
      | refine ⟨by decide, ?_⟩
      | refine ⟨(by show (0 : Int) < _; decide), ?_⟩
      | refine ⟨rfl, ?_⟩
      | refine ⟨⟨_, rfl⟩, ?_⟩
      | refine ⟨_, rfl, rfl, trivial, ?_⟩
      | refine ⟨_, _, rfl, ?_⟩))
    refine ⟨am, _, rfl, .inr hAT, ?_⟩
    (repeat (first
      | refine ifF ?_
      | refine ifT ?_
      | refine ⟨_, rfl, ?_⟩
      | refine ⟨_, _, rfl, rfl, ?_⟩
      | refine Or.inl ⟨_, rfl, ?_⟩
      | refine Or.inr ⟨_, rfl, ?_⟩
      | refine ⟨Or.inl ⟨by decide, by decide⟩, ?_⟩
      | refine ⟨Or.inr ⟨by decide, by decide⟩, ?_⟩
      | refine ⟨⟨by decide, by decide⟩, ?_⟩
      | refine ⟨⟨by decide, by decide, by decide⟩, ?_⟩
      | refine ⟨by decide, ?_⟩
      | refine ⟨(by show (0 : Int) < _; decide), ?_⟩
      | refine ⟨rfl, ?_⟩
      | refine ⟨⟨_, rfl⟩, ?_⟩
      | refine ⟨_, rfl, rfl, trivial, ?_⟩
      | refine ⟨_, _, rfl, ?_⟩))
    refine ite_dec (fun c => ?_) (fun c => ?_)
    · rw [List.length_map, List.length_map] at c
      (repeat (first
      | refine ifF ?_
      | refine ifT ?_
      | refine ⟨_, rfl, ?_⟩
      | refine ⟨_, _, rfl, rfl, ?_⟩
      | refine Or.inl ⟨_, rfl, ?_⟩
      | refine Or.inr ⟨_, rfl, ?_⟩
      | refine ⟨Or.inl ⟨by decide, by decide⟩, ?_⟩
      | refine ⟨Or.inr ⟨by decide, by decide⟩, ?_⟩
      | refine ⟨⟨by decide, by decide⟩, ?_⟩
      | refine ⟨⟨by decide, by decide, by decide⟩, ?_⟩
      | refine ⟨by decide, ?_⟩
      | refine ⟨(by show (0 : Int) < _; decide), ?_⟩
      | refine ⟨rfl, ?_⟩
      | refine ⟨⟨_, rfl⟩, ?_⟩
      | refine ⟨_, rfl, rfl, trivial, ?_⟩
      | refine ⟨_, _, rfl, ?_⟩))
      refine ⟨st, n', rfl, hs', by omega, fun pq xq n2 H2 x2 s2 hn2 hnm hgd => ?_⟩
      refine ⟨po, pq, B, xq, rfl, Am.sx x2 hB, hnm, fun y hy => bd50 (gB y hy).2, bd50 hgd.2, by omega, fun p3 H3 s3 hA3 => ?_⟩
      have lw := with2_len B xq
      refine ⟨p3, with2 B xq, n2, _, rfl, (sx.trans x2).trans (SX.same s3), s2.same s3, by omega, hA3, with2_srt sB hgd.1, by omega, fun y hy => ?_⟩
      rcases with2_mem hy with rfl | hy
      · exact hgd
      · exact gB y hy
    · (repeat (first
      | refine ifF ?_
      | refine ifT ?_
      | refine ⟨_, rfl, ?_⟩
      | refine ⟨_, _, rfl, rfl, ?_⟩
      | refine Or.inl ⟨_, rfl, ?_⟩
      | refine Or.inr ⟨_, rfl, ?_⟩
      | refine ⟨Or.inl ⟨by decide, by decide⟩, ?_⟩
      | refine ⟨Or.inr ⟨by decide, by decide⟩, ?_⟩
      | refine ⟨⟨by decide, by decide⟩, ?_⟩
      | refine ⟨⟨by decide, by decide, by decide⟩, ?_⟩
      | refine ⟨by decide, ?_⟩
      | refine ⟨(by show (0 : Int) < _; decide), ?_⟩
      | refine ⟨rfl, ?_⟩
      | refine ⟨⟨_, rfl⟩, ?_⟩
      | refine ⟨_, rfl, rfl, trivial, ?_⟩
      | refine ⟨_, _, rfl, ?_⟩))
      exact ⟨po, B, n', _, rfl, sx, hs', by omega, hB, sB, lB, gB⟩
  rintro σ H1 ⟨po, B, n1, y3, rfl, sx1, hs1, hn1, hB, sB, lB, gB⟩
  obtain ⟨pb, hBT, hBP⟩ := id hB
  have lb := Paired.length hBP
  (repeat (first
      | refine ifF ?_
      | refine ifT ?_
      | refine ⟨_, rfl, ?_⟩
      | refine ⟨_, _, rfl, rfl, ?_⟩
      | refine Or.inl ⟨_, rfl, ?_⟩
      | refine Or.inr ⟨_, rfl, ?_⟩
      | refine ⟨Or.inl ⟨by decide, by decide⟩, ?_⟩
      | refine ⟨Or.inr ⟨by decide, by decide⟩, ?_⟩
      | refine ⟨⟨by decide, by decide⟩, ?_⟩
      | refine ⟨⟨by decide, by decide, by decide⟩, ?_⟩
      | refine ⟨by decide, ?_⟩
      | refine ⟨(by show (0 : Int) < _; decide), ?_⟩
      | refine ⟨rfl, ?_⟩
      | refine ⟨⟨_, rfl⟩, ?_⟩
      | refine ⟨_, rfl, rfl, trivial, ?_⟩
      | refine ⟨_, _, rfl, ?_⟩))
  refine ⟨⟨_, hBT⟩, for_tup (xs := pb.map V.ref) (fun i σ H' => ∃ (t : Nat) (y5 : Option V), σ = [some (.ref st), some (.ref am), some (.ref po), y3, some (.int (t : Int)), y5] ∧ H' = H1 ∧ t < 2 ^ 50 ∧ ∀ y ∈ B.take i, y.1.natAbs ≤ t) ⟨0, none, rfl, rfl, by decide, fun _ h => by cases h⟩ ?_ ?_ ?_⟩
  · rintro i σ H' _ ⟨t, y5, rfl, rfl, _⟩
    exact hBT
  · rintro i z σ H' hz ⟨t, y5, rfl, rfl, ht, hmax⟩
    obtain ⟨pz, rfl, hpz⟩ := ref_at hz
    obtain ⟨y, hy, ny⟩ := pget hBP hpz
    have gy := gB y (List.mem_of_getElem? hy)
    (repeat (first
      | refine ifF ?_
      | refine ifT ?_
      | refine ⟨_, rfl, ?_⟩
      | refine ⟨_, _, rfl, rfl, ?_⟩
      | refine Or.inl ⟨_, rfl, ?_⟩
      | refine Or.inr ⟨_, rfl, ?_⟩
      | refine ⟨Or.inl ⟨by decide, by decide⟩, ?_⟩
      | refine ⟨Or.inr ⟨by decide, by decide⟩, ?_⟩
      | refine ⟨⟨by decide, by decide⟩, ?_⟩
      | refine ⟨⟨by decide, by decide, by decide⟩, ?_⟩
      | refine ⟨by decide, ?_⟩
      | refine ⟨(by show (0 : Int) < _; decide), ?_⟩
      | refine ⟨rfl, ?_⟩
      | refine ⟨⟨_, rfl⟩, ?_⟩
      | refine ⟨_, rfl, rfl, trivial, ?_⟩
      | refine ⟨_, _, rfl, ?_⟩))
    refine ⟨pz, _, 0, _, rfl, rfl, ny, atI_nat (j := 0) rfl, ?_⟩
    (repeat (first
      | refine ifF ?_
      | refine ifT ?_
      | refine ⟨_, rfl, ?_⟩
      | refine ⟨_, _, rfl, rfl, ?_⟩
      | refine Or.inl ⟨_, rfl, ?_⟩
      | refine Or.inr ⟨_, rfl, ?_⟩
      | refine ⟨Or.inl ⟨by decide, by decide⟩, ?_⟩
      | refine ⟨Or.inr ⟨by decide, by decide⟩, ?_⟩
      | refine ⟨⟨by decide, by decide⟩, ?_⟩
      | refine ⟨⟨by decide, by decide, by decide⟩, ?_⟩
      | refine ⟨by decide, ?_⟩
      | refine ⟨(by show (0 : Int) < _; decide), ?_⟩
      | refine ⟨rfl, ?_⟩
      | refine ⟨⟨_, rfl⟩, ?_⟩
      | refine ⟨_, rfl, rfl, trivial, ?_⟩
      | refine ⟨_, _, rfl, ?_⟩))
    have em : (if (if y.1 < 0 then -y.1 else y.1) > (t : Int) then (if y.1 < 0 then -y.1 else y.1) else (t : Int)) = ((max t y.1.natAbs : Nat) : Int) := by
      split <;> split <;> omega
    rw [em]
    have b1 := gy.2.1
    refine ⟨max t y.1.natAbs, some (.ref pz), rfl, rfl, by omega, fun y' hy' => ?_⟩
    rw [List.take_succ, hy] at hy'
    rcases List.mem_append.mp hy' with h | h
    · have := hmax y' h
      omega
    · have e : y' = y := by simpa using h
      subst e
      omega
  rintro σ H2 ⟨t, y5, rfl, rfl, ht, hmax⟩
  have lpb : (pb.map V.ref).length = B.length := by rw [List.length_map, lb]
  rw [lpb, List.take_length] at hmax
  have hA1 := Am.sx sx1 hA
  obtain ⟨pa, hAT, hAP⟩ := id hA1
  have la := Paired.length hAP
  (repeat (first
      | refine ifF ?_
      | refine ifT ?_
      | refine ⟨_, rfl, ?_⟩
      | refine ⟨_, _, rfl, rfl, ?_⟩
      | refine Or.inl ⟨_, rfl, ?_⟩
      | refine Or.inr ⟨_, rfl, ?_⟩
      | refine ⟨Or.inl ⟨by decide, by decide⟩, ?_⟩
      | refine ⟨Or.inr ⟨by decide, by decide⟩, ?_⟩
      | refine ⟨⟨by decide, by decide⟩, ?_⟩
      | refine ⟨⟨by decide, by decide, by decide⟩, ?_⟩
      | refine ⟨by decide, ?_⟩
      | refine ⟨(by show (0 : Int) < _; decide), ?_⟩
      | refine ⟨rfl, ?_⟩
      | refine ⟨⟨_, rfl⟩, ?_⟩
      | refine ⟨_, rfl, rfl, trivial, ?_⟩
      | refine ⟨_, _, rfl, ?_⟩))
  refine ⟨am, _, rfl, .inr hAT, ?_⟩
  (repeat (first
      | refine ifF ?_
      | refine ifT ?_
      | refine ⟨_, rfl, ?_⟩
      | refine ⟨_, _, rfl, rfl, ?_⟩
      | refine Or.inl ⟨_, rfl, ?_⟩
      | refine Or.inr ⟨_, rfl, ?_⟩
      | refine ⟨Or.inl ⟨by decide, by decide⟩, ?_⟩
      | refine ⟨Or.inr ⟨by decide, by decide⟩, ?_⟩
      | refine ⟨⟨by decide, by decide⟩, ?_⟩
      | refine ⟨⟨by decide, by decide, by decide⟩, ?_⟩
      | refine ⟨by decide, ?_⟩
      | refine ⟨(by show (0 : Int) < _; decide), ?_⟩
      | refine ⟨rfl, ?_⟩
      | refine ⟨⟨_, rfl⟩, ?_⟩
      | refine ⟨_, rfl, rfl, trivial, ?_⟩
      | refine ⟨_, _, rfl, ?_⟩))
  refine ⟨po, _, rfl, .inr hBT, ?_⟩
  (repeat (first
      | refine ifF ?_
      | refine ifT ?_
      | refine ⟨_, rfl, ?_⟩
      | refine ⟨_, _, rfl, rfl, ?_⟩
      | refine Or.inl ⟨_, rfl, ?_⟩
      | refine Or.inr ⟨_, rfl, ?_⟩
      | refine ⟨Or.inl ⟨by decide, by decide⟩, ?_⟩
      | refine ⟨Or.inr ⟨by decide, by decide⟩, ?_⟩
      | refine ⟨⟨by decide, by decide⟩, ?_⟩
      | refine ⟨⟨by decide, by decide, by decide⟩, ?_⟩
      | refine ⟨by decide, ?_⟩
      | refine ⟨(by show (0 : Int) < _; decide), ?_⟩
      | refine ⟨rfl, ?_⟩
      | refine ⟨⟨_, rfl⟩, ?_⟩
      | refine ⟨_, rfl, rfl, trivial, ?_⟩
      | refine ⟨_, _, rfl, ?_⟩))
  rw [List.length_map, List.length_map, la, lb]
  refine ⟨by omega, by omega, ?_⟩
  have en : (((A.length : Nat) : Int) - ((B.length : Nat) : Int)).toNat = A.length - B.length := by omega
  rw [en]
  refine for_range (lo := 0) (n := A.length - B.length) (fun i σ H' => ∃ (po' : Addr) (y3 : Option V), σ = [some (.ref st), some (.ref am), some (.ref po'), y3, some (.int (t : Int)), y5] ∧ L2.Same H2 H' ∧ Am K H' po' (B ++ aboveL t i)) ⟨po, y3, rfl, .refl _, by rw [show aboveL t 0 = [] from rfl, List.append_nil]; exact hB⟩ ?_ ?_
  · rintro i σ H' hi ⟨po', y3', rfl, sm, hB'⟩
    have e0 : (0 : Int) + (i : Int) = (i : Int) := Int.zero_add _
    rw [e0]
    obtain ⟨pc, hCT, hCP⟩ := id hB'
    have lc := Paired.length hCP
    rw [List.length_append, show (aboveL t i).length = i by unfold aboveL; simp] at lc
    (repeat (first
      | refine ifF ?_
      | refine ifT ?_
      | refine ⟨_, rfl, ?_⟩
      | refine ⟨_, _, rfl, rfl, ?_⟩
      | refine Or.inl ⟨_, rfl, ?_⟩
      | refine Or.inr ⟨_, rfl, ?_⟩
      | refine ⟨Or.inl ⟨by decide, by decide⟩, ?_⟩
      | refine ⟨Or.inr ⟨by decide, by decide⟩, ?_⟩
      | refine ⟨⟨by decide, by decide⟩, ?_⟩
      | refine ⟨⟨by decide, by decide, by decide⟩, ?_⟩
      | refine ⟨by decide, ?_⟩
      | refine ⟨(by show (0 : Int) < _; decide), ?_⟩
      | refine ⟨rfl, ?_⟩
      | refine ⟨⟨_, rfl⟩, ?_⟩
      | refine ⟨_, rfl, rfl, trivial, ?_⟩
      | refine ⟨_, _, rfl, ?_⟩))
    refine ⟨by show 2 ≤ sizeLine; decide, fun pt hpt => ?_⟩
    have s1 : L2.Same H' (upd H' pt (.tup [.int ((t : Int) + 1 + (i : Int)), .int 1])) := same_upd hpt
    have h1 : (upd H' pt (.tup [.int ((t : Int) + 1 + (i : Int)), .int 1])) pt = some (.tup [.int ((t : Int) + 1 + (i : Int)), .int 1]) := upd_same
    generalize upd H' pt (.tup [.int ((t : Int) + 1 + (i : Int)), .int 1]) = J1 at s1 h1 ⊢
    refine ⟨by show 1 ≤ sizeLine; decide, fun pu hpu => ?_⟩
    have s2 : L2.Same J1 (upd J1 pu (.tup [.ref pt])) := same_upd hpu
    have h2 : (upd J1 pu (.tup [.ref pt])) pu = some (.tup [.ref pt]) := upd_same
    generalize upd J1 pu (.tup [.ref pt]) = J2 at s2 h2 ⊢
    refine catA_any (My.Same.sqT (s1.trans s2) hCT) (SqT.of h2) (small (by rw [List.length_map, lc]; show B.length + i + 1 ≤ _; omega)) fun p3 H3 s3 hT3 => ?_
    have s13 := (s1.trans s2).trans s3
    refine ⟨p3, _, rfl, sm.trans s13, pc ++ [pt], by rw [List.map_append]; exact hT3, ?_⟩
    have ea : B ++ aboveL t (i + 1) = (B ++ aboveL t i) ++ [((t : Int) + 1 + (i : Int), (1 : Int))] := by
      unfold aboveL
      rw [List.range_succ, List.map_append, List.append_assoc]
      rfl
    rw [ea]
    exact Paired.app (Paired.mono (fun _ _ q => Nm.same s13 q) hCP) (.cons (SqT.of (s3 _ _ (s2 _ _ h1))) .nil)
  · rintro σ H' ⟨po', y3', rfl, sm, hB'⟩
    (repeat (first
      | refine ifF ?_
      | refine ifT ?_
      | refine ⟨_, rfl, ?_⟩
      | refine ⟨_, _, rfl, rfl, ?_⟩
      | refine Or.inl ⟨_, rfl, ?_⟩
      | refine Or.inr ⟨_, rfl, ?_⟩
      | refine ⟨Or.inl ⟨by decide, by decide⟩, ?_⟩
      | refine ⟨Or.inr ⟨by decide, by decide⟩, ?_⟩
      | refine ⟨⟨by decide, by decide⟩, ?_⟩
      | refine ⟨⟨by decide, by decide, by decide⟩, ?_⟩
      | refine ⟨by decide, ?_⟩
      | refine ⟨(by show (0 : Int) < _; decide), ?_⟩
      | refine ⟨rfl, ?_⟩
      | refine ⟨⟨_, rfl⟩, ?_⟩
      | refine ⟨_, rfl, rfl, trivial, ?_⟩
      | refine ⟨_, _, rfl, ?_⟩))
    refine k po' _ n1 H' (sx1.trans (SX.same sm)) (hs1.same sm) (by omega) hB' (above_srt sB hmax _) (by rw [List.length_append, show (aboveL t (A.length - B.length)).length = A.length - B.length by unfold aboveL; simp]; omega) fun y hy => ?_
    rcases List.mem_append.mp hy with hy | hy
    · exact ⟨(gB y hy).1, bd2_mono (gB y hy).2 (by decide)⟩
    · obtain ⟨j, hj, rfl⟩ := List.mem_map.mp hy
      have hj := List.mem_range.mp hj
      exact ⟨ok_one _, by show ((t : Int) + 1 + (j : Int)).natAbs < 2 ^ 60; omega, by show (1 : Int).natAbs < 2 ^ 60; decide⟩
end
end My

namespace My
open PySem PySem.Spec PyProof.Rows L2 NumText TL
theorem oD_sh (o : O2) : Sh 5 (oD o) := by
  cases o with
  | none => exact True.intro
  | some x =>
    refine ⟨by show 2 ≤ 1000000; decide, fun d hd => ?_⟩
    simp only [List.mem_cons, List.not_mem_nil, or_false] at hd
    rcases hd with rfl | rfl <;> exact True.intro
def cD (c : Cell) : PyData := .tuple [oD c.1, .int (c.2.1 : Int), .tuple (c.2.2.map qD)]
theorem Cv.dp {K : PySem.W.Frag} {H : Hp} {v : V} {c : Cell} (h : Cv K H v c) : Dp K H v (cD c) := by
  obtain ⟨p, hp, u, e, h1, h2, h3⟩ := h
  rw [e]
  exact .tup h1 (.cons (Ov.dp h2) (.cons (.int _) (.cons (Am.dp h3) .nil)))
theorem Cs.dps {K : PySem.W.Frag} {H : Hp} : ∀ {vs : List V} {cs : List Cell}, Paired (Cv K H) vs cs → DpAll K H vs (cs.map cD)
  | _, _, .nil => .nil
  | _, _, .cons r t => .cons (Cv.dp r) (Cs.dps t)
theorem qD_sh (n : Nat) (x : Q2) : Sh (n + 1) (qD x) := by
  refine ⟨by show 2 ≤ 1000000; decide, fun d hd => ?_⟩
  simp only [List.mem_cons, List.not_mem_nil, or_false] at hd
  rcases hd with rfl | rfl <;> (cases n <;> exact True.intro)
theorem cD_sh {c : Cell} (h : c.2.2.length ≤ 3) : Sh 4 (cD c) := by
  refine ⟨by show 3 ≤ 1000000; decide, fun d hd => ?_⟩
  simp only [List.mem_cons, List.not_mem_nil, or_false] at hd
  rcases hd with rfl | rfl | rfl
  · cases c.1 with
    | none => exact True.intro
    | some x => exact qD_sh 2 x
  · exact True.intro
  · refine ⟨by rw [List.length_map]; omega, fun d hd => ?_⟩
    obtain ⟨x, _, rfl⟩ := List.mem_map.mp hd
    exact qD_sh 1 x
theorem held3 : ∀ {q : Qn} {cs : List Cell}, CellsOk q cs → ∀ c ∈ cs, c.2.2.length ≤ 3 := by
  have hd : ∀ {q : Qn} {cs : List Cell}, CellsOk q cs → (cs.headD cell0).2.2.length ≤ 3 := fun h => h.hd.2.2.2.1
  have cut1 : ∀ {cs : List Cell} {n : Nat}, cs.length = n + 1 → ∀ c ∈ cs, c = cs.headD cell0 ∨ c ∈ sl cs 1 n := by
    intro cs n hl c hc
    cases cs with
    | nil => cases hc
    | cons a r =>
      rcases List.mem_cons.mp hc with rfl | hc
      · exact .inl rfl
      · right
        unfold sl
        rw [List.drop_succ_cons, List.drop_zero, List.take_of_length_le (by simp at hl; omega)]
        exact hc
  have cut2 : ∀ {cs : List Cell} {i n m : Nat}, ∀ c ∈ sl cs i (n + m), c ∈ sl cs i n ∨ c ∈ sl cs (i + n) m := by
    intro cs i n m c hc
    unfold sl at hc ⊢
    rw [List.take_add, List.drop_drop] at hc
    exact List.mem_append.mp hc
  intro q
  induction q with
  | now => intro cs h c hc; rcases cut1 (n := 0) h.1 c hc with rfl | hc; exact hd h; simp [sl] at hc
  | nothing => intro cs h c hc; rcases cut1 (n := 0) h.1 c hc with rfl | hc; exact hd h; simp [sl] at hc
  | is n => intro cs h c hc; rcases cut1 (n := 0) h.1 c hc with rfl | hc; exact hd h; simp [sl] at hc
  | less a b iha ihb => intro cs h c hc; rcases cut1 h.1 c hc with rfl | hc; exact hd h; rcases cut2 c hc with hc | hc; exact iha h.2.2.1 c hc; exact ihb h.2.2.2 c hc
  | same a b iha ihb => intro cs h c hc; rcases cut1 h.1 c hc with rfl | hc; exact hd h; rcases cut2 c hc with hc | hc; exact iha h.2.2.1 c hc; exact ihb h.2.2.2 c hc
  | since a b iha ihb => intro cs h c hc; rcases cut1 h.1 c hc with rfl | hc; exact hd h; rcases cut2 c hc with hc | hc; exact iha h.2.2.1 c hc; exact ihb h.2.2.2 c hc
  | among a b iha ihb => intro cs h c hc; rcases cut1 h.1 c hc with rfl | hc; exact hd h; rcases cut2 c hc with hc | hc; exact iha h.2.2.1 c hc; exact ihb h.2.2.2 c hc
  | iff a b d iha ihb ihd =>
    intro cs h c hc
    rcases cut1 h.1 c hc with rfl | hc
    · exact hd h
    rcases cut2 (n := qsz a + qsz b) c hc with hc | hc
    · rcases cut2 c hc with hc | hc
      · exact iha h.2.2.1 c hc
      · exact ihb h.2.2.2.1 c hc
    · exact ihd h.2.2.2.2 c (by rw [Nat.add_assoc]; exact hc)
  | last a ih => intro cs h c hc; rcases cut1 h.1 c hc with rfl | hc; exact hd h; exact ih h.2.2 c hc
  | first a ih => intro cs h c hc; rcases cut1 h.1 c hc with rfl | hc; exact hd h; exact ih h.2.2 c hc
  | before a ih => intro cs h c hc; rcases cut1 h.1 c hc with rfl | hc; exact hd h; exact ih h.2.2 c hc
  | great k a ih => intro cs h c hc; rcases cut1 h.1 c hc with rfl | hc; exact hd h; exact ih h.2.2 c hc
  | least k a ih => intro cs h c hc; rcases cut1 h.1 c hc with rfl | hc; exact hd h; exact ih h.2.2 c hc
  | times k a ih => intro cs h c hc; rcases cut1 h.1 c hc with rfl | hc; exact hd h; exact ih h.2.2 c hc
  | circle m k a ih => intro cs h c hc; rcases cut1 h.1 c hc with rfl | hc; exact hd h; exact ih h.2.2 c hc
section
variable {P : Program} {w : World} {K : PySem.W.Frag} {mg : Str → Option Value} {base : Heap}
def NmV (K : PySem.W.Frag) (H : Hp) (v : V) (x : Q2) : Prop := ∃ p, v = .ref p ∧ Nm K H p x
theorem NmV.am {H : Hp} : ∀ {us : List V} {xs : List Q2}, Paired (NmV K H) us xs → ∃ ps : List Addr, us = ps.map V.ref ∧ Paired (Nm K H) ps xs
  | _, _, .nil => ⟨[], rfl, .nil⟩
  | _, _, .cons ⟨p, e, n⟩ t => by
    obtain ⟨ps, e2, h⟩ := NmV.am t
    exact ⟨p :: ps, by rw [e, e2]; rfl, .cons n h⟩
/-! ### _law_alike -/
def sp_al (K : PySem.W.Frag) : Sp := fun vs H Q _ => ∃ (ca cb am ot : Addr) (cs : List Cell) (A B : List Q2), vs = [.ref ca, .ref cb, .ref am, .ref ot] ∧ SqC K H ca cs ∧ SqC K H cb (cs.map (mapC (rho A B))) ∧ AmF K H am A ∧ Am K H ot B ∧ Srt A ∧ A.length = B.length ∧ CIn A cs ∧ cs.length ≤ 1000 ∧ (∀ c ∈ cs, c.2.2.length ≤ 3) ∧ ∀ H', L2.Same H H' → Q (.bl true) H'
theorem ok_law_alike (T : Top K mg w) : FnOk P w K mg base CX0 7 T.a_law_alike T.d_law_alike ["cells", "twins", "among", "others"] (sp_al K) := by
  have G_law_equal : FnOk P w K mg base CX0 6 T.a_law_equal T.d_law_equal ["actual", "due"] (sp_law_equal K 4) := (ok_law_equal T 4).mono (by omega)
  have G_law_replaced : FnOk P w K mg base CX0 6 T.a_law_replaced T.d_law_replaced ["value", "among", "others"] (sp_rp K) := (ok_law_replaced T).mono (by omega)
  refine T.F_law_alike.ok sc_law_alike (fun vs H Q E h => ?_) (fun cdv A outer s H vs Q E hr h => ?_)
  · obtain ⟨ca, cb, am, ot, cs, A, B, rfl, _⟩ := h
    rfl
  obtain ⟨ca, cb, am, ot, cs, A, B, rfl, ⟨va, haL, haP⟩, ⟨vb, hbL, hbP⟩, hA, hB, sA, el, hin, hl, hh, k⟩ := h
  have la := Paired.length haP
  have lb := Paired.length hbP
  rw [List.length_map] at lb
  refine ⟨_, (pss_cons (ps_if (pt_cmpR op_ne (pe_callB call_len_seq (by rfl) T.z_len (by decide +kernel) (pa_cons (pv 0) pa_nil)) (pe_callB call_len_seq (by rfl) T.z_len (by decide +kernel) (pa_cons (pv 1) pa_nil)) (nomark _))
        (pss_one (ps_ret pe_bl))
        pss_nil)
      (pss_cons (ps_for PassesOwn.never rfl (pi_range1 (by rfl) T.z_range (pa_cons (pe_callB call_len_seq (by rfl) T.z_len (by decide +kernel) (pa_cons (pv 0) pa_nil)) pa_nil)) (pg_name (i := 4) sc_law_alike.nd rfl (Or.inl rfl))
        (pss_cons (ps_set (i := 5) sc_law_alike.nd rfl (Or.inl rfl) (pe_callTy call_tuple_of (by rfl) T.z_tuple (by decide +kernel) (pa_cons (pe_lc (own := [("one", 7)]) (g := gName 7) (by rfl) sc_law_alike.nd (pi_tup (pe_ix ix_tup (pe_ix ix_list (pv 0) (pv 4) (fun _ _ => rfl)) pe_int (fun _ _ => rfl))) (blkOk_by (own := [("one", 7)]) (N := ["cells", "twins", "among", "others", "k", "held", "due", "one"]) (sc := defScope s_law_alike) (by decide +kernel)) (fun _ _ _ _ _ => (pg_name (i := 7) sc_law_alike.nd rfl (Or.inl rfl))) (fun _ _ _ _ _ => pts_nil) (fun _ _ _ _ _ => (pe_call G_law_replaced hr (by rfl) T.m_law_replaced T.F_law_replaced.kp T.b_law_replaced .nil pass0 (pa_cons (pv 7) (pa_cons (pv 2) (pa_cons (pv 3) pa_nil)))))) pa_nil)))
      (pss_cons (ps_set (i := 6) sc_law_alike.nd rfl (Or.inl rfl) (pe_tup (pa_cons (pe_call G_law_replaced hr (by rfl) T.m_law_replaced T.F_law_replaced.kp T.b_law_replaced .nil pass0 (pa_cons (pe_ix ix_tup (pe_ix ix_list (pv 0) (pv 4) (fun _ _ => rfl)) pe_int (fun _ _ => rfl)) (pa_cons (pv 2) (pa_cons (pv 3) pa_nil)))) (pa_cons (pe_ix ix_tup (pe_ix ix_list (pv 0) (pv 4) (fun _ _ => rfl)) pe_int (fun _ _ => rfl)) (pa_cons (pv 5) pa_nil)))))
      (pss_one (ps_if (pt_not (pt_val (pe_call G_law_equal hr (by rfl) T.m_law_equal T.F_law_equal.kp T.b_law_equal .nil pass0 (pa_cons (pe_ix ix_list (pv 1) (pv 4) (fun _ _ => rfl)) (pa_cons (pv 6) pa_nil)))))
        (pss_one (ps_ret pe_bl))
        pss_nil)))))
      (pss_one (ps_ret pe_bl)))), ?_⟩
  (repeat (first
      | refine ifF ?_
      | refine ifT ?_
      | refine ⟨_, rfl, ?_⟩
      | refine ⟨_, _, rfl, rfl, ?_⟩
      | refine Or.inl ⟨_, rfl, ?_⟩
      | refine Or.inr ⟨_, rfl, ?_⟩
      | refine ⟨Or.inl ⟨by decide, by decide⟩, ?_⟩
      | refine ⟨Or.inr ⟨by decide, by decide⟩, ?_⟩
      | refine ⟨⟨by decide, by decide⟩, ?_⟩
      | refine ⟨⟨by decide, by decide, by decide⟩, ?_⟩
      | refine ⟨by decide, ?_⟩
      | refine ⟨(by show (0 : Int) < _; decide), ?_⟩
      | refine ⟨rfl, ?_⟩
      | refine ⟨⟨_, rfl⟩, ?_⟩
      | refine ⟨_, rfl, rfl, trivial, ?_⟩
      | refine ⟨_, _, rfl, ?_⟩))
  refine ⟨ca, _, rfl, .inl haL, ?_⟩
  (repeat (first
      | refine ifF ?_
      | refine ifT ?_
      | refine ⟨_, rfl, ?_⟩
      | refine ⟨_, _, rfl, rfl, ?_⟩
      | refine Or.inl ⟨_, rfl, ?_⟩
      | refine Or.inr ⟨_, rfl, ?_⟩
      | refine ⟨Or.inl ⟨by decide, by decide⟩, ?_⟩
      | refine ⟨Or.inr ⟨by decide, by decide⟩, ?_⟩
      | refine ⟨⟨by decide, by decide⟩, ?_⟩
      | refine ⟨⟨by decide, by decide, by decide⟩, ?_⟩
      | refine ⟨by decide, ?_⟩
      | refine ⟨(by show (0 : Int) < _; decide), ?_⟩
      | refine ⟨rfl, ?_⟩
      | refine ⟨⟨_, rfl⟩, ?_⟩
      | refine ⟨_, rfl, rfl, trivial, ?_⟩
      | refine ⟨_, _, rfl, ?_⟩))
  refine ⟨cb, _, rfl, .inl hbL, ?_⟩
  (repeat (first
      | refine ifF ?_
      | refine ifT ?_
      | refine ⟨_, rfl, ?_⟩
      | refine ⟨_, _, rfl, rfl, ?_⟩
      | refine Or.inl ⟨_, rfl, ?_⟩
      | refine Or.inr ⟨_, rfl, ?_⟩
      | refine ⟨Or.inl ⟨by decide, by decide⟩, ?_⟩
      | refine ⟨Or.inr ⟨by decide, by decide⟩, ?_⟩
      | refine ⟨⟨by decide, by decide⟩, ?_⟩
      | refine ⟨⟨by decide, by decide, by decide⟩, ?_⟩
      | refine ⟨by decide, ?_⟩
      | refine ⟨(by show (0 : Int) < _; decide), ?_⟩
      | refine ⟨rfl, ?_⟩
      | refine ⟨⟨_, rfl⟩, ?_⟩
      | refine ⟨_, rfl, rfl, trivial, ?_⟩
      | refine ⟨_, _, rfl, ?_⟩))
  refine ifF ?_ (by rw [la, lb, decide_eq_true rfl]; rfl)
  (repeat (first
      | refine ifF ?_
      | refine ifT ?_
      | refine ⟨_, rfl, ?_⟩
      | refine ⟨_, _, rfl, rfl, ?_⟩
      | refine Or.inl ⟨_, rfl, ?_⟩
      | refine Or.inr ⟨_, rfl, ?_⟩
      | refine ⟨Or.inl ⟨by decide, by decide⟩, ?_⟩
      | refine ⟨Or.inr ⟨by decide, by decide⟩, ?_⟩
      | refine ⟨⟨by decide, by decide⟩, ?_⟩
      | refine ⟨⟨by decide, by decide, by decide⟩, ?_⟩
      | refine ⟨by decide, ?_⟩
      | refine ⟨(by show (0 : Int) < _; decide), ?_⟩
      | refine ⟨rfl, ?_⟩
      | refine ⟨⟨_, rfl⟩, ?_⟩
      | refine ⟨_, rfl, rfl, trivial, ?_⟩
      | refine ⟨_, _, rfl, ?_⟩))
  refine ⟨ca, _, rfl, .inl haL, ?_⟩
  (repeat (first
      | refine ifF ?_
      | refine ifT ?_
      | refine ⟨_, rfl, ?_⟩
      | refine ⟨_, _, rfl, rfl, ?_⟩
      | refine Or.inl ⟨_, rfl, ?_⟩
      | refine Or.inr ⟨_, rfl, ?_⟩
      | refine ⟨Or.inl ⟨by decide, by decide⟩, ?_⟩
      | refine ⟨Or.inr ⟨by decide, by decide⟩, ?_⟩
      | refine ⟨⟨by decide, by decide⟩, ?_⟩
      | refine ⟨⟨by decide, by decide, by decide⟩, ?_⟩
      | refine ⟨by decide, ?_⟩
      | refine ⟨(by show (0 : Int) < _; decide), ?_⟩
      | refine ⟨rfl, ?_⟩
      | refine ⟨⟨_, rfl⟩, ?_⟩
      | refine ⟨_, rfl, rfl, trivial, ?_⟩
      | refine ⟨_, _, rfl, ?_⟩))
  refine ⟨by omega, by omega, ?_⟩
  have en : ((va.length : Nat) : Int).toNat = cs.length := by rw [la]; rfl
  rw [en]
  refine for_range (lo := 0) (n := cs.length) (fun i σ H' => ∃ (y4 y5 y6 y7 : Option V), σ = [some (.ref ca), some (.ref cb), some (.ref am), some (.ref ot), y4, y5, y6, y7] ∧ L2.Same H H') ⟨none, none, none, none, rfl, .refl _⟩ ?_ ?_
  · rintro i σ H' hi ⟨y4, y5, y6, y7, rfl, sm⟩
    have e0 : (0 : Int) + (i : Int) = (i : Int) := Int.zero_add _
    rw [e0]
    obtain ⟨v1, hv1, p1, hp1, u1, rfl, hT1, hu1, hA1⟩ := pget3 (Cs.tx (TX.same sm) haP) hi
    obtain ⟨v2, hv2, cv2⟩ := pget3 (Cs.tx (TX.same sm) hbP) (show i < (cs.map (mapC (rho A B))).length by rw [List.length_map]; exact hi)
    rw [List.getElem_map] at cv2
    have hci := hin _ (List.getElem_mem hi)
    have hch := hh _ (List.getElem_mem hi)
    generalize cs[i] = c at hu1 hA1 hT1 cv2 hci hch
    obtain ⟨hs, hsT, hsP⟩ := hA1
    have lhs := Paired.length hsP
    (repeat (first
      | refine ifF ?_
      | refine ifT ?_
      | refine ⟨_, rfl, ?_⟩
      | refine ⟨_, _, rfl, rfl, ?_⟩
      | refine Or.inl ⟨_, rfl, ?_⟩
      | refine Or.inr ⟨_, rfl, ?_⟩
      | refine ⟨Or.inl ⟨by decide, by decide⟩, ?_⟩
      | refine ⟨Or.inr ⟨by decide, by decide⟩, ?_⟩
      | refine ⟨⟨by decide, by decide⟩, ?_⟩
      | refine ⟨⟨by decide, by decide, by decide⟩, ?_⟩
      | refine ⟨by decide, ?_⟩
      | refine ⟨(by show (0 : Int) < _; decide), ?_⟩
      | refine ⟨rfl, ?_⟩
      | refine ⟨⟨_, rfl⟩, ?_⟩
      | refine ⟨_, rfl, rfl, trivial, ?_⟩
      | refine ⟨_, _, rfl, ?_⟩))
    refine ⟨ca, _, _, _, rfl, rfl, sm.seq haL, atI_nat hv1, ?_⟩
    (repeat (first
      | refine ifF ?_
      | refine ifT ?_
      | refine ⟨_, rfl, ?_⟩
      | refine ⟨_, _, rfl, rfl, ?_⟩
      | refine Or.inl ⟨_, rfl, ?_⟩
      | refine Or.inr ⟨_, rfl, ?_⟩
      | refine ⟨Or.inl ⟨by decide, by decide⟩, ?_⟩
      | refine ⟨Or.inr ⟨by decide, by decide⟩, ?_⟩
      | refine ⟨⟨by decide, by decide⟩, ?_⟩
      | refine ⟨⟨by decide, by decide, by decide⟩, ?_⟩
      | refine ⟨by decide, ?_⟩
      | refine ⟨(by show (0 : Int) < _; decide), ?_⟩
      | refine ⟨rfl, ?_⟩
      | refine ⟨⟨_, rfl⟩, ?_⟩
      | refine ⟨_, rfl, rfl, trivial, ?_⟩
      | refine ⟨_, _, rfl, ?_⟩))
    refine ⟨p1, _, 2, _, rfl, rfl, hT1, atI_nat (j := 2) rfl, ?_⟩
    refine ⟨hp1, rfl, ⟨_, hsT⟩, fun D hD => ?_⟩
    refine lc_tup (xs := hs.map V.ref) (fun j H2 => ∃ us, L2.Same H' H2 ∧ H2 D = some (.lst us) ∧ Paired (NmV K H2) us ((c.2.2.map (rho A B)).take j)) ⟨[], same_upd hD, upd_same, .nil⟩ ?_ ?_ ?_
    · rintro j H2 _ ⟨us, s2, _⟩
      exact My.Same.sqT s2 hsT
    · rintro j y H2 hy ⟨us, s2, hD2, hus⟩
      obtain ⟨pj, rfl, hpj⟩ := ref_at hy
      obtain ⟨x, hx, nx⟩ := pget hsP hpj
      have lus := Paired.length hus
      rw [List.length_take, List.length_map] at lus
      refine ⟨rfl, ?_⟩
      (repeat (first
      | refine ifF ?_
      | refine ifT ?_
      | refine ⟨_, rfl, ?_⟩
      | refine ⟨_, _, rfl, rfl, ?_⟩
      | refine Or.inl ⟨_, rfl, ?_⟩
      | refine Or.inr ⟨_, rfl, ?_⟩
      | refine ⟨Or.inl ⟨by decide, by decide⟩, ?_⟩
      | refine ⟨Or.inr ⟨by decide, by decide⟩, ?_⟩
      | refine ⟨⟨by decide, by decide⟩, ?_⟩
      | refine ⟨⟨by decide, by decide, by decide⟩, ?_⟩
      | refine ⟨by decide, ?_⟩
      | refine ⟨(by show (0 : Int) < _; decide), ?_⟩
      | refine ⟨rfl, ?_⟩
      | refine ⟨⟨_, rfl⟩, ?_⟩
      | refine ⟨_, rfl, rfl, trivial, ?_⟩
      | refine ⟨_, _, rfl, ?_⟩))
      refine ⟨.ref pj, am, ot, some x, A, B, rfl, Ov.of (Nm.same s2 nx), (hA.same sm).same s2, (hB.same sm).same s2, sA, el, fun z e => by cases e; exact hci.2 x (List.mem_of_getElem? hx), fun v' hv' => ?_⟩
      have tx : TX K H2 (upd H2 D (.lst (us ++ [v']))) := TX.lst hD2
      refine ⟨_, hD2, smallL (by omega), us ++ [v'], same_upd2 hD s2, upd_same, ?_⟩
      rw [List.take_succ, List.getElem?_map, hx]
      obtain ⟨p', rfl, np'⟩ := hv'
      exact papp (pmono (R := NmV K H2) (fun _ _ ⟨p, e, n⟩ => ⟨p, e, tx _ _ n⟩) hus) (.cons ⟨p', rfl, tx _ _ np'⟩ .nil)
    rintro H2 ⟨us, s2, hD2, hus⟩
    rw [List.length_map, lhs, ← List.length_map (f := rho A B), List.take_length] at hus
    obtain ⟨hps, rfl, hus2⟩ := NmV.am hus
    refine ⟨D, _, rfl, .inl ⟨SqL.of hD2, fun p6 h6 => ?_⟩⟩
    have s3 : L2.Same H2 (upd H2 p6 (.tup (hps.map V.ref))) := same_upd h6
    have am6 : Am K (upd H2 p6 (.tup (hps.map V.ref))) p6 (c.2.2.map (rho A B)) := ⟨hps, SqT.of upd_same, Paired.mono (fun _ _ q => Nm.same s3 q) hus2⟩
    have s03 := s2.trans s3
    generalize upd H2 p6 (.tup (hps.map V.ref)) = H3 at s3 am6 s03 ⊢
    (repeat (first
      | refine ifF ?_
      | refine ifT ?_
      | refine ⟨_, rfl, ?_⟩
      | refine ⟨_, _, rfl, rfl, ?_⟩
      | refine Or.inl ⟨_, rfl, ?_⟩
      | refine Or.inr ⟨_, rfl, ?_⟩
      | refine ⟨Or.inl ⟨by decide, by decide⟩, ?_⟩
      | refine ⟨Or.inr ⟨by decide, by decide⟩, ?_⟩
      | refine ⟨⟨by decide, by decide⟩, ?_⟩
      | refine ⟨⟨by decide, by decide, by decide⟩, ?_⟩
      | refine ⟨by decide, ?_⟩
      | refine ⟨(by show (0 : Int) < _; decide), ?_⟩
      | refine ⟨rfl, ?_⟩
      | refine ⟨⟨_, rfl⟩, ?_⟩
      | refine ⟨_, rfl, rfl, trivial, ?_⟩
      | refine ⟨_, _, rfl, ?_⟩))
    refine ⟨ca, _, _, _, rfl, rfl, (sm.trans s03).seq haL, atI_nat hv1, ?_⟩
    (repeat (first
      | refine ifF ?_
      | refine ifT ?_
      | refine ⟨_, rfl, ?_⟩
      | refine ⟨_, _, rfl, rfl, ?_⟩
      | refine Or.inl ⟨_, rfl, ?_⟩
      | refine Or.inr ⟨_, rfl, ?_⟩
      | refine ⟨Or.inl ⟨by decide, by decide⟩, ?_⟩
      | refine ⟨Or.inr ⟨by decide, by decide⟩, ?_⟩
      | refine ⟨⟨by decide, by decide⟩, ?_⟩
      | refine ⟨⟨by decide, by decide, by decide⟩, ?_⟩
      | refine ⟨by decide, ?_⟩
      | refine ⟨(by show (0 : Int) < _; decide), ?_⟩
      | refine ⟨rfl, ?_⟩
      | refine ⟨⟨_, rfl⟩, ?_⟩
      | refine ⟨_, rfl, rfl, trivial, ?_⟩
      | refine ⟨_, _, rfl, ?_⟩))
    refine ⟨p1, _, 0, _, rfl, rfl, My.Same.sqT s03 hT1, atI_nat (j := 0) rfl, ?_⟩
    (repeat (first
      | refine ifF ?_
      | refine ifT ?_
      | refine ⟨_, rfl, ?_⟩
      | refine ⟨_, _, rfl, rfl, ?_⟩
      | refine Or.inl ⟨_, rfl, ?_⟩
      | refine Or.inr ⟨_, rfl, ?_⟩
      | refine ⟨Or.inl ⟨by decide, by decide⟩, ?_⟩
      | refine ⟨Or.inr ⟨by decide, by decide⟩, ?_⟩
      | refine ⟨⟨by decide, by decide⟩, ?_⟩
      | refine ⟨⟨by decide, by decide, by decide⟩, ?_⟩
      | refine ⟨by decide, ?_⟩
      | refine ⟨(by show (0 : Int) < _; decide), ?_⟩
      | refine ⟨rfl, ?_⟩
      | refine ⟨⟨_, rfl⟩, ?_⟩
      | refine ⟨_, rfl, rfl, trivial, ?_⟩
      | refine ⟨_, _, rfl, ?_⟩))
    refine ⟨u1, am, ot, c.1, A, B, rfl, Ov.tx (TX.same s03) hu1, (hA.same sm).same s03, (hB.same sm).same s03, sA, el, hci.1, fun v' hv' => ?_⟩
    (repeat (first
      | refine ifF ?_
      | refine ifT ?_
      | refine ⟨_, rfl, ?_⟩
      | refine ⟨_, _, rfl, rfl, ?_⟩
      | refine Or.inl ⟨_, rfl, ?_⟩
      | refine Or.inr ⟨_, rfl, ?_⟩
      | refine ⟨Or.inl ⟨by decide, by decide⟩, ?_⟩
      | refine ⟨Or.inr ⟨by decide, by decide⟩, ?_⟩
      | refine ⟨⟨by decide, by decide⟩, ?_⟩
      | refine ⟨⟨by decide, by decide, by decide⟩, ?_⟩
      | refine ⟨by decide, ?_⟩
      | refine ⟨(by show (0 : Int) < _; decide), ?_⟩
      | refine ⟨rfl, ?_⟩
      | refine ⟨⟨_, rfl⟩, ?_⟩
      | refine ⟨_, rfl, rfl, trivial, ?_⟩
      | refine ⟨_, _, rfl, ?_⟩))
    refine ⟨ca, _, _, _, rfl, rfl, (sm.trans s03).seq haL, atI_nat hv1, ?_⟩
    (repeat (first
      | refine ifF ?_
      | refine ifT ?_
      | refine ⟨_, rfl, ?_⟩
      | refine ⟨_, _, rfl, rfl, ?_⟩
      | refine Or.inl ⟨_, rfl, ?_⟩
      | refine Or.inr ⟨_, rfl, ?_⟩
      | refine ⟨Or.inl ⟨by decide, by decide⟩, ?_⟩
      | refine ⟨Or.inr ⟨by decide, by decide⟩, ?_⟩
      | refine ⟨⟨by decide, by decide⟩, ?_⟩
      | refine ⟨⟨by decide, by decide, by decide⟩, ?_⟩
      | refine ⟨by decide, ?_⟩
      | refine ⟨(by show (0 : Int) < _; decide), ?_⟩
      | refine ⟨rfl, ?_⟩
      | refine ⟨⟨_, rfl⟩, ?_⟩
      | refine ⟨_, rfl, rfl, trivial, ?_⟩
      | refine ⟨_, _, rfl, ?_⟩))
    refine ⟨p1, _, 1, _, rfl, rfl, My.Same.sqT s03 hT1, atI_nat (j := 1) rfl, ?_⟩
    (repeat (first
      | refine ifF ?_
      | refine ifT ?_
      | refine ⟨_, rfl, ?_⟩
      | refine ⟨_, _, rfl, rfl, ?_⟩
      | refine Or.inl ⟨_, rfl, ?_⟩
      | refine Or.inr ⟨_, rfl, ?_⟩
      | refine ⟨Or.inl ⟨by decide, by decide⟩, ?_⟩
      | refine ⟨Or.inr ⟨by decide, by decide⟩, ?_⟩
      | refine ⟨⟨by decide, by decide⟩, ?_⟩
      | refine ⟨⟨by decide, by decide, by decide⟩, ?_⟩
      | refine ⟨by decide, ?_⟩
      | refine ⟨(by show (0 : Int) < _; decide), ?_⟩
      | refine ⟨rfl, ?_⟩
      | refine ⟨⟨_, rfl⟩, ?_⟩
      | refine ⟨_, rfl, rfl, trivial, ?_⟩
      | refine ⟨_, _, rfl, ?_⟩))
    refine ⟨by show 3 ≤ sizeLine; decide, fun p7 h7 => ?_⟩
    have s4 : L2.Same H3 (upd H3 p7 (.tup [v', .int (c.2.1 : Int), .ref p6])) := same_upd h7
    have e4 : (upd H3 p7 (.tup [v', .int (c.2.1 : Int), .ref p6])) p7 = some (.tup [v', .int (c.2.1 : Int), .ref p6]) := upd_same
    generalize upd H3 p7 (.tup [v', .int (c.2.1 : Int), .ref p6]) = H4 at s4 e4 ⊢
    have s04 := s03.trans s4
    (repeat (first
      | refine ifF ?_
      | refine ifT ?_
      | refine ⟨_, rfl, ?_⟩
      | refine ⟨_, _, rfl, rfl, ?_⟩
      | refine Or.inl ⟨_, rfl, ?_⟩
      | refine Or.inr ⟨_, rfl, ?_⟩
      | refine ⟨Or.inl ⟨by decide, by decide⟩, ?_⟩
      | refine ⟨Or.inr ⟨by decide, by decide⟩, ?_⟩
      | refine ⟨⟨by decide, by decide⟩, ?_⟩
      | refine ⟨⟨by decide, by decide, by decide⟩, ?_⟩
      | refine ⟨by decide, ?_⟩
      | refine ⟨(by show (0 : Int) < _; decide), ?_⟩
      | refine ⟨rfl, ?_⟩
      | refine ⟨⟨_, rfl⟩, ?_⟩
      | refine ⟨_, rfl, rfl, trivial, ?_⟩
      | refine ⟨_, _, rfl, ?_⟩))
    refine ⟨cb, _, _, _, rfl, rfl, (sm.trans s04).seq hbL, atI_nat hv2, ?_⟩
    (repeat (first
      | refine ifF ?_
      | refine ifT ?_
      | refine ⟨_, rfl, ?_⟩
      | refine ⟨_, _, rfl, rfl, ?_⟩
      | refine Or.inl ⟨_, rfl, ?_⟩
      | refine Or.inr ⟨_, rfl, ?_⟩
      | refine ⟨Or.inl ⟨by decide, by decide⟩, ?_⟩
      | refine ⟨Or.inr ⟨by decide, by decide⟩, ?_⟩
      | refine ⟨⟨by decide, by decide⟩, ?_⟩
      | refine ⟨⟨by decide, by decide, by decide⟩, ?_⟩
      | refine ⟨by decide, ?_⟩
      | refine ⟨(by show (0 : Int) < _; decide), ?_⟩
      | refine ⟨rfl, ?_⟩
      | refine ⟨⟨_, rfl⟩, ?_⟩
      | refine ⟨_, rfl, rfl, trivial, ?_⟩
      | refine ⟨_, _, rfl, ?_⟩))
    refine ⟨v2, .ref p7, cD (mapC (rho A B) c), rfl, Cv.dp (Cv.tx (TX.same s04) cv2), .tup (SqT.of e4) (.cons (Ov.dp (Ov.tx (TX.same s4) hv')) (.cons (.int _) (.cons (Am.dp (am6.same s4)) .nil))), cD_sh (by show (c.2.2.map (rho A B)).length ≤ 3; rw [List.length_map]; exact hch), ?_⟩
    (repeat (first
      | refine ifF ?_
      | refine ifT ?_
      | refine ⟨_, rfl, ?_⟩
      | refine ⟨_, _, rfl, rfl, ?_⟩
      | refine Or.inl ⟨_, rfl, ?_⟩
      | refine Or.inr ⟨_, rfl, ?_⟩
      | refine ⟨Or.inl ⟨by decide, by decide⟩, ?_⟩
      | refine ⟨Or.inr ⟨by decide, by decide⟩, ?_⟩
      | refine ⟨⟨by decide, by decide⟩, ?_⟩
      | refine ⟨⟨by decide, by decide, by decide⟩, ?_⟩
      | refine ⟨by decide, ?_⟩
      | refine ⟨(by show (0 : Int) < _; decide), ?_⟩
      | refine ⟨rfl, ?_⟩
      | refine ⟨⟨_, rfl⟩, ?_⟩
      | refine ⟨_, rfl, rfl, trivial, ?_⟩
      | refine ⟨_, _, rfl, ?_⟩))
    exact ⟨_, _, _, _, rfl, sm.trans s04⟩
  · rintro σ H' ⟨y4, y5, y6, y7, rfl, sm⟩
    (repeat (first
      | refine ifF ?_
      | refine ifT ?_
      | refine ⟨_, rfl, ?_⟩
      | refine ⟨_, _, rfl, rfl, ?_⟩
      | refine Or.inl ⟨_, rfl, ?_⟩
      | refine Or.inr ⟨_, rfl, ?_⟩
      | refine ⟨Or.inl ⟨by decide, by decide⟩, ?_⟩
      | refine ⟨Or.inr ⟨by decide, by decide⟩, ?_⟩
      | refine ⟨⟨by decide, by decide⟩, ?_⟩
      | refine ⟨⟨by decide, by decide, by decide⟩, ?_⟩
      | refine ⟨by decide, ?_⟩
      | refine ⟨(by show (0 : Int) < _; decide), ?_⟩
      | refine ⟨rfl, ?_⟩
      | refine ⟨⟨_, rfl⟩, ?_⟩
      | refine ⟨_, rfl, rfl, trivial, ?_⟩
      | refine ⟨_, _, rfl, ?_⟩))
    exact k _ sm
end
end My

namespace My
open PySem PySem.Spec PyProof.Rows L2 NumText TL
/-! ### the numbers of a row -/
def accA (l : List Rec) : List Q2 := l.foldl (fun s r => with2 s r.2) []
theorem accA_snoc (l : List Rec) (r : Rec) : accA (l ++ [r]) = with2 (accA l) r.2 := by unfold accA; rw [List.foldl_append]; rfl
theorem with2_has {xs : List Q2} (s : Srt xs) {x : Q2} (hx : ok2 x) : x ∈ with2 xs x ∧ ∀ y ∈ xs, y ∈ with2 xs x := by
  unfold with2
  refine ⟨by simp, fun y hy => ?_⟩
  rcases tri2 (s.2 y hy) hx with c | c | c
  · exact List.mem_append_left _ (List.mem_append_left _ (List.mem_filter.mpr ⟨hy, decide_eq_true c⟩))
  · subst c; simp
  · exact List.mem_append_right _ (List.mem_filter.mpr ⟨hy, decide_eq_true c⟩)
theorem accA_ok : ∀ {l : List Rec}, RowOk l → Srt (accA l) ∧ (∀ y ∈ accA l, gd2 y) ∧ (∀ r ∈ l, r.2 ∈ accA l) ∧ (accA l).length ≤ l.length := by
  intro l
  induction l using srec with
  | h0 => exact fun _ => ⟨⟨List.Pairwise.nil, fun _ h => by cases h⟩, (fun _ h => by cases h), (fun _ h => by cases h), Nat.le_refl _⟩
  | h1 l r ih =>
    intro h
    obtain ⟨hl, hr⟩ := rowOk_snoc h
    obtain ⟨i1, i2, i3, i4⟩ := ih hl
    obtain ⟨w1, w2⟩ := with2_has i1 hr.1
    rw [accA_snoc]
    refine ⟨with2_srt i1 hr.1, fun y hy => ?_, fun x hx => ?_, ?_⟩
    · rcases with2_mem hy with rfl | hy
      · exact hr
      · exact i2 y hy
    · rcases List.mem_append.mp hx with hx | hx
      · exact w2 _ (i3 x hx)
      · rw [List.mem_singleton.mp hx]; exact w1
    · have := with2_len (accA l) r.2
      rw [List.length_append]
      show _ ≤ l.length + 1
      omega
theorem hd_get {cs : List Cell} (h : 0 < cs.length) : (cs[0]).1 = hdO cs := by
  cases cs with
  | nil => exact absurd h (Nat.lt_irrefl _)
  | cons _ _ => rfl
theorem mapR_take (ρ : Q2 → Q2) (row : List Rec) (i : Nat) : mapR ρ (row.take i) = (mapR ρ row).take i := by unfold mapR; rw [List.map_take]
section
variable {P : Program} {w : World} {K : PySem.W.Frag} {mg : Str → Option Value} {base : Heap}
/-! ### law -/
def spLaw (K : PySem.W.Frag) : Sp := fun vs H Q _ => ∃ (a : Addr) (ns : List Int), vs = [.ref a] ∧ SqL K H a (ns.map V.int) ∧ ns.length ≤ 63 ∧ ∀ H', Q (.bl true) H'
theorem ok_law (T : Top K mg w) : FnOk P w K mg base CX0 30 T.a_law T.d_law ["script"] (spLaw K) := by
  refine T.F_law.ok sc_law (fun vs H Q E h => ?_) (fun cdv A outer s H vs Q E hr h => ?_)
  · obtain ⟨a, ns, rfl, _⟩ := h
    rfl
  obtain ⟨a0, ns0, rfl, hS, h63, q⟩ := h
  have G_law_tree : FnOk P w K mg base CX0 29 T.a_law_tree T.d_law_tree ["state", "names", "room"] (sp_law_tree K 10) := (ok_law_tree T 10).mono (by decide)
  have G_law_with : FnOk P w K mg base CX0 29 T.a_law_with T.d_law_with ["among", "number"] (sp_law_withF K) := (ok_law_withF T).mono (by decide)
  have G_law_others : FnOk P w K mg base CX0 29 T.a_law_others T.d_law_others ["state", "among"] (sp_ot K) := (ok_law_others T).mono (by decide)
  have G_law_replaced : FnOk P w K mg base CX0 29 T.a_law_replaced T.d_law_replaced ["value", "among", "others"] (sp_rp K) := (ok_law_replaced T).mono (by decide)
  have G_law_alike : FnOk P w K mg base CX0 29 T.a_law_alike T.d_law_alike ["cells", "twins", "among", "others"] (sp_al K) := (ok_law_alike T).mono (by decide)
  have G_law_equal : FnOk P w K mg base CX0 29 T.a_law_equal T.d_law_equal ["actual", "due"] (sp_law_equal K 5) := (ok_law_equal T 5).mono (by decide)
  have G_hear_cells : FnOk P w K mg base CX0 29 T.a_hear_cells T.d_hear_cells ["tree", "cells", "name", "number"] (sp_hc K 10) := (ok_hear_cells T 10).mono (by decide)
  have G_meaning : FnOk P w K mg base CX0 29 T.a_meaning T.d_meaning ["tree", "row"] (sp_mean K 10) := (ok_meaning T 10).mono (by decide)
  refine ⟨_, (pss_cons (ps_set (i := 1) sc_law.nd rfl (Or.inl rfl) (pe_lst (pa_cons (pe_call ((ok_law_tape T).mono (by decide)) hr (by rfl) T.m_law_tape T.F_law_tape.kp T.b_law_tape .nil pass0 (pa_cons (pv 0) pa_nil)) (pa_cons pe_int pa_nil))))
      (pss_cons (ps_set (i := 2) sc_law.nd rfl (Or.inl rfl) (pe_call ((ok_law_names T).mono (by decide)) hr (by rfl) T.m_law_names T.F_law_names.kp T.b_law_names .nil pass0 (pa_cons (pv 1) pa_nil)))
      (pss_cons (ps_set (i := 3) sc_law.nd rfl (Or.inl rfl) (pe_call G_law_tree hr (by rfl) T.m_law_tree T.F_law_tree.kp T.b_law_tree .nil pass0 (pa_cons (pv 1) (pa_cons (pv 2) (pa_cons (pe_op op_add pe_int (pe_call ((ok_law_take T).mono (by decide)) hr (by rfl) T.m_law_take T.F_law_take.kp T.b_law_take .nil pass0 (pa_cons (pv 1) (pa_cons pe_int pa_nil)))) pa_nil)))))
      (pss_cons (ps_set (i := 4) sc_law.nd rfl (Or.inl rfl) (pe_call ((ok_law_row T).mono (by decide)) hr (by rfl) T.m_law_row T.F_law_row.kp T.b_law_row .nil pass0 (pa_cons (pv 1) (pa_cons (pv 2) (pa_cons pe_int pa_nil)))))
      (pss_cons (ps_set (i := 5) sc_law.nd rfl (Or.inr rfl) (pe_tup pa_nil))
      (pss_cons (ps_for PassesOwn.never rfl (pi_list (pv 4)) (pg_tup (by rfl) (pgs_cons (pg_name (i := 6) sc_law.nd rfl (Or.inl rfl)) (pgs_cons (pg_name (i := 7) sc_law.nd rfl (Or.inl rfl)) pgs_nil)))
        (pss_one (ps_set (i := 5) sc_law.nd rfl (Or.inr rfl) (pe_call G_law_with hr (by rfl) T.m_law_with T.F_law_with.kp T.b_law_with .nil pass0 (pa_cons (pv 5) (pa_cons (pv 7) pa_nil))))))
      (pss_cons (ps_set (i := 8) sc_law.nd rfl (Or.inr rfl) (pe_call G_law_others hr (by rfl) T.m_law_others T.F_law_others.kp T.b_law_others .nil pass0 (pa_cons (pv 1) (pa_cons (pv 5) pa_nil))))
      (pss_cons (ps_setLc (i := 9) (own := [("name", 6), ("number", 7)]) (g := gTup K 2 (gCons (gName 6) (gCons (gName 7) gNil))) (by rfl) sc_law.nd rfl rfl (sw_true rfl rfl rfl (by decide +kernel)) (pi_list (pv 4)) (blkOk_by (own := [("name", 6), ("number", 7)]) (N := ["script", "state", "names", "tree", "row", "among", "name", "number", "others", "twin", "cells", "twins", "k", "due"]) (sc := defScope s_law) (by decide +kernel)) (fun _ _ _ _ _ => (pg_tup (by rfl) (pgs_cons (pg_name (i := 6) sc_law.nd rfl (Or.inl rfl)) (pgs_cons (pg_name (i := 7) sc_law.nd rfl (Or.inl rfl)) pgs_nil)))) (fun _ _ _ _ _ => pts_nil) (fun _ _ _ _ _ => (pe_tup (pa_cons (pv 6) (pa_cons (pe_call G_law_replaced hr (by rfl) T.m_law_replaced T.F_law_replaced.kp T.b_law_replaced .nil pass0 (pa_cons (pv 7) (pa_cons (pv 5) (pa_cons (pv 8) pa_nil)))) pa_nil)))))
      (pss_cons (ps_set (i := 10) sc_law.nd rfl (Or.inl rfl) (pe_call ((ok_first_cells T).mono (by decide)) hr (by rfl) T.m_first_cells T.F_first_cells.kp T.b_first_cells .nil pass0 (pa_cons (pv 3) pa_nil)))
      (pss_cons (ps_set (i := 11) sc_law.nd rfl (Or.inl rfl) (pe_call ((ok_first_cells T).mono (by decide)) hr (by rfl) T.m_first_cells T.F_first_cells.kp T.b_first_cells .nil pass0 (pa_cons (pv 3) pa_nil)))
      (pss_cons (ps_for PassesOwn.never rfl (pi_range1 (by rfl) T.z_range (pa_cons (pe_callB call_len_seq (by rfl) T.z_len (by decide +kernel) (pa_cons (pv 4) pa_nil)) pa_nil)) (pg_name (i := 12) sc_law.nd rfl (Or.inl rfl))
        (pss_cons (ps_set (i := 10) sc_law.nd rfl (Or.inl rfl) (pe_call G_hear_cells hr (by rfl) T.m_hear_cells T.F_hear_cells.kp T.b_hear_cells .nil pass0 (pa_cons (pv 3) (pa_cons (pv 10) (pa_cons (pe_ix ix_tup (pe_ix ix_list (pv 4) (pv 12) (fun _ _ => rfl)) pe_int (fun _ _ => rfl)) (pa_cons (pe_ix ix_tup (pe_ix ix_list (pv 4) (pv 12) (fun _ _ => rfl)) pe_int (fun _ _ => rfl)) pa_nil))))))
      (pss_cons (ps_set (i := 11) sc_law.nd rfl (Or.inl rfl) (pe_call G_hear_cells hr (by rfl) T.m_hear_cells T.F_hear_cells.kp T.b_hear_cells .nil pass0 (pa_cons (pv 3) (pa_cons (pv 11) (pa_cons (pe_ix ix_tup (pe_ix ix_list (pv 9) (pv 12) (fun _ _ => rfl)) pe_int (fun _ _ => rfl)) (pa_cons (pe_ix ix_tup (pe_ix ix_list (pv 9) (pv 12) (fun _ _ => rfl)) pe_int (fun _ _ => rfl)) pa_nil))))))
      (pss_cons (ps_set (i := 13) sc_law.nd rfl (Or.inl rfl) (pe_call G_law_replaced hr (by rfl) T.m_law_replaced T.F_law_replaced.kp T.b_law_replaced .nil pass0 (pa_cons (pe_call G_meaning hr (by rfl) T.m_meaning T.F_meaning.kp T.b_meaning .nil pass0 (pa_cons (pv 3) (pa_cons (pe_slice sl_list (pv 4) po_none (po_some (pe_op op_add (pv 12) pe_int))) pa_nil))) (pa_cons (pv 5) (pa_cons (pv 8) pa_nil)))))
      (pss_cons (ps_if (PW.pt (pw_or (pt_not (pt_val (pe_call G_law_equal hr (by rfl) T.m_law_equal T.F_law_equal.kp T.b_law_equal .nil pass0 (pa_cons (pe_call G_meaning hr (by rfl) T.m_meaning T.F_meaning.kp T.b_meaning .nil pass0 (pa_cons (pv 3) (pa_cons (pe_slice sl_list (pv 9) po_none (po_some (pe_op op_add (pv 12) pe_int))) pa_nil))) (pa_cons (pv 13) pa_nil))))) (pw_or1 (pt_not (pt_val (pe_call G_law_equal hr (by rfl) T.m_law_equal T.F_law_equal.kp T.b_law_equal .nil pass0 (pa_cons (pe_ix ix_tup (pe_ix ix_list (pv 11) pe_int (fun _ _ => rfl)) pe_int (fun _ _ => rfl)) (pa_cons (pv 13) pa_nil))))))))
        (pss_one (ps_ret pe_bl))
        pss_nil)
      (pss_one (ps_if (pt_not (pt_val (pe_call G_law_alike hr (by rfl) T.m_law_alike T.F_law_alike.kp T.b_law_alike .nil pass0 (pa_cons (pv 10) (pa_cons (pv 11) (pa_cons (pv 5) (pa_cons (pv 8) pa_nil)))))))
        (pss_one (ps_ret pe_bl))
        pss_nil)))))))
      (pss_one (ps_ret pe_bl))))))))))))), ?_⟩
  (repeat (first
      | refine ⟨_, rfl, ?_⟩
      | refine ⟨_, _, rfl, rfl, ?_⟩
      | refine Or.inl ⟨_, rfl, ?_⟩
      | refine Or.inr ⟨_, rfl, ?_⟩
      | refine ⟨Or.inl ⟨by decide, by decide⟩, ?_⟩
      | refine ⟨Or.inr ⟨by decide, by decide⟩, ?_⟩
      | refine ⟨⟨by decide, by decide⟩, ?_⟩
      | refine ⟨⟨by decide, by decide, by decide⟩, ?_⟩
      | refine ⟨by decide, ?_⟩
      | refine ⟨(by show (0 : Int) < _; decide), ?_⟩
      | refine ⟨rfl, ?_⟩
      | refine ⟨⟨_, rfl⟩, ?_⟩
      | refine ⟨_, rfl, rfl, trivial, ?_⟩
      | refine ⟨_, _, rfl, ?_⟩))
  refine ⟨a0, ns0, rfl, hS, h63, fun H1 tp ts s1 f1 e1 b1 l1 => ?_⟩
  (repeat (first
      | refine ⟨_, rfl, ?_⟩
      | refine ⟨_, _, rfl, rfl, ?_⟩
      | refine Or.inl ⟨_, rfl, ?_⟩
      | refine Or.inr ⟨_, rfl, ?_⟩
      | refine ⟨Or.inl ⟨by decide, by decide⟩, ?_⟩
      | refine ⟨Or.inr ⟨by decide, by decide⟩, ?_⟩
      | refine ⟨⟨by decide, by decide⟩, ?_⟩
      | refine ⟨⟨by decide, by decide, by decide⟩, ?_⟩
      | refine ⟨by decide, ?_⟩
      | refine ⟨(by show (0 : Int) < _; decide), ?_⟩
      | refine ⟨rfl, ?_⟩
      | refine ⟨⟨_, rfl⟩, ?_⟩
      | refine ⟨_, rfl, rfl, trivial, ?_⟩
      | refine ⟨_, _, rfl, ?_⟩))
  refine ⟨by show 2 ≤ sizeLine; decide, fun st hst => ?_⟩
  have S2 : St (upd H1 st (.lst [.ref tp, .int 0])) st 0 := ⟨tp, ts, upd_same, ne_of_none e1 hst, by rw [upd_ne (ne_of_none e1 hst)]; exact e1, l1, b1⟩
  generalize upd H1 st (.lst [.ref tp, .int 0]) = H2 at S2 ⊢
  (repeat (first
      | refine ⟨_, rfl, ?_⟩
      | refine ⟨_, _, rfl, rfl, ?_⟩
      | refine Or.inl ⟨_, rfl, ?_⟩
      | refine Or.inr ⟨_, rfl, ?_⟩
      | refine ⟨Or.inl ⟨by decide, by decide⟩, ?_⟩
      | refine ⟨Or.inr ⟨by decide, by decide⟩, ?_⟩
      | refine ⟨⟨by decide, by decide⟩, ?_⟩
      | refine ⟨⟨by decide, by decide, by decide⟩, ?_⟩
      | refine ⟨by decide, ?_⟩
      | refine ⟨(by show (0 : Int) < _; decide), ?_⟩
      | refine ⟨rfl, ?_⟩
      | refine ⟨⟨_, rfl⟩, ?_⟩
      | refine ⟨_, rfl, rfl, trivial, ?_⟩
      | refine ⟨_, _, rfl, ?_⟩))
  refine ⟨st, 0, rfl, S2, by decide, fun nmA ns n1 H3 x3 s3 hn1 hN hno => ?_⟩
  (repeat (first
      | refine ⟨_, rfl, ?_⟩
      | refine ⟨_, _, rfl, rfl, ?_⟩
      | refine Or.inl ⟨_, rfl, ?_⟩
      | refine Or.inr ⟨_, rfl, ?_⟩
      | refine ⟨Or.inl ⟨by decide, by decide⟩, ?_⟩
      | refine ⟨Or.inr ⟨by decide, by decide⟩, ?_⟩
      | refine ⟨⟨by decide, by decide⟩, ?_⟩
      | refine ⟨⟨by decide, by decide, by decide⟩, ?_⟩
      | refine ⟨by decide, ?_⟩
      | refine ⟨(by show (0 : Int) < _; decide), ?_⟩
      | refine ⟨rfl, ?_⟩
      | refine ⟨⟨_, rfl⟩, ?_⟩
      | refine ⟨_, rfl, rfl, trivial, ?_⟩
      | refine ⟨_, _, rfl, ?_⟩))
  refine ⟨st, n1, 9, rfl, s3, by omega, by decide, fun v H4 v0 v1 x4 s4 => ?_⟩
  have hN4 := x4.seqT hN
  have ecast : (1 : Int) + v = (((1 + v).toNat : Nat) : Int) := by omega
  refine ⟨_, _, rfl, rfl, ?_⟩
  refine ⟨st, nmA, n1 + 1, ns, (1 + v).toNat, by rw [← ecast]; rfl, s4, by omega, hN4, hno, by omega, by omega, by omega, fun p t a n5 H5 x5 s5 hn5 hd hp hra hal => ?_⟩
  have hN5 := x5.seqT hN4
  obtain ⟨qq, rfl, hk, hz⟩ := pr_qn hp
  have htr := qt_tr qq hk
  (repeat (first
      | refine ⟨_, rfl, ?_⟩
      | refine ⟨_, _, rfl, rfl, ?_⟩
      | refine Or.inl ⟨_, rfl, ?_⟩
      | refine Or.inr ⟨_, rfl, ?_⟩
      | refine ⟨Or.inl ⟨by decide, by decide⟩, ?_⟩
      | refine ⟨Or.inr ⟨by decide, by decide⟩, ?_⟩
      | refine ⟨⟨by decide, by decide⟩, ?_⟩
      | refine ⟨⟨by decide, by decide, by decide⟩, ?_⟩
      | refine ⟨by decide, ?_⟩
      | refine ⟨(by show (0 : Int) < _; decide), ?_⟩
      | refine ⟨rfl, ?_⟩
      | refine ⟨⟨_, rfl⟩, ?_⟩
      | refine ⟨_, rfl, rfl, trivial, ?_⟩
      | refine ⟨_, _, rfl, ?_⟩))
  refine ⟨st, nmA, n5, ns, 9, rfl, s5, by omega, hN5, hno, by decide, fun R vr row n6 H6 x6 s6 hn6 hR0 hR hrv hok hrn hrl => ?_⟩
  have hd6 := Dp.tx (TX.sx x6) hd htr
  have lr := Paired.length hrv
  obtain ⟨sA, gA, mA, lA⟩ := accA_ok hok
  clear x3 x4 x5 x6
  (repeat (first
      | refine ifF ?_
      | refine ifT ?_
      | refine ⟨_, rfl, ?_⟩
      | refine ⟨_, _, rfl, rfl, ?_⟩
      | refine Or.inl ⟨_, rfl, ?_⟩
      | refine Or.inr ⟨_, rfl, ?_⟩
      | refine ⟨Or.inl ⟨by decide, by decide⟩, ?_⟩
      | refine ⟨Or.inr ⟨by decide, by decide⟩, ?_⟩
      | refine ⟨⟨by decide, by decide⟩, ?_⟩
      | refine ⟨⟨by decide, by decide, by decide⟩, ?_⟩
      | refine ⟨by decide, ?_⟩
      | refine ⟨(by show (0 : Int) < _; decide), ?_⟩
      | refine ⟨rfl, ?_⟩
      | refine ⟨⟨_, rfl⟩, ?_⟩
      | refine ⟨_, rfl, rfl, trivial, ?_⟩
      | refine ⟨_, _, rfl, ?_⟩))
  refine fun t0 ht0 => ?_
  have r0 : L2.Same H6 (upd H6 t0 (.tup [])) := same_upd ht0
  have h0 : Am K (upd H6 t0 (.tup [])) t0 [] := ⟨[], SqT.of upd_same, .nil⟩
  generalize upd H6 t0 (.tup []) = H7 at r0 h0 ⊢
  (repeat (first
      | refine ifF ?_
      | refine ifT ?_
      | refine ⟨_, rfl, ?_⟩
      | refine ⟨_, _, rfl, rfl, ?_⟩
      | refine Or.inl ⟨_, rfl, ?_⟩
      | refine Or.inr ⟨_, rfl, ?_⟩
      | refine ⟨Or.inl ⟨by decide, by decide⟩, ?_⟩
      | refine ⟨Or.inr ⟨by decide, by decide⟩, ?_⟩
      | refine ⟨⟨by decide, by decide⟩, ?_⟩
      | refine ⟨⟨by decide, by decide, by decide⟩, ?_⟩
      | refine ⟨by decide, ?_⟩
      | refine ⟨(by show (0 : Int) < _; decide), ?_⟩
      | refine ⟨rfl, ?_⟩
      | refine ⟨⟨_, rfl⟩, ?_⟩
      | refine ⟨_, rfl, rfl, trivial, ?_⟩
      | refine ⟨_, _, rfl, ?_⟩))
  refine ⟨⟨_, SqL.of (r0 _ _ hR)⟩, for_list (xs := vr) (fun i σ H' => ∃ (am : Addr) (y6 y7 : Option V), σ = [some (.ref a0), some (.ref st), some (.ref nmA), some (.ref p), some (.ref R), some (.ref am), y6, y7, none, none, none, none, none, none] ∧ L2.Same H6 H' ∧ Am K H' am (accA (row.take i)) ∧ (0 < i → AmF K H' am (accA (row.take i)))) ⟨t0, none, none, rfl, r0, h0, fun h => absurd h (Nat.lt_irrefl _)⟩ ?_ ?_ ?_⟩
  · rintro i σ H' _ ⟨am, y6, y7, rfl, sm, _⟩
    exact SqL.of (sm _ _ hR)
  · rintro i z σ H' hz' ⟨am, y6, y7, rfl, sm, hAm, _⟩
    obtain ⟨r, hri, rv0⟩ := pget (R := Rv K H6) hrv hz'
    obtain ⟨pr, pn, rfl, hprT, hpn⟩ := Rv.tx (TX.same sm) rv0
    have hgd := hok r (List.mem_of_getElem? hri)
    have hokt : RowOk (row.take i) := fun r hr' => hok r (List.mem_of_mem_take hr')
    obtain ⟨t1, t2, t3, t4⟩ := accA_ok hokt
    rw [List.length_take] at t4
    (repeat (first
      | refine ifF ?_
      | refine ifT ?_
      | refine ⟨_, rfl, ?_⟩
      | refine ⟨_, _, rfl, rfl, ?_⟩
      | refine Or.inl ⟨_, rfl, ?_⟩
      | refine Or.inr ⟨_, rfl, ?_⟩
      | refine ⟨Or.inl ⟨by decide, by decide⟩, ?_⟩
      | refine ⟨Or.inr ⟨by decide, by decide⟩, ?_⟩
      | refine ⟨⟨by decide, by decide⟩, ?_⟩
      | refine ⟨⟨by decide, by decide, by decide⟩, ?_⟩
      | refine ⟨by decide, ?_⟩
      | refine ⟨(by show (0 : Int) < _; decide), ?_⟩
      | refine ⟨rfl, ?_⟩
      | refine ⟨⟨_, rfl⟩, ?_⟩
      | refine ⟨_, rfl, rfl, trivial, ?_⟩
      | refine ⟨_, _, rfl, ?_⟩))
    refine ⟨pr, _, rfl, hprT, rfl, ?_⟩
    (repeat (first
      | refine ifF ?_
      | refine ifT ?_
      | refine ⟨_, rfl, ?_⟩
      | refine ⟨_, _, rfl, rfl, ?_⟩
      | refine Or.inl ⟨_, rfl, ?_⟩
      | refine Or.inr ⟨_, rfl, ?_⟩
      | refine ⟨Or.inl ⟨by decide, by decide⟩, ?_⟩
      | refine ⟨Or.inr ⟨by decide, by decide⟩, ?_⟩
      | refine ⟨⟨by decide, by decide⟩, ?_⟩
      | refine ⟨⟨by decide, by decide, by decide⟩, ?_⟩
      | refine ⟨by decide, ?_⟩
      | refine ⟨(by show (0 : Int) < _; decide), ?_⟩
      | refine ⟨rfl, ?_⟩
      | refine ⟨⟨_, rfl⟩, ?_⟩
      | refine ⟨_, rfl, rfl, trivial, ?_⟩
      | refine ⟨_, _, rfl, ?_⟩))
    refine ⟨am, pn, _, r.2, rfl, hAm, hpn, BdL_of t2, gd_bd hgd, by omega, fun p3 H3' s3' hA3 => ?_⟩
    have et : row.take (i + 1) = row.take i ++ [r] := by
      obtain ⟨h3, h4⟩ := List.getElem?_eq_some_iff.mp hri
      rw [take_snoc h3, h4]
    rw [← accA_snoc, ← et] at hA3
    exact ⟨p3, _, _, rfl, sm.trans s3', hA3.am, fun _ => hA3⟩
  rintro σ H8 ⟨am, y6, y7, rfl, s68, hAm, hAf⟩
  rw [lr, List.take_length] at hAm hAf
  have s8 := s6.same s68
  (repeat (first
      | refine ifF ?_
      | refine ifT ?_
      | refine ⟨_, rfl, ?_⟩
      | refine ⟨_, _, rfl, rfl, ?_⟩
      | refine Or.inl ⟨_, rfl, ?_⟩
      | refine Or.inr ⟨_, rfl, ?_⟩
      | refine ⟨Or.inl ⟨by decide, by decide⟩, ?_⟩
      | refine ⟨Or.inr ⟨by decide, by decide⟩, ?_⟩
      | refine ⟨⟨by decide, by decide⟩, ?_⟩
      | refine ⟨⟨by decide, by decide, by decide⟩, ?_⟩
      | refine ⟨by decide, ?_⟩
      | refine ⟨(by show (0 : Int) < _; decide), ?_⟩
      | refine ⟨rfl, ?_⟩
      | refine ⟨⟨_, rfl⟩, ?_⟩
      | refine ⟨_, rfl, rfl, trivial, ?_⟩
      | refine ⟨_, _, rfl, ?_⟩))
  refine ⟨st, am, n6, accA row, rfl, s8, by omega, hAm, by omega, fun ot B n9 H9 x9 s9 hn9 hB sB lB gB => ?_⟩
  have hRst : R ≠ st := fun z => by
    obtain ⟨xs, hx⟩ := s5.isL
    rw [z, hx] at hR0
    cases hR0
  have hR9 := x9.lst hRst (s68 _ _ hR)
  have hd9 := Dp.tx (TX.sx x9) (Dp.same s68 hd6) htr
  have hrv9 := Rs.tx (TX.sx x9) (Rs.tx (TX.same s68) hrv)
  have hAf9 : 0 < row.length → AmF K H9 am (accA row) := fun h => (hAf (by omega)).sx x9
  have hmono := rho_mono sA sB lB.symm
  have hok2 : RowOk (mapR (rho (accA row) B) row) := fun r hr' => by
    obtain ⟨r0, hr0, rfl⟩ := List.mem_map.mp hr'
    exact gB _ (rho_in sA lB.symm (mA r0 hr0))
  clear hR hrv hd6 hAm hAf x9 s68 s8
  (repeat (first
      | refine ifF ?_
      | refine ifT ?_
      | refine ⟨_, rfl, ?_⟩
      | refine ⟨_, _, rfl, rfl, ?_⟩
      | refine Or.inl ⟨_, rfl, ?_⟩
      | refine Or.inr ⟨_, rfl, ?_⟩
      | refine ⟨Or.inl ⟨by decide, by decide⟩, ?_⟩
      | refine ⟨Or.inr ⟨by decide, by decide⟩, ?_⟩
      | refine ⟨⟨by decide, by decide⟩, ?_⟩
      | refine ⟨⟨by decide, by decide, by decide⟩, ?_⟩
      | refine ⟨by decide, ?_⟩
      | refine ⟨(by show (0 : Int) < _; decide), ?_⟩
      | refine ⟨rfl, ?_⟩
      | refine ⟨⟨_, rfl⟩, ?_⟩
      | refine ⟨_, rfl, rfl, trivial, ?_⟩
      | refine ⟨_, _, rfl, ?_⟩))
  refine ⟨⟨_, SqL.of hR9⟩, fun W hW => ?_⟩
  refine lc_list (xs := vr) (fun j H' => ∃ us, L2.Same H9 H' ∧ H' W = some (.lst us) ∧ Paired (Rv K H') us ((mapR (rho (accA row) B) row).take j)) ⟨[], same_upd hW, upd_same, .nil⟩ ?_ ?_ ?_
  · rintro j H' _ ⟨us, sm, _⟩
    exact SqL.of (sm _ _ hR9)
  · rintro j z H' hz' ⟨us, sm, hWl, hus⟩
    obtain ⟨r, hri, rv0⟩ := pget hrv9 hz'
    obtain ⟨pr, pn, rfl, hprT, hpn⟩ := Rv.tx (TX.same sm) rv0
    have hrm := List.mem_of_getElem? hri
    have hjl := (List.getElem?_eq_some_iff.mp hri).1
    have hpos : 0 < row.length := by omega
    have lus := Paired.length hus
    rw [List.length_take] at lus
    (repeat (first
      | refine ifF ?_
      | refine ifT ?_
      | refine ⟨_, rfl, ?_⟩
      | refine ⟨_, _, rfl, rfl, ?_⟩
      | refine Or.inl ⟨_, rfl, ?_⟩
      | refine Or.inr ⟨_, rfl, ?_⟩
      | refine ⟨Or.inl ⟨by decide, by decide⟩, ?_⟩
      | refine ⟨Or.inr ⟨by decide, by decide⟩, ?_⟩
      | refine ⟨⟨by decide, by decide⟩, ?_⟩
      | refine ⟨⟨by decide, by decide, by decide⟩, ?_⟩
      | refine ⟨by decide, ?_⟩
      | refine ⟨(by show (0 : Int) < _; decide), ?_⟩
      | refine ⟨rfl, ?_⟩
      | refine ⟨⟨_, rfl⟩, ?_⟩
      | refine ⟨_, rfl, rfl, trivial, ?_⟩
      | refine ⟨_, _, rfl, ?_⟩))
    refine ⟨pr, _, rfl, hprT, rfl, ?_⟩
    (repeat (first
      | refine ifF ?_
      | refine ifT ?_
      | refine ⟨_, rfl, ?_⟩
      | refine ⟨_, _, rfl, rfl, ?_⟩
      | refine Or.inl ⟨_, rfl, ?_⟩
      | refine Or.inr ⟨_, rfl, ?_⟩
      | refine ⟨Or.inl ⟨by decide, by decide⟩, ?_⟩
      | refine ⟨Or.inr ⟨by decide, by decide⟩, ?_⟩
      | refine ⟨⟨by decide, by decide⟩, ?_⟩
      | refine ⟨⟨by decide, by decide, by decide⟩, ?_⟩
      | refine ⟨by decide, ?_⟩
      | refine ⟨(by show (0 : Int) < _; decide), ?_⟩
      | refine ⟨rfl, ?_⟩
      | refine ⟨⟨_, rfl⟩, ?_⟩
      | refine ⟨_, rfl, rfl, trivial, ?_⟩
      | refine ⟨_, _, rfl, ?_⟩))
    refine ⟨.ref pn, am, ot, some r.2, accA row, B, rfl, Ov.of hpn, (hAf9 hpos).same sm, hB.same sm, sA, lB.symm, fun z e => by cases e; exact mA r hrm, fun v' hv' => ?_⟩
    obtain ⟨p', rfl, np'⟩ := hv'
    (repeat (first
      | refine ifF ?_
      | refine ifT ?_
      | refine ⟨_, rfl, ?_⟩
      | refine ⟨_, _, rfl, rfl, ?_⟩
      | refine Or.inl ⟨_, rfl, ?_⟩
      | refine Or.inr ⟨_, rfl, ?_⟩
      | refine ⟨Or.inl ⟨by decide, by decide⟩, ?_⟩
      | refine ⟨Or.inr ⟨by decide, by decide⟩, ?_⟩
      | refine ⟨⟨by decide, by decide⟩, ?_⟩
      | refine ⟨⟨by decide, by decide, by decide⟩, ?_⟩
      | refine ⟨by decide, ?_⟩
      | refine ⟨(by show (0 : Int) < _; decide), ?_⟩
      | refine ⟨rfl, ?_⟩
      | refine ⟨⟨_, rfl⟩, ?_⟩
      | refine ⟨_, rfl, rfl, trivial, ?_⟩
      | refine ⟨_, _, rfl, ?_⟩))
    refine ⟨by show 2 ≤ sizeLine; decide, fun pt hpt => ?_⟩
    have s1 : L2.Same H' (upd H' pt (.tup [.str r.1, .ref p'])) := same_upd hpt
    have e1 : (upd H' pt (.tup [.str r.1, .ref p'])) pt = some (.tup [.str r.1, .ref p']) := upd_same
    generalize upd H' pt (.tup [.str r.1, .ref p']) = J1 at s1 e1 ⊢
    have tx : TX K J1 (upd J1 W (.lst (us ++ [.ref pt]))) := TX.lst (s1 _ _ hWl)
    refine ⟨_, s1 _ _ hWl, smallL (by omega), us ++ [.ref pt], same_upd2 hW (sm.trans s1), upd_same, ?_⟩
    rw [List.take_succ, show (mapR (rho (accA row) B) row)[j]? = some (r.1, rho (accA row) B r.2) by unfold mapR; rw [List.getElem?_map, hri]; rfl]
    exact papp (Rs.tx ((TX.same s1).trans tx) hus) (.cons ⟨pt, p', rfl, tx _ _ (SqT.of e1), tx _ _ (Nm.same s1 np')⟩ .nil)
  rintro H10 ⟨ws, s10, hW10, hws⟩
  have lmr : (mapR (rho (accA row) B) row).length = row.length := by unfold mapR; rw [List.length_map]
  rw [lr, List.take_of_length_le (Nat.le_of_eq lmr)] at hws
  (repeat (first
      | refine ifF ?_
      | refine ifT ?_
      | refine ⟨_, rfl, ?_⟩
      | refine ⟨_, _, rfl, rfl, ?_⟩
      | refine Or.inl ⟨_, rfl, ?_⟩
      | refine Or.inr ⟨_, rfl, ?_⟩
      | refine ⟨Or.inl ⟨by decide, by decide⟩, ?_⟩
      | refine ⟨Or.inr ⟨by decide, by decide⟩, ?_⟩
      | refine ⟨⟨by decide, by decide⟩, ?_⟩
      | refine ⟨⟨by decide, by decide, by decide⟩, ?_⟩
      | refine ⟨by decide, ?_⟩
      | refine ⟨(by show (0 : Int) < _; decide), ?_⟩
      | refine ⟨rfl, ?_⟩
      | refine ⟨⟨_, rfl⟩, ?_⟩
      | refine ⟨_, rfl, rfl, trivial, ?_⟩
      | refine ⟨_, _, rfl, ?_⟩))
  refine ⟨p, qq, rfl, Dp.same s10 hd9, hk, by omega, fun D0 ds0 H11 s11 hD00 hD0 hP0 => ?_⟩
  (repeat (first
      | refine ifF ?_
      | refine ifT ?_
      | refine ⟨_, rfl, ?_⟩
      | refine ⟨_, _, rfl, rfl, ?_⟩
      | refine Or.inl ⟨_, rfl, ?_⟩
      | refine Or.inr ⟨_, rfl, ?_⟩
      | refine ⟨Or.inl ⟨by decide, by decide⟩, ?_⟩
      | refine ⟨Or.inr ⟨by decide, by decide⟩, ?_⟩
      | refine ⟨⟨by decide, by decide⟩, ?_⟩
      | refine ⟨⟨by decide, by decide, by decide⟩, ?_⟩
      | refine ⟨by decide, ?_⟩
      | refine ⟨(by show (0 : Int) < _; decide), ?_⟩
      | refine ⟨rfl, ?_⟩
      | refine ⟨⟨_, rfl⟩, ?_⟩
      | refine ⟨_, rfl, rfl, trivial, ?_⟩
      | refine ⟨_, _, rfl, ?_⟩))
  refine ⟨p, qq, rfl, Dp.same (s10.trans s11) hd9, hk, by omega, fun E0 es0 H12 s12 hE00 hE0 hQ0 => ?_⟩
  have s912 := (s10.trans s11).trans s12
  have hW12 := s12 _ _ (s11 _ _ hW10)
  have hws12 := Rs.tx (TX.same (s11.trans s12)) hws
  have hR12 := s912 _ _ hR9
  have hrv12 := Rs.tx (TX.same s912) hrv9
  have hd12 := Dp.same s912 hd9
  have hD12 := s12 _ _ hD0
  have hP12 := Cs.tx (TX.same s12) hP0
  have hB12 := hB.same s912
  have hAf12 : 0 < row.length → AmF K H12 am (accA row) := fun h => (hAf9 h).same s912
  obtain ⟨ρ, hρ⟩ : ∃ ρ, ρ = rho (accA row) B := ⟨_, rfl⟩
  rw [← hρ] at hmono hok2 hws12 lmr
  have f0 : foldC qq (row.take 0) = List.replicate (qsz qq) cell0 := rfl
  have f1 : foldC qq ((mapR ρ row).take 0) = List.replicate (qsz qq) cell0 := rfl
  (repeat (first
      | refine ifF ?_
      | refine ifT ?_
      | refine ⟨_, rfl, ?_⟩
      | refine ⟨_, _, rfl, rfl, ?_⟩
      | refine Or.inl ⟨_, rfl, ?_⟩
      | refine Or.inr ⟨_, rfl, ?_⟩
      | refine ⟨Or.inl ⟨by decide, by decide⟩, ?_⟩
      | refine ⟨Or.inr ⟨by decide, by decide⟩, ?_⟩
      | refine ⟨⟨by decide, by decide⟩, ?_⟩
      | refine ⟨⟨by decide, by decide, by decide⟩, ?_⟩
      | refine ⟨by decide, ?_⟩
      | refine ⟨(by show (0 : Int) < _; decide), ?_⟩
      | refine ⟨rfl, ?_⟩
      | refine ⟨⟨_, rfl⟩, ?_⟩
      | refine ⟨_, rfl, rfl, trivial, ?_⟩
      | refine ⟨_, _, rfl, ?_⟩))
  refine ⟨R, _, rfl, .inl (SqL.of hR12), ?_⟩
  (repeat (first
      | refine ifF ?_
      | refine ifT ?_
      | refine ⟨_, rfl, ?_⟩
      | refine ⟨_, _, rfl, rfl, ?_⟩
      | refine Or.inl ⟨_, rfl, ?_⟩
      | refine Or.inr ⟨_, rfl, ?_⟩
      | refine ⟨Or.inl ⟨by decide, by decide⟩, ?_⟩
      | refine ⟨Or.inr ⟨by decide, by decide⟩, ?_⟩
      | refine ⟨⟨by decide, by decide⟩, ?_⟩
      | refine ⟨⟨by decide, by decide, by decide⟩, ?_⟩
      | refine ⟨by decide, ?_⟩
      | refine ⟨(by show (0 : Int) < _; decide), ?_⟩
      | refine ⟨rfl, ?_⟩
      | refine ⟨⟨_, rfl⟩, ?_⟩
      | refine ⟨_, rfl, rfl, trivial, ?_⟩
      | refine ⟨_, _, rfl, ?_⟩))
  refine ⟨by omega, by omega, ?_⟩
  have en : ((vr.length : Nat) : Int).toNat = row.length := by omega
  rw [en]
  refine for_range (lo := 0) (n := row.length) (fun i σ H' => ∃ (D E' : Addr) (ds es : List V) (y12 y13 : Option V), σ = [some (.ref a0), some (.ref st), some (.ref nmA), some (.ref p), some (.ref R), some (.ref am), y6, y7, some (.ref ot), some (.ref W), some (.ref D), some (.ref E'), y12, y13] ∧ L2.Same H12 H' ∧ H' D = some (.lst ds) ∧ Paired (Cv K H') ds (foldC qq (row.take i)) ∧ H' E' = some (.lst es) ∧ Paired (Cv K H') es (foldC qq ((mapR ρ row).take i))) ⟨D0, E0, ds0, es0, none, none, rfl, .refl _, hD12, hP12, hE0, hQ0⟩ ?_ ?_
  · rintro i σ H' hi ⟨D, E', ds, es, y12, y13, rfl, sm, hD, hPd, hE, hPe⟩
    have e0 : (0 : Int) + (i : Int) = (i : Int) := Int.zero_add _
    rw [e0]
    have hi2 : i < (mapR ρ row).length := by omega
    have hpos : 0 < row.length := by omega
    obtain ⟨vi, hvi, pr, pn, rfl, hprT, hpn⟩ := pget3 (Rs.tx (TX.same sm) hrv12) hi
    obtain ⟨wi, hwi, qr, qn, rfl, hqrT, hqn⟩ := pget3 (Rs.tx (TX.same sm) hws12) hi2
    have hgd := hok _ (List.getElem_mem hi)
    have hgd2 := hok2 _ (List.getElem_mem hi2)
    have hokt : RowOk (row.take i) := fun r hr' => hok r (List.mem_of_mem_take hr')
    have hokt1 : RowOk (row.take (i + 1)) := fun r hr' => hok r (List.mem_of_mem_take hr')
    have hoku : RowOk ((mapR ρ row).take i) := fun r hr' => hok2 r (List.mem_of_mem_take hr')
    have hoku1 : RowOk ((mapR ρ row).take (i + 1)) := fun r hr' => hok2 r (List.mem_of_mem_take hr')
    have hfs : foldC qq (row.take (i + 1)) = hearC qq (foldC qq (row.take i)) row[i].1 row[i].2 := by rw [take_snoc hi, foldC_snoc]
    have hft : foldC qq ((mapR ρ row).take (i + 1)) = hearC qq (foldC qq ((mapR ρ row).take i)) (mapR ρ row)[i].1 (mapR ρ row)[i].2 := by rw [take_snoc hi2, foldC_snoc]
    have hin1 : ∀ r ∈ row.take (i + 1), r.2 ∈ accA row := fun r hr' => mA r (List.mem_of_mem_take hr')
    have hmm := mean_map hmono hk hin1 hokt1 (by rw [mapR_take]; exact hoku1)
    have hfm := fold_map hmono qq hin1
    rw [mapR_take] at hmm hfm
    have hco1 := foldC_ok hk hokt1
    have hco2 := foldC_ok hk hoku1
    have hpq := qsz_pos qq
    (repeat (first
      | refine ifF ?_
      | refine ifT ?_
      | refine ⟨_, rfl, ?_⟩
      | refine ⟨_, _, rfl, rfl, ?_⟩
      | refine Or.inl ⟨_, rfl, ?_⟩
      | refine Or.inr ⟨_, rfl, ?_⟩
      | refine ⟨Or.inl ⟨by decide, by decide⟩, ?_⟩
      | refine ⟨Or.inr ⟨by decide, by decide⟩, ?_⟩
      | refine ⟨⟨by decide, by decide⟩, ?_⟩
      | refine ⟨⟨by decide, by decide, by decide⟩, ?_⟩
      | refine ⟨by decide, ?_⟩
      | refine ⟨(by show (0 : Int) < _; decide), ?_⟩
      | refine ⟨rfl, ?_⟩
      | refine ⟨⟨_, rfl⟩, ?_⟩
      | refine ⟨_, rfl, rfl, trivial, ?_⟩
      | refine ⟨_, _, rfl, ?_⟩))
    refine ⟨R, _, _, _, rfl, rfl, SqL.of (sm _ _ hR12), atI_nat hvi, ?_⟩
    (repeat (first
      | refine ifF ?_
      | refine ifT ?_
      | refine ⟨_, rfl, ?_⟩
      | refine ⟨_, _, rfl, rfl, ?_⟩
      | refine Or.inl ⟨_, rfl, ?_⟩
      | refine Or.inr ⟨_, rfl, ?_⟩
      | refine ⟨Or.inl ⟨by decide, by decide⟩, ?_⟩
      | refine ⟨Or.inr ⟨by decide, by decide⟩, ?_⟩
      | refine ⟨⟨by decide, by decide⟩, ?_⟩
      | refine ⟨⟨by decide, by decide, by decide⟩, ?_⟩
      | refine ⟨by decide, ?_⟩
      | refine ⟨(by show (0 : Int) < _; decide), ?_⟩
      | refine ⟨rfl, ?_⟩
      | refine ⟨⟨_, rfl⟩, ?_⟩
      | refine ⟨_, rfl, rfl, trivial, ?_⟩
      | refine ⟨_, _, rfl, ?_⟩))
    refine ⟨pr, _, 0, _, rfl, rfl, hprT, atI_nat (j := 0) rfl, ?_⟩
    (repeat (first
      | refine ifF ?_
      | refine ifT ?_
      | refine ⟨_, rfl, ?_⟩
      | refine ⟨_, _, rfl, rfl, ?_⟩
      | refine Or.inl ⟨_, rfl, ?_⟩
      | refine Or.inr ⟨_, rfl, ?_⟩
      | refine ⟨Or.inl ⟨by decide, by decide⟩, ?_⟩
      | refine ⟨Or.inr ⟨by decide, by decide⟩, ?_⟩
      | refine ⟨⟨by decide, by decide⟩, ?_⟩
      | refine ⟨⟨by decide, by decide, by decide⟩, ?_⟩
      | refine ⟨by decide, ?_⟩
      | refine ⟨(by show (0 : Int) < _; decide), ?_⟩
      | refine ⟨rfl, ?_⟩
      | refine ⟨⟨_, rfl⟩, ?_⟩
      | refine ⟨_, rfl, rfl, trivial, ?_⟩
      | refine ⟨_, _, rfl, ?_⟩))
    refine ⟨R, _, _, _, rfl, rfl, SqL.of (sm _ _ hR12), atI_nat hvi, ?_⟩
    (repeat (first
      | refine ifF ?_
      | refine ifT ?_
      | refine ⟨_, rfl, ?_⟩
      | refine ⟨_, _, rfl, rfl, ?_⟩
      | refine Or.inl ⟨_, rfl, ?_⟩
      | refine Or.inr ⟨_, rfl, ?_⟩
      | refine ⟨Or.inl ⟨by decide, by decide⟩, ?_⟩
      | refine ⟨Or.inr ⟨by decide, by decide⟩, ?_⟩
      | refine ⟨⟨by decide, by decide⟩, ?_⟩
      | refine ⟨⟨by decide, by decide, by decide⟩, ?_⟩
      | refine ⟨by decide, ?_⟩
      | refine ⟨(by show (0 : Int) < _; decide), ?_⟩
      | refine ⟨rfl, ?_⟩
      | refine ⟨⟨_, rfl⟩, ?_⟩
      | refine ⟨_, rfl, rfl, trivial, ?_⟩
      | refine ⟨_, _, rfl, ?_⟩))
    refine ⟨pr, _, 1, _, rfl, rfl, hprT, atI_nat (j := 1) rfl, ?_⟩
    refine ⟨p, D, pn, qq, _, row[i].1, row[i].2, rfl, Dp.same sm hd12, hk, by omega, by omega, ⟨_, SqL.of hD, hPd⟩, foldC_ok hk hokt, hpn, hgd, fun C cs' H13 s13 hC0 hC hPc => ?_⟩
    rw [← hfs] at hPc
    have sm13 := sm.trans s13
    (repeat (first
      | refine ifF ?_
      | refine ifT ?_
      | refine ⟨_, rfl, ?_⟩
      | refine ⟨_, _, rfl, rfl, ?_⟩
      | refine Or.inl ⟨_, rfl, ?_⟩
      | refine Or.inr ⟨_, rfl, ?_⟩
      | refine ⟨Or.inl ⟨by decide, by decide⟩, ?_⟩
      | refine ⟨Or.inr ⟨by decide, by decide⟩, ?_⟩
      | refine ⟨⟨by decide, by decide⟩, ?_⟩
      | refine ⟨⟨by decide, by decide, by decide⟩, ?_⟩
      | refine ⟨by decide, ?_⟩
      | refine ⟨(by show (0 : Int) < _; decide), ?_⟩
      | refine ⟨rfl, ?_⟩
      | refine ⟨⟨_, rfl⟩, ?_⟩
      | refine ⟨_, rfl, rfl, trivial, ?_⟩
      | refine ⟨_, _, rfl, ?_⟩))
    refine ⟨W, _, _, _, rfl, rfl, SqL.of (sm13 _ _ hW12), atI_nat hwi, ?_⟩
    (repeat (first
      | refine ifF ?_
      | refine ifT ?_
      | refine ⟨_, rfl, ?_⟩
      | refine ⟨_, _, rfl, rfl, ?_⟩
      | refine Or.inl ⟨_, rfl, ?_⟩
      | refine Or.inr ⟨_, rfl, ?_⟩
      | refine ⟨Or.inl ⟨by decide, by decide⟩, ?_⟩
      | refine ⟨Or.inr ⟨by decide, by decide⟩, ?_⟩
      | refine ⟨⟨by decide, by decide⟩, ?_⟩
      | refine ⟨⟨by decide, by decide, by decide⟩, ?_⟩
      | refine ⟨by decide, ?_⟩
      | refine ⟨(by show (0 : Int) < _; decide), ?_⟩
      | refine ⟨rfl, ?_⟩
      | refine ⟨⟨_, rfl⟩, ?_⟩
      | refine ⟨_, rfl, rfl, trivial, ?_⟩
      | refine ⟨_, _, rfl, ?_⟩))
    refine ⟨qr, _, 0, _, rfl, rfl, My.Same.sqT s13 hqrT, atI_nat (j := 0) rfl, ?_⟩
    (repeat (first
      | refine ifF ?_
      | refine ifT ?_
      | refine ⟨_, rfl, ?_⟩
      | refine ⟨_, _, rfl, rfl, ?_⟩
      | refine Or.inl ⟨_, rfl, ?_⟩
      | refine Or.inr ⟨_, rfl, ?_⟩
      | refine ⟨Or.inl ⟨by decide, by decide⟩, ?_⟩
      | refine ⟨Or.inr ⟨by decide, by decide⟩, ?_⟩
      | refine ⟨⟨by decide, by decide⟩, ?_⟩
      | refine ⟨⟨by decide, by decide, by decide⟩, ?_⟩
      | refine ⟨by decide, ?_⟩
      | refine ⟨(by show (0 : Int) < _; decide), ?_⟩
      | refine ⟨rfl, ?_⟩
      | refine ⟨⟨_, rfl⟩, ?_⟩
      | refine ⟨_, rfl, rfl, trivial, ?_⟩
      | refine ⟨_, _, rfl, ?_⟩))
    refine ⟨W, _, _, _, rfl, rfl, SqL.of (sm13 _ _ hW12), atI_nat hwi, ?_⟩
    (repeat (first
      | refine ifF ?_
      | refine ifT ?_
      | refine ⟨_, rfl, ?_⟩
      | refine ⟨_, _, rfl, rfl, ?_⟩
      | refine Or.inl ⟨_, rfl, ?_⟩
      | refine Or.inr ⟨_, rfl, ?_⟩
      | refine ⟨Or.inl ⟨by decide, by decide⟩, ?_⟩
      | refine ⟨Or.inr ⟨by decide, by decide⟩, ?_⟩
      | refine ⟨⟨by decide, by decide⟩, ?_⟩
      | refine ⟨⟨by decide, by decide, by decide⟩, ?_⟩
      | refine ⟨by decide, ?_⟩
      | refine ⟨(by show (0 : Int) < _; decide), ?_⟩
      | refine ⟨rfl, ?_⟩
      | refine ⟨⟨_, rfl⟩, ?_⟩
      | refine ⟨_, rfl, rfl, trivial, ?_⟩
      | refine ⟨_, _, rfl, ?_⟩))
    refine ⟨qr, _, 1, _, rfl, rfl, My.Same.sqT s13 hqrT, atI_nat (j := 1) rfl, ?_⟩
    refine ⟨p, E', qn, qq, _, (mapR ρ row)[i].1, (mapR ρ row)[i].2, rfl, Dp.same sm13 hd12, hk, by omega, by omega, ⟨_, SqL.of (s13 _ _ hE), Cs.tx (TX.same s13) hPe⟩, foldC_ok hk hoku, Nm.same s13 hqn, hgd2, fun F fs H14 s14 hF0 hF hPf => ?_⟩
    rw [← hft] at hPf
    have sm14 := sm13.trans s14
    have ec : ((i : Int) + 1) = ((i + 1 : Nat) : Int) := rfl
    (repeat (first
      | refine ifF ?_
      | refine ifT ?_
      | refine ⟨_, rfl, ?_⟩
      | refine ⟨_, _, rfl, rfl, ?_⟩
      | refine Or.inl ⟨_, rfl, ?_⟩
      | refine Or.inr ⟨_, rfl, ?_⟩
      | refine ⟨Or.inl ⟨by decide, by decide⟩, ?_⟩
      | refine ⟨Or.inr ⟨by decide, by decide⟩, ?_⟩
      | refine ⟨⟨by decide, by decide⟩, ?_⟩
      | refine ⟨⟨by decide, by decide, by decide⟩, ?_⟩
      | refine ⟨by decide, ?_⟩
      | refine ⟨(by show (0 : Int) < _; decide), ?_⟩
      | refine ⟨rfl, ?_⟩
      | refine ⟨⟨_, rfl⟩, ?_⟩
      | refine ⟨_, rfl, rfl, trivial, ?_⟩
      | refine ⟨_, _, rfl, ?_⟩))
    refine ⟨R, _, rfl, SqL.of (sm14 _ _ hR12), fun B1 hB1 => ?_⟩
    rw [ec, cut_to (by omega)]
    have sB : L2.Same H14 (upd H14 B1 (.lst (vr.take (i + 1)))) := same_upd hB1
    have eB : (upd H14 B1 (.lst (vr.take (i + 1)))) B1 = some (.lst (vr.take (i + 1))) := upd_same
    generalize upd H14 B1 (.lst (vr.take (i + 1))) = H15 at sB eB ⊢
    have sm15 := sm14.trans sB
    refine ⟨p, B1, qq, row.take (i + 1), rfl, Dp.same sm15 hd12, hk, by omega, ⟨_, SqL.of eB, ptake _ (Rs.tx (TX.same sm15) hrv12)⟩, hokt1, by rw [List.length_take]; omega, fun v1 H16 s16 ov1 => ?_⟩
    have sm16 := sm15.trans s16
    (repeat (first
      | refine ifF ?_
      | refine ifT ?_
      | refine ⟨_, rfl, ?_⟩
      | refine ⟨_, _, rfl, rfl, ?_⟩
      | refine Or.inl ⟨_, rfl, ?_⟩
      | refine Or.inr ⟨_, rfl, ?_⟩
      | refine ⟨Or.inl ⟨by decide, by decide⟩, ?_⟩
      | refine ⟨Or.inr ⟨by decide, by decide⟩, ?_⟩
      | refine ⟨⟨by decide, by decide⟩, ?_⟩
      | refine ⟨⟨by decide, by decide, by decide⟩, ?_⟩
      | refine ⟨by decide, ?_⟩
      | refine ⟨(by show (0 : Int) < _; decide), ?_⟩
      | refine ⟨rfl, ?_⟩
      | refine ⟨⟨_, rfl⟩, ?_⟩
      | refine ⟨_, rfl, rfl, trivial, ?_⟩
      | refine ⟨_, _, rfl, ?_⟩))
    refine ⟨v1, am, ot, mean qq (row.take (i + 1)), accA row, B, rfl, ov1, (hAf12 hpos).same sm16, hB12.same sm16, sA, lB.symm, hmm.2, fun v' hv' => ?_⟩
    rw [← hρ, ← hmm.1] at hv'
    (repeat (first
      | refine ifF ?_
      | refine ifT ?_
      | refine ⟨_, rfl, ?_⟩
      | refine ⟨_, _, rfl, rfl, ?_⟩
      | refine Or.inl ⟨_, rfl, ?_⟩
      | refine Or.inr ⟨_, rfl, ?_⟩
      | refine ⟨Or.inl ⟨by decide, by decide⟩, ?_⟩
      | refine ⟨Or.inr ⟨by decide, by decide⟩, ?_⟩
      | refine ⟨⟨by decide, by decide⟩, ?_⟩
      | refine ⟨⟨by decide, by decide, by decide⟩, ?_⟩
      | refine ⟨by decide, ?_⟩
      | refine ⟨(by show (0 : Int) < _; decide), ?_⟩
      | refine ⟨rfl, ?_⟩
      | refine ⟨⟨_, rfl⟩, ?_⟩
      | refine ⟨_, rfl, rfl, trivial, ?_⟩
      | refine ⟨_, _, rfl, ?_⟩))
    refine ⟨W, _, rfl, SqL.of (sm16 _ _ hW12), fun B2 hB2 => ?_⟩
    rw [ec, cut_to (by have := Paired.length hws12; omega)]
    have sC : L2.Same H16 (upd H16 B2 (.lst (ws.take (i + 1)))) := same_upd hB2
    have eC : (upd H16 B2 (.lst (ws.take (i + 1)))) B2 = some (.lst (ws.take (i + 1))) := upd_same
    generalize upd H16 B2 (.lst (ws.take (i + 1))) = H17 at sC eC ⊢
    have sm17 := sm16.trans sC
    refine ⟨p, B2, qq, (mapR ρ row).take (i + 1), rfl, Dp.same sm17 hd12, hk, by omega, ⟨_, SqL.of eC, ptake _ (Rs.tx (TX.same sm17) hws12)⟩, hoku1, by rw [List.length_take]; omega, fun v2 H18 s18 ov2 => ?_⟩
    have sm18 := sm17.trans s18
    have hv18 := Ov.tx (TX.same (sC.trans s18)) hv'
    (repeat (first
      | refine ifF ?_
      | refine ifT ?_
      | refine ⟨_, rfl, ?_⟩
      | refine ⟨_, _, rfl, rfl, ?_⟩
      | refine Or.inl ⟨_, rfl, ?_⟩
      | refine Or.inr ⟨_, rfl, ?_⟩
      | refine ⟨Or.inl ⟨by decide, by decide⟩, ?_⟩
      | refine ⟨Or.inr ⟨by decide, by decide⟩, ?_⟩
      | refine ⟨⟨by decide, by decide⟩, ?_⟩
      | refine ⟨⟨by decide, by decide, by decide⟩, ?_⟩
      | refine ⟨by decide, ?_⟩
      | refine ⟨(by show (0 : Int) < _; decide), ?_⟩
      | refine ⟨rfl, ?_⟩
      | refine ⟨⟨_, rfl⟩, ?_⟩
      | refine ⟨_, rfl, rfl, trivial, ?_⟩
      | refine ⟨_, _, rfl, ?_⟩))
    refine ⟨v2, v', oD (mean qq ((mapR ρ row).take (i + 1))), rfl, Ov.dp ov2, Ov.dp hv18, oD_sh _, ?_⟩
    have s4 := ((sB.trans s16).trans sC).trans s18
    have hlf := hco2.len
    obtain ⟨w0, hw0, cw0⟩ := pget3 (Cs.tx (TX.same s4) hPf) (i := 0) (by omega)
    obtain ⟨q0, hq0, u0, rfl, hq0T, hq0u, hq0A⟩ := cw0
    have ehd : ((foldC qq ((mapR ρ row).take (i + 1)))[0]'(by omega)).1 = mean qq ((mapR ρ row).take (i + 1)) := by rw [hd_get, hdO_fold (heard_all hk) hoku1]
    rw [ehd] at hq0u
    (repeat (first
      | refine ifF ?_
      | refine ifT ?_
      | refine ⟨_, rfl, ?_⟩
      | refine ⟨_, _, rfl, rfl, ?_⟩
      | refine Or.inl ⟨_, rfl, ?_⟩
      | refine Or.inr ⟨_, rfl, ?_⟩
      | refine ⟨Or.inl ⟨by decide, by decide⟩, ?_⟩
      | refine ⟨Or.inr ⟨by decide, by decide⟩, ?_⟩
      | refine ⟨⟨by decide, by decide⟩, ?_⟩
      | refine ⟨⟨by decide, by decide, by decide⟩, ?_⟩
      | refine ⟨by decide, ?_⟩
      | refine ⟨(by show (0 : Int) < _; decide), ?_⟩
      | refine ⟨rfl, ?_⟩
      | refine ⟨⟨_, rfl⟩, ?_⟩
      | refine ⟨_, rfl, rfl, trivial, ?_⟩
      | refine ⟨_, _, rfl, ?_⟩))
    refine ⟨F, _, 0, _, rfl, rfl, SqL.of (s4 _ _ hF), atI_nat (j := 0) hw0, ?_⟩
    (repeat (first
      | refine ifF ?_
      | refine ifT ?_
      | refine ⟨_, rfl, ?_⟩
      | refine ⟨_, _, rfl, rfl, ?_⟩
      | refine Or.inl ⟨_, rfl, ?_⟩
      | refine Or.inr ⟨_, rfl, ?_⟩
      | refine ⟨Or.inl ⟨by decide, by decide⟩, ?_⟩
      | refine ⟨Or.inr ⟨by decide, by decide⟩, ?_⟩
      | refine ⟨⟨by decide, by decide⟩, ?_⟩
      | refine ⟨⟨by decide, by decide, by decide⟩, ?_⟩
      | refine ⟨by decide, ?_⟩
      | refine ⟨(by show (0 : Int) < _; decide), ?_⟩
      | refine ⟨rfl, ?_⟩
      | refine ⟨⟨_, rfl⟩, ?_⟩
      | refine ⟨_, rfl, rfl, trivial, ?_⟩
      | refine ⟨_, _, rfl, ?_⟩))
    refine ⟨q0, _, 0, _, rfl, rfl, hq0T, atI_nat (j := 0) rfl, ?_⟩
    (repeat (first
      | refine ifF ?_
      | refine ifT ?_
      | refine ⟨_, rfl, ?_⟩
      | refine ⟨_, _, rfl, rfl, ?_⟩
      | refine Or.inl ⟨_, rfl, ?_⟩
      | refine Or.inr ⟨_, rfl, ?_⟩
      | refine ⟨Or.inl ⟨by decide, by decide⟩, ?_⟩
      | refine ⟨Or.inr ⟨by decide, by decide⟩, ?_⟩
      | refine ⟨⟨by decide, by decide⟩, ?_⟩
      | refine ⟨⟨by decide, by decide, by decide⟩, ?_⟩
      | refine ⟨by decide, ?_⟩
      | refine ⟨(by show (0 : Int) < _; decide), ?_⟩
      | refine ⟨rfl, ?_⟩
      | refine ⟨⟨_, rfl⟩, ?_⟩
      | refine ⟨_, rfl, rfl, trivial, ?_⟩
      | refine ⟨_, _, rfl, ?_⟩))
    refine ⟨u0, v', oD (mean qq ((mapR ρ row).take (i + 1))), rfl, Ov.dp hq0u, Ov.dp hv18, oD_sh _, ?_⟩
    (repeat (first
      | refine ifF ?_
      | refine ifT ?_
      | refine ⟨_, rfl, ?_⟩
      | refine ⟨_, _, rfl, rfl, ?_⟩
      | refine Or.inl ⟨_, rfl, ?_⟩
      | refine Or.inr ⟨_, rfl, ?_⟩
      | refine ⟨Or.inl ⟨by decide, by decide⟩, ?_⟩
      | refine ⟨Or.inr ⟨by decide, by decide⟩, ?_⟩
      | refine ⟨⟨by decide, by decide⟩, ?_⟩
      | refine ⟨⟨by decide, by decide, by decide⟩, ?_⟩
      | refine ⟨by decide, ?_⟩
      | refine ⟨(by show (0 : Int) < _; decide), ?_⟩
      | refine ⟨rfl, ?_⟩
      | refine ⟨⟨_, rfl⟩, ?_⟩
      | refine ⟨_, rfl, rfl, trivial, ?_⟩
      | refine ⟨_, _, rfl, ?_⟩))
    refine ⟨C, F, am, ot, foldC qq (row.take (i + 1)), accA row, B, rfl, ⟨_, SqL.of (s4 _ _ (s14 _ _ hC)), Cs.tx (TX.same (s14.trans s4)) hPc⟩, ⟨_, SqL.of (s4 _ _ hF), ?_⟩, (hAf12 hpos).same sm18, hB12.same sm18, sA, lB.symm, hfm.2, by have := hco1.len; omega, held3 hco1, fun H19 s19 => ?_⟩
    · rw [← hρ, ← hfm.1]
      exact Cs.tx (TX.same s4) hPf
    (repeat (first
      | refine ifF ?_
      | refine ifT ?_
      | refine ⟨_, rfl, ?_⟩
      | refine ⟨_, _, rfl, rfl, ?_⟩
      | refine Or.inl ⟨_, rfl, ?_⟩
      | refine Or.inr ⟨_, rfl, ?_⟩
      | refine ⟨Or.inl ⟨by decide, by decide⟩, ?_⟩
      | refine ⟨Or.inr ⟨by decide, by decide⟩, ?_⟩
      | refine ⟨⟨by decide, by decide⟩, ?_⟩
      | refine ⟨⟨by decide, by decide, by decide⟩, ?_⟩
      | refine ⟨by decide, ?_⟩
      | refine ⟨(by show (0 : Int) < _; decide), ?_⟩
      | refine ⟨rfl, ?_⟩
      | refine ⟨⟨_, rfl⟩, ?_⟩
      | refine ⟨_, rfl, rfl, trivial, ?_⟩
      | refine ⟨_, _, rfl, ?_⟩))
    exact ⟨C, F, cs', fs, _, _, rfl, sm18.trans s19, s19 _ _ (s4 _ _ (s14 _ _ hC)), Cs.tx (TX.same ((s14.trans s4).trans s19)) hPc, s19 _ _ (s4 _ _ hF), Cs.tx (TX.same (s4.trans s19)) hPf⟩
  · rintro σ H' _
    (repeat (first
      | refine ifF ?_
      | refine ifT ?_
      | refine ⟨_, rfl, ?_⟩
      | refine ⟨_, _, rfl, rfl, ?_⟩
      | refine Or.inl ⟨_, rfl, ?_⟩
      | refine Or.inr ⟨_, rfl, ?_⟩
      | refine ⟨Or.inl ⟨by decide, by decide⟩, ?_⟩
      | refine ⟨Or.inr ⟨by decide, by decide⟩, ?_⟩
      | refine ⟨⟨by decide, by decide⟩, ?_⟩
      | refine ⟨⟨by decide, by decide, by decide⟩, ?_⟩
      | refine ⟨by decide, ?_⟩
      | refine ⟨(by show (0 : Int) < _; decide), ?_⟩
      | refine ⟨rfl, ?_⟩
      | refine ⟨⟨_, rfl⟩, ?_⟩
      | refine ⟨_, rfl, rfl, trivial, ?_⟩
      | refine ⟨_, _, rfl, ?_⟩))
    exact q _
end
end My

namespace My
open PySem PySem.Spec PyProof.Rows L2
theorem all_mk {l : PySem.W.OpenLaw} {w : World} {K : PySem.W.Frag} {h : Heap} {mg : Str → Option Value} {fa f0 f1 f2 f3 f4 f5 f6 f7 f8 f9 f10 f11 f12 f13 f14 f15 f16 f17 f18 f19 f20 f21 f22 f23 f24 f25 f26 f27 f28 f29 f30 f31 f32 f33 f34 f35 f36 f37 : Addr} (X : K.In h) (G : h.Ns mainGlobals mg) (hfa : mg "law" = some (.ref fa))
    {od0 an0 od1 an1 od2 an2 od3 an3 od4 an4 od5 an5 od6 an6 od7 an7 od8 an8 od9 an9 od10 an10 od11 an11 od12 an12 od13 an13 od14 an14 od15 an15 od16 an16 od17 an17 od18 an18 od19 an19 od20 an20 od21 an21 od22 an22 od23 an23 od24 an24 od25 an25 od26 an26 od27 an27 od28 an28 od29 an29 od30 an30 od31 an31 od32 an32 od33 an33 od34 an34 od35 an35 od36 an36 od37 an37 : Option Addr} {sl0 sl1 sl2 sl3 sl4 sl5 sl6 sl7 sl8 sl9 sl10 sl11 sl12 sl13 sl14 sl15 sl16 sl17 sl18 sl19 sl20 sl21 sl22 sl23 sl24 sl25 sl26 sl27 sl28 sl29 sl30 sl31 sl32 sl33 sl34 sl35 sl36 sl37 : Array (Option Value)} {oc0 kV0 dc0 pm0 cd0 ct0 oc1 kV1 dc1 pm1 cd1 ct1 oc2 kV2 dc2 pm2 cd2 ct2 oc3 kV3 dc3 pm3 cd3 ct3 oc4 kV4 dc4 pm4 cd4 ct4 oc5 kV5 dc5 pm5 cd5 ct5 oc6 kV6 dc6 pm6 cd6 ct6 oc7 kV7 dc7 pm7 cd7 ct7 oc8 kV8 dc8 pm8 cd8 ct8 oc9 kV9 dc9 pm9 cd9 ct9 oc10 kV10 dc10 pm10 cd10 ct10 oc11 kV11 dc11 pm11 cd11 ct11 oc12 kV12 dc12 pm12 cd12 ct12 oc13 kV13 dc13 pm13 cd13 ct13 oc14 kV14 dc14 pm14 cd14 ct14 oc15 kV15 dc15 pm15 cd15 ct15 oc16 kV16 dc16 pm16 cd16 ct16 oc17 kV17 dc17 pm17 cd17 ct17 oc18 kV18 dc18 pm18 cd18 ct18 oc19 kV19 dc19 pm19 cd19 ct19 oc20 kV20 dc20 pm20 cd20 ct20 oc21 kV21 dc21 pm21 cd21 ct21 oc22 kV22 dc22 pm22 cd22 ct22 oc23 kV23 dc23 pm23 cd23 ct23 oc24 kV24 dc24 pm24 cd24 ct24 oc25 kV25 dc25 pm25 cd25 ct25 oc26 kV26 dc26 pm26 cd26 ct26 oc27 kV27 dc27 pm27 cd27 ct27 oc28 kV28 dc28 pm28 cd28 ct28 oc29 kV29 dc29 pm29 cd29 ct29 oc30 kV30 dc30 pm30 cd30 ct30 oc31 kV31 dc31 pm31 cd31 ct31 oc32 kV32 dc32 pm32 cd32 ct32 oc33 kV33 dc33 pm33 cd33 ct33 oc34 kV34 dc34 pm34 cd34 ct34 oc35 kV35 dc35 pm35 cd35 ct35 oc36 kV36 dc36 pm36 cd36 ct36 oc37 kV37 dc37 pm37 cd37 ct37 : Value}
    (a0 : PySem.W.nsIn K mainGlobals "_law_draw" = some (some (.ref f0))) (l0 : K.lookup f0 = some ⟨oc0, od0, .func (PySem.W.fnOf "_law_draw" "_law_draw" (defArgs s_law_draw) (defBody s_law_draw) (defScope s_law_draw) .none kV0 dc0 pm0 an0 cd0 ct0), sl0⟩) (c0 : PySem.W.codeIn K cd0 "_law_draw" = true) (k0 : PySem.W.keepIn K (.ref f0) = true)
    (a1 : PySem.W.nsIn K mainGlobals "_law_take" = some (some (.ref f1))) (l1 : K.lookup f1 = some ⟨oc1, od1, .func (PySem.W.fnOf "_law_take" "_law_take" (defArgs s_law_take) (defBody s_law_take) (defScope s_law_take) .none kV1 dc1 pm1 an1 cd1 ct1), sl1⟩) (c1 : PySem.W.codeIn K cd1 "_law_take" = true) (k1 : PySem.W.keepIn K (.ref f1) = true)
    (a2 : PySem.W.nsIn K mainGlobals "_law_names" = some (some (.ref f2))) (l2 : K.lookup f2 = some ⟨oc2, od2, .func (PySem.W.fnOf "_law_names" "_law_names" (defArgs s_law_names) (defBody s_law_names) (defScope s_law_names) .none kV2 dc2 pm2 an2 cd2 ct2), sl2⟩) (c2 : PySem.W.codeIn K cd2 "_law_names" = true) (k2 : PySem.W.keepIn K (.ref f2) = true)
    (a3 : PySem.W.nsIn K mainGlobals "_law_leaf" = some (some (.ref f3))) (l3 : K.lookup f3 = some ⟨oc3, od3, .func (PySem.W.fnOf "_law_leaf" "_law_leaf" (defArgs s_law_leaf) (defBody s_law_leaf) (defScope s_law_leaf) .none kV3 dc3 pm3 an3 cd3 ct3), sl3⟩) (c3 : PySem.W.codeIn K cd3 "_law_leaf" = true) (k3 : PySem.W.keepIn K (.ref f3) = true)
    (a4 : PySem.W.nsIn K mainGlobals "_law_tree" = some (some (.ref f4))) (l4 : K.lookup f4 = some ⟨oc4, od4, .func (PySem.W.fnOf "_law_tree" "_law_tree" (defArgs s_law_tree) (defBody s_law_tree) (defScope s_law_tree) .none kV4 dc4 pm4 an4 cd4 ct4), sl4⟩) (c4 : PySem.W.codeIn K cd4 "_law_tree" = true) (k4 : PySem.W.keepIn K (.ref f4) = true)
    (a5 : PySem.W.nsIn K mainGlobals "_law_common" = some (some (.ref f5))) (l5 : K.lookup f5 = some ⟨oc5, od5, .func (PySem.W.fnOf "_law_common" "_law_common" (defArgs s_law_common) (defBody s_law_common) (defScope s_law_common) .none kV5 dc5 pm5 an5 cd5 ct5), sl5⟩) (c5 : PySem.W.codeIn K cd5 "_law_common" = true) (k5 : PySem.W.keepIn K (.ref f5) = true)
    (a6 : PySem.W.nsIn K mainGlobals "_law_pair" = some (some (.ref f6))) (l6 : K.lookup f6 = some ⟨oc6, od6, .func (PySem.W.fnOf "_law_pair" "_law_pair" (defArgs s_law_pair) (defBody s_law_pair) (defScope s_law_pair) .none kV6 dc6 pm6 an6 cd6 ct6), sl6⟩) (c6 : PySem.W.codeIn K cd6 "_law_pair" = true) (k6 : PySem.W.keepIn K (.ref f6) = true)
    (a7 : PySem.W.nsIn K mainGlobals "_law_number" = some (some (.ref f7))) (l7 : K.lookup f7 = some ⟨oc7, od7, .func (PySem.W.fnOf "_law_number" "_law_number" (defArgs s_law_number) (defBody s_law_number) (defScope s_law_number) .none kV7 dc7 pm7 an7 cd7 ct7), sl7⟩) (c7 : PySem.W.codeIn K cd7 "_law_number" = true) (k7 : PySem.W.keepIn K (.ref f7) = true)
    (a8 : PySem.W.nsIn K mainGlobals "_law_row" = some (some (.ref f8))) (l8 : K.lookup f8 = some ⟨oc8, od8, .func (PySem.W.fnOf "_law_row" "_law_row" (defArgs s_law_row) (defBody s_law_row) (defScope s_law_row) .none kV8 dc8 pm8 an8 cd8 ct8), sl8⟩) (c8 : PySem.W.codeIn K cd8 "_law_row" = true) (k8 : PySem.W.keepIn K (.ref f8) = true)
    (a9 : PySem.W.nsIn K mainGlobals "_law_less" = some (some (.ref f9))) (l9 : K.lookup f9 = some ⟨oc9, od9, .func (PySem.W.fnOf "_law_less" "_law_less" (defArgs s_law_less) (defBody s_law_less) (defScope s_law_less) .none kV9 dc9 pm9 an9 cd9 ct9), sl9⟩) (c9 : PySem.W.codeIn K cd9 "_law_less" = true) (k9 : PySem.W.keepIn K (.ref f9) = true)
    (a10 : PySem.W.nsIn K mainGlobals "_law_with" = some (some (.ref f10))) (l10 : K.lookup f10 = some ⟨oc10, od10, .func (PySem.W.fnOf "_law_with" "_law_with" (defArgs s_law_with) (defBody s_law_with) (defScope s_law_with) .none kV10 dc10 pm10 an10 cd10 ct10), sl10⟩) (c10 : PySem.W.codeIn K cd10 "_law_with" = true) (k10 : PySem.W.keepIn K (.ref f10) = true)
    (a11 : PySem.W.nsIn K mainGlobals "_law_others" = some (some (.ref f11))) (l11 : K.lookup f11 = some ⟨oc11, od11, .func (PySem.W.fnOf "_law_others" "_law_others" (defArgs s_law_others) (defBody s_law_others) (defScope s_law_others) .none kV11 dc11 pm11 an11 cd11 ct11), sl11⟩) (c11 : PySem.W.codeIn K cd11 "_law_others" = true) (k11 : PySem.W.keepIn K (.ref f11) = true)
    (a12 : PySem.W.nsIn K mainGlobals "questions_in" = some (some (.ref f12))) (l12 : K.lookup f12 = some ⟨oc12, od12, .func (PySem.W.fnOf "questions_in" "questions_in" (defArgs s_questions_in) (defBody s_questions_in) (defScope s_questions_in) .none kV12 dc12 pm12 an12 cd12 ct12), sl12⟩) (c12 : PySem.W.codeIn K cd12 "questions_in" = true) (k12 : PySem.W.keepIn K (.ref f12) = true)
    (a13 : PySem.W.nsIn K mainGlobals "parts" = some (some (.ref f13))) (l13 : K.lookup f13 = some ⟨oc13, od13, .func (PySem.W.fnOf "parts" "parts" (defArgs s_parts) (defBody s_parts) (defScope s_parts) .none kV13 dc13 pm13 an13 cd13 ct13), sl13⟩) (c13 : PySem.W.codeIn K cd13 "parts" = true) (k13 : PySem.W.keepIn K (.ref f13) = true)
    (a14 : PySem.W.nsIn K mainGlobals "first_cells" = some (some (.ref f14))) (l14 : K.lookup f14 = some ⟨oc14, od14, .func (PySem.W.fnOf "first_cells" "first_cells" (defArgs s_first_cells) (defBody s_first_cells) (defScope s_first_cells) .none kV14 dc14 pm14 an14 cd14 ct14), sl14⟩) (c14 : PySem.W.codeIn K cd14 "first_cells" = true) (k14 : PySem.W.keepIn K (.ref f14) = true)
    (a15 : PySem.W.nsIn K mainGlobals "_law_tape" = some (some (.ref f15))) (l15 : K.lookup f15 = some ⟨oc15, od15, .func (PySem.W.fnOf "_law_tape" "_law_tape" (defArgs s_law_tape) (defBody s_law_tape) (defScope s_law_tape) .none kV15 dc15 pm15 an15 cd15 ct15), sl15⟩) (c15 : PySem.W.codeIn K cd15 "_law_tape" = true) (k15 : PySem.W.keepIn K (.ref f15) = true)
    (a16 : PySem.W.nsIn K mainGlobals "_hear_below" = some (some (.ref f16))) (l16 : K.lookup f16 = some ⟨oc16, od16, .func (PySem.W.fnOf "_hear_below" "_hear_below" (defArgs s_hear_below) (defBody s_hear_below) (defScope s_hear_below) .none kV16 dc16 pm16 an16 cd16 ct16), sl16⟩) (c16 : PySem.W.codeIn K cd16 "_hear_below" = true) (k16 : PySem.W.keepIn K (.ref f16) = true)
    (a17 : PySem.W.nsIn K mainGlobals "_cells_below" = some (some (.ref f17))) (l17 : K.lookup f17 = some ⟨oc17, od17, .func (PySem.W.fnOf "_cells_below" "_cells_below" (defArgs s_cells_below) (defBody s_cells_below) (defScope s_cells_below) .none kV17 dc17 pm17 an17 cd17 ct17), sl17⟩) (c17 : PySem.W.codeIn K cd17 "_cells_below" = true) (k17 : PySem.W.keepIn K (.ref f17) = true)
    (a18 : PySem.W.nsIn K mainGlobals "less" = some (some (.ref f18))) (l18 : K.lookup f18 = some ⟨oc18, od18, .func (PySem.W.fnOf "less" "less" (defArgs s_less) (defBody s_less) (defScope s_less) .none kV18 dc18 pm18 an18 cd18 ct18), sl18⟩) (c18 : PySem.W.codeIn K cd18 "less" = true) (k18 : PySem.W.keepIn K (.ref f18) = true)
    (a19 : PySem.W.nsIn K mainGlobals "position" = some (some (.ref f19))) (l19 : K.lookup f19 = some ⟨oc19, od19, .func (PySem.W.fnOf "position" "position" (defArgs s_position) (defBody s_position) (defScope s_position) .none kV19 dc19 pm19 an19 cd19 ct19), sl19⟩) (c19 : PySem.W.codeIn K cd19 "position" = true) (k19 : PySem.W.keepIn K (.ref f19) = true)
    (a20 : PySem.W.nsIn K mainGlobals "put_in" = some (some (.ref f20))) (l20 : K.lookup f20 = some ⟨oc20, od20, .func (PySem.W.fnOf "put_in" "put_in" (defArgs s_put_in) (defBody s_put_in) (defScope s_put_in) .none kV20 dc20 pm20 an20 cd20 ct20), sl20⟩) (c20 : PySem.W.codeIn K cd20 "put_in" = true) (k20 : PySem.W.keepIn K (.ref f20) = true)
    (a21 : PySem.W.nsIn K mainGlobals "_cell_by_order" = some (some (.ref f21))) (l21 : K.lookup f21 = some ⟨oc21, od21, .func (PySem.W.fnOf "_cell_by_order" "_cell_by_order" (defArgs s_cell_by_order) (defBody s_cell_by_order) (defScope s_cell_by_order) .none kV21 dc21 pm21 an21 cd21 ct21), sl21⟩) (c21 : PySem.W.codeIn K cd21 "_cell_by_order" = true) (k21 : PySem.W.keepIn K (.ref f21) = true)
    (a22 : PySem.W.nsIn K mainGlobals "_cell_by_count" = some (some (.ref f22))) (l22 : K.lookup f22 = some ⟨oc22, od22, .func (PySem.W.fnOf "_cell_by_count" "_cell_by_count" (defArgs s_cell_by_count) (defBody s_cell_by_count) (defScope s_cell_by_count) .none kV22 dc22 pm22 an22 cd22 ct22), sl22⟩) (c22 : PySem.W.codeIn K cd22 "_cell_by_count" = true) (k22 : PySem.W.keepIn K (.ref f22) = true)
    (a23 : PySem.W.nsIn K mainGlobals "answer_now" = some (some (.ref f23))) (l23 : K.lookup f23 = some ⟨oc23, od23, .func (PySem.W.fnOf "answer_now" "answer_now" (defArgs s_answer_now) (defBody s_answer_now) (defScope s_answer_now) .none kV23 dc23 pm23 an23 cd23 ct23), sl23⟩) (c23 : PySem.W.codeIn K cd23 "answer_now" = true) (k23 : PySem.W.keepIn K (.ref f23) = true)
    (a24 : PySem.W.nsIn K mainGlobals "_own_cell" = some (some (.ref f24))) (l24 : K.lookup f24 = some ⟨oc24, od24, .func (PySem.W.fnOf "_own_cell" "_own_cell" (defArgs s_own_cell) (defBody s_own_cell) (defScope s_own_cell) .none kV24 dc24 pm24 an24 cd24 ct24), sl24⟩) (c24 : PySem.W.codeIn K cd24 "_own_cell" = true) (k24 : PySem.W.keepIn K (.ref f24) = true)
    (a25 : PySem.W.nsIn K mainGlobals "hear_cells" = some (some (.ref f25))) (l25 : K.lookup f25 = some ⟨oc25, od25, .func (PySem.W.fnOf "hear_cells" "hear_cells" (defArgs s_hear_cells) (defBody s_hear_cells) (defScope s_hear_cells) .none kV25 dc25 pm25 an25 cd25 ct25), sl25⟩) (c25 : PySem.W.codeIn K cd25 "hear_cells" = true) (k25 : PySem.W.keepIn K (.ref f25) = true)
    (a26 : PySem.W.nsIn K mainGlobals "_law_replaced" = some (some (.ref f26))) (l26 : K.lookup f26 = some ⟨oc26, od26, .func (PySem.W.fnOf "_law_replaced" "_law_replaced" (defArgs s_law_replaced) (defBody s_law_replaced) (defScope s_law_replaced) .none kV26 dc26 pm26 an26 cd26 ct26), sl26⟩) (c26 : PySem.W.codeIn K cd26 "_law_replaced" = true) (k26 : PySem.W.keepIn K (.ref f26) = true)
    (a27 : PySem.W.nsIn K mainGlobals "_counts" = some (some (.ref f27))) (l27 : K.lookup f27 = some ⟨oc27, od27, .func (PySem.W.fnOf "_counts" "_counts" (defArgs s_counts) (defBody s_counts) (defScope s_counts) .none kV27 dc27 pm27 an27 cd27 ct27), sl27⟩) (c27 : PySem.W.codeIn K cd27 "_counts" = true) (k27 : PySem.W.keepIn K (.ref f27) = true)
    (a28 : PySem.W.nsIn K mainGlobals "_by_count" = some (some (.ref f28))) (l28 : K.lookup f28 = some ⟨oc28, od28, .func (PySem.W.fnOf "_by_count" "_by_count" (defArgs s_by_count) (defBody s_by_count) (defScope s_by_count) .none kV28 dc28 pm28 an28 cd28 ct28), sl28⟩) (c28 : PySem.W.codeIn K cd28 "_by_count" = true) (k28 : PySem.W.keepIn K (.ref f28) = true)
    (a29 : PySem.W.nsIn K mainGlobals "_answers_since" = some (some (.ref f29))) (l29 : K.lookup f29 = some ⟨oc29, od29, .func (PySem.W.fnOf "_answers_since" "_answers_since" (defArgs s_answers_since) (defBody s_answers_since) (defScope s_answers_since) .none kV29 dc29 pm29 an29 cd29 ct29), sl29⟩) (c29 : PySem.W.codeIn K cd29 "_answers_since" = true) (k29 : PySem.W.keepIn K (.ref f29) = true)
    (a30 : PySem.W.nsIn K mainGlobals "_answers_among" = some (some (.ref f30))) (l30 : K.lookup f30 = some ⟨oc30, od30, .func (PySem.W.fnOf "_answers_among" "_answers_among" (defArgs s_answers_among) (defBody s_answers_among) (defScope s_answers_among) .none kV30 dc30 pm30 an30 cd30 ct30), sl30⟩) (c30 : PySem.W.codeIn K cd30 "_answers_among" = true) (k30 : PySem.W.keepIn K (.ref f30) = true)
    (a31 : PySem.W.nsIn K mainGlobals "_latest_or_first" = some (some (.ref f31))) (l31 : K.lookup f31 = some ⟨oc31, od31, .func (PySem.W.fnOf "_latest_or_first" "_latest_or_first" (defArgs s_latest_or_first) (defBody s_latest_or_first) (defScope s_latest_or_first) .none kV31 dc31 pm31 an31 cd31 ct31), sl31⟩) (c31 : PySem.W.codeIn K cd31 "_latest_or_first" = true) (k31 : PySem.W.keepIn K (.ref f31) = true)
    (a32 : PySem.W.nsIn K mainGlobals "_by_order" = some (some (.ref f32))) (l32 : K.lookup f32 = some ⟨oc32, od32, .func (PySem.W.fnOf "_by_order" "_by_order" (defArgs s_by_order) (defBody s_by_order) (defScope s_by_order) .none kV32 dc32 pm32 an32 cd32 ct32), sl32⟩) (c32 : PySem.W.codeIn K cd32 "_by_order" = true) (k32 : PySem.W.keepIn K (.ref f32) = true)
    (a33 : PySem.W.nsIn K mainGlobals "_answers" = some (some (.ref f33))) (l33 : K.lookup f33 = some ⟨oc33, od33, .func (PySem.W.fnOf "_answers" "_answers" (defArgs s_answers) (defBody s_answers) (defScope s_answers) .none kV33 dc33 pm33 an33 cd33 ct33), sl33⟩) (c33 : PySem.W.codeIn K cd33 "_answers" = true) (k33 : PySem.W.keepIn K (.ref f33) = true)
    (a34 : PySem.W.nsIn K mainGlobals "meaning" = some (some (.ref f34))) (l34 : K.lookup f34 = some ⟨oc34, od34, .func (PySem.W.fnOf "meaning" "meaning" (defArgs s_meaning) (defBody s_meaning) (defScope s_meaning) .none kV34 dc34 pm34 an34 cd34 ct34), sl34⟩) (c34 : PySem.W.codeIn K cd34 "meaning" = true) (k34 : PySem.W.keepIn K (.ref f34) = true)
    (a35 : PySem.W.nsIn K mainGlobals "_law_equal" = some (some (.ref f35))) (l35 : K.lookup f35 = some ⟨oc35, od35, .func (PySem.W.fnOf "_law_equal" "_law_equal" (defArgs s_law_equal) (defBody s_law_equal) (defScope s_law_equal) .none kV35 dc35 pm35 an35 cd35 ct35), sl35⟩) (c35 : PySem.W.codeIn K cd35 "_law_equal" = true) (k35 : PySem.W.keepIn K (.ref f35) = true)
    (a36 : PySem.W.nsIn K mainGlobals "_law_alike" = some (some (.ref f36))) (l36 : K.lookup f36 = some ⟨oc36, od36, .func (PySem.W.fnOf "_law_alike" "_law_alike" (defArgs s_law_alike) (defBody s_law_alike) (defScope s_law_alike) .none kV36 dc36 pm36 an36 cd36 ct36), sl36⟩) (c36 : PySem.W.codeIn K cd36 "_law_alike" = true) (k36 : PySem.W.keepIn K (.ref f36) = true)
    (a37 : PySem.W.nsIn K mainGlobals "law" = some (some (.ref f37))) (l37 : K.lookup f37 = some ⟨oc37, od37, .func (PySem.W.fnOf "law" "law" (defArgs s_law) (defBody s_law) (defScope s_law) .none kV37 dc37 pm37 an37 cd37 ct37), sl37⟩) (c37 : PySem.W.codeIn K cd37 "law" = true) (k37 : PySem.W.keepIn K (.ref f37) = true)
    (z0 : PySem.W.nsIn K mainGlobals "abs" = some none)
    (z1 : PySem.W.nsIn K mainGlobals "bool" = some none)
    (z2 : PySem.W.nsIn K mainGlobals "enumerate" = some none)
    (z3 : PySem.W.nsIn K mainGlobals "int" = some none)
    (z4 : PySem.W.nsIn K mainGlobals "isinstance" = some none)
    (z5 : PySem.W.nsIn K mainGlobals "len" = some none)
    (z6 : PySem.W.nsIn K mainGlobals "list" = some none)
    (z7 : PySem.W.nsIn K mainGlobals "max" = some none)
    (z8 : PySem.W.nsIn K mainGlobals "min" = some none)
    (z9 : PySem.W.nsIn K mainGlobals "range" = some none)
    (z10 : PySem.W.nsIn K mainGlobals "str" = some none)
    (z11 : PySem.W.nsIn K mainGlobals "tuple" = some none)
    (z12 : PySem.W.nsIn K mainGlobals "zip" = some none)
    : ∃ fd : FuncData, (∀ (s : Shared) (v : Value), BindsTo s fd ⟨[v], []⟩ [("script", v)]) ∧ ∀ base : Heap, K.In base → base.Ns mainGlobals mg → FnOk l.prog w K mg base CX0 30 fa fd ["script"] (spLaw K) := by
  have e := hfa.symm.trans (PySem.W.mg_of X G a37)
  cases e
  have F0 := fun_mk (st := s_law_draw) l0 c0 k0
  have b0 := F0.binds (ps := ["tape", "at", "many"]) fun _ _ _ _ _ _ us hl => match us, hl with | [_, _, _], _ => rfl
  have F1 := fun_mk (st := s_law_take) l1 c1 k1
  have b1 := F1.binds (ps := ["state", "many"]) fun _ _ _ _ _ _ us hl => match us, hl with | [_, _], _ => rfl
  have F2 := fun_mk (st := s_law_names) l2 c2 k2
  have b2 := F2.binds (ps := ["state"]) fun _ _ _ _ _ _ us hl => match us, hl with | [_], _ => rfl
  have F3 := fun_mk (st := s_law_leaf) l3 c3 k3
  have b3 := F3.binds (ps := ["state", "names"]) fun _ _ _ _ _ _ us hl => match us, hl with | [_, _], _ => rfl
  have F4 := fun_mk (st := s_law_tree) l4 c4 k4
  have b4 := F4.binds (ps := ["state", "names", "room"]) fun _ _ _ _ _ _ us hl => match us, hl with | [_, _, _], _ => rfl
  have F5 := fun_mk (st := s_law_common) l5 c5 k5
  have b5 := F5.binds (ps := ["one", "other"]) fun _ _ _ _ _ _ us hl => match us, hl with | [_, _], _ => rfl
  have F6 := fun_mk (st := s_law_pair) l6 c6 k6
  have b6 := F6.binds (ps := ["top", "bottom"]) fun _ _ _ _ _ _ us hl => match us, hl with | [_, _], _ => rfl
  have F7 := fun_mk (st := s_law_number) l7 c7 k7
  have b7 := F7.binds (ps := ["state"]) fun _ _ _ _ _ _ us hl => match us, hl with | [_], _ => rfl
  have F8 := fun_mk (st := s_law_row) l8 c8 k8
  have b8 := F8.binds (ps := ["state", "names", "most"]) fun _ _ _ _ _ _ us hl => match us, hl with | [_, _, _], _ => rfl
  have F9 := fun_mk (st := s_law_less) l9 c9 k9
  have b9 := F9.binds (ps := ["one", "other"]) fun _ _ _ _ _ _ us hl => match us, hl with | [_, _], _ => rfl
  have F10 := fun_mk (st := s_law_with) l10 c10 k10
  have b10 := F10.binds (ps := ["among", "number"]) fun _ _ _ _ _ _ us hl => match us, hl with | [_, _], _ => rfl
  have F11 := fun_mk (st := s_law_others) l11 c11 k11
  have b11 := F11.binds (ps := ["state", "among"]) fun _ _ _ _ _ _ us hl => match us, hl with | [_, _], _ => rfl
  have F12 := fun_mk (st := s_questions_in) l12 c12 k12
  have b12 := F12.binds (ps := ["tree"]) fun _ _ _ _ _ _ us hl => match us, hl with | [_], _ => rfl
  have F13 := fun_mk (st := s_parts) l13 c13 k13
  have b13 := F13.binds (ps := ["tree"]) fun _ _ _ _ _ _ us hl => match us, hl with | [_], _ => rfl
  have F14 := fun_mk (st := s_first_cells) l14 c14 k14
  have b14 := F14.binds (ps := ["tree"]) fun _ _ _ _ _ _ us hl => match us, hl with | [_], _ => rfl
  have F15 := fun_mk (st := s_law_tape) l15 c15 k15
  have b15 := F15.binds (ps := ["script"]) fun _ _ _ _ _ _ us hl => match us, hl with | [_], _ => rfl
  have F16 := fun_mk (st := s_hear_below) l16 c16 k16
  have b16 := F16.binds (ps := ["tree", "below", "name", "number"]) fun _ _ _ _ _ _ us hl => match us, hl with | [_, _, _, _], _ => rfl
  have F17 := fun_mk (st := s_cells_below) l17 c17 k17
  have b17 := F17.binds (ps := ["tree", "cells"]) fun _ _ _ _ _ _ us hl => match us, hl with | [_, _], _ => rfl
  have F18 := fun_mk (st := s_less) l18 c18 k18
  have b18 := F18.binds (ps := ["a", "b"]) fun _ _ _ _ _ _ us hl => match us, hl with | [_, _], _ => rfl
  have F19 := fun_mk (st := s_position) l19 c19 k19
  have b19 := F19.binds (ps := ["number", "among"]) fun _ _ _ _ _ _ us hl => match us, hl with | [_, _], _ => rfl
  have F20 := fun_mk (st := s_put_in) l20 c20 k20
  have b20 := F20.binds (ps := ["number", "among"]) fun _ _ _ _ _ _ us hl => match us, hl with | [_, _], _ => rfl
  have F21 := fun_mk (st := s_cell_by_order) l21 c21 k21
  have b21 := F21.binds (ps := ["word", "k", "cell", "told"]) fun _ _ _ _ _ _ us hl => match us, hl with | [_, _, _, _], _ => rfl
  have F22 := fun_mk (st := s_cell_by_count) l22 c22 k22
  have b22 := F22.binds (ps := ["tree", "cell", "told", "number"]) fun _ _ _ _ _ _ us hl => match us, hl with | [_, _, _, _], _ => rfl
  have F23 := fun_mk (st := s_answer_now) l23 c23 k23
  have b23 := F23.binds (ps := ["tree", "told", "name", "number"]) fun _ _ _ _ _ _ us hl => match us, hl with | [_, _, _, _], _ => rfl
  have F24 := fun_mk (st := s_own_cell) l24 c24 k24
  have b24 := F24.binds (ps := ["tree", "cells", "told", "name", "number"]) fun _ _ _ _ _ _ us hl => match us, hl with | [_, _, _, _, _], _ => rfl
  have F25 := fun_mk (st := s_hear_cells) l25 c25 k25
  have b25 := F25.binds (ps := ["tree", "cells", "name", "number"]) fun _ _ _ _ _ _ us hl => match us, hl with | [_, _, _, _], _ => rfl
  have F26 := fun_mk (st := s_law_replaced) l26 c26 k26
  have b26 := F26.binds (ps := ["value", "among", "others"]) fun _ _ _ _ _ _ us hl => match us, hl with | [_, _, _], _ => rfl
  have F27 := fun_mk (st := s_counts) l27 c27 k27
  have b27 := F27.binds (ps := ["told"]) fun _ _ _ _ _ _ us hl => match us, hl with | [_], _ => rfl
  have F28 := fun_mk (st := s_by_count) l28 c28 k28
  have b28 := F28.binds (ps := ["tree", "told", "row"]) fun _ _ _ _ _ _ us hl => match us, hl with | [_, _, _], _ => rfl
  have F29 := fun_mk (st := s_answers_since) l29 c29 k29
  have b29 := F29.binds (ps := ["tree", "row"]) fun _ _ _ _ _ _ us hl => match us, hl with | [_, _], _ => rfl
  have F30 := fun_mk (st := s_answers_among) l30 c30 k30
  have b30 := F30.binds (ps := ["tree", "row"]) fun _ _ _ _ _ _ us hl => match us, hl with | [_, _], _ => rfl
  have F31 := fun_mk (st := s_latest_or_first) l31 c31 k31
  have b31 := F31.binds (ps := ["word", "told"]) fun _ _ _ _ _ _ us hl => match us, hl with | [_, _], _ => rfl
  have F32 := fun_mk (st := s_by_order) l32 c32 k32
  have b32 := F32.binds (ps := ["word", "k", "told"]) fun _ _ _ _ _ _ us hl => match us, hl with | [_, _, _], _ => rfl
  have F33 := fun_mk (st := s_answers) l33 c33 k33
  have b33 := F33.binds (ps := ["tree", "row"]) fun _ _ _ _ _ _ us hl => match us, hl with | [_, _], _ => rfl
  have F34 := fun_mk (st := s_meaning) l34 c34 k34
  have b34 := F34.binds (ps := ["tree", "row"]) fun _ _ _ _ _ _ us hl => match us, hl with | [_, _], _ => rfl
  have F35 := fun_mk (st := s_law_equal) l35 c35 k35
  have b35 := F35.binds (ps := ["actual", "due"]) fun _ _ _ _ _ _ us hl => match us, hl with | [_, _], _ => rfl
  have F36 := fun_mk (st := s_law_alike) l36 c36 k36
  have b36 := F36.binds (ps := ["cells", "twins", "among", "others"]) fun _ _ _ _ _ _ us hl => match us, hl with | [_, _, _, _], _ => rfl
  have F37 := fun_mk (st := s_law) l37 c37 k37
  have b37 := F37.binds (ps := ["script"]) fun _ _ _ _ _ _ us hl => match us, hl with | [_], _ => rfl
  let T : Top K mg w := ⟨f0, _, F0, b0, PySem.W.mg_of X G a0, f1, _, F1, b1, PySem.W.mg_of X G a1, f2, _, F2, b2, PySem.W.mg_of X G a2, f3, _, F3, b3, PySem.W.mg_of X G a3, f4, _, F4, b4, PySem.W.mg_of X G a4, f5, _, F5, b5, PySem.W.mg_of X G a5, f6, _, F6, b6, PySem.W.mg_of X G a6, f7, _, F7, b7, PySem.W.mg_of X G a7, f8, _, F8, b8, PySem.W.mg_of X G a8, f9, _, F9, b9, PySem.W.mg_of X G a9, f10, _, F10, b10, PySem.W.mg_of X G a10, f11, _, F11, b11, PySem.W.mg_of X G a11, f12, _, F12, b12, PySem.W.mg_of X G a12, f13, _, F13, b13, PySem.W.mg_of X G a13, f14, _, F14, b14, PySem.W.mg_of X G a14, f15, _, F15, b15, PySem.W.mg_of X G a15, f16, _, F16, b16, PySem.W.mg_of X G a16, f17, _, F17, b17, PySem.W.mg_of X G a17, f18, _, F18, b18, PySem.W.mg_of X G a18, f19, _, F19, b19, PySem.W.mg_of X G a19, f20, _, F20, b20, PySem.W.mg_of X G a20, f21, _, F21, b21, PySem.W.mg_of X G a21, f22, _, F22, b22, PySem.W.mg_of X G a22, f23, _, F23, b23, PySem.W.mg_of X G a23, f24, _, F24, b24, PySem.W.mg_of X G a24, f25, _, F25, b25, PySem.W.mg_of X G a25, f26, _, F26, b26, PySem.W.mg_of X G a26, f27, _, F27, b27, PySem.W.mg_of X G a27, f28, _, F28, b28, PySem.W.mg_of X G a28, f29, _, F29, b29, PySem.W.mg_of X G a29, f30, _, F30, b30, PySem.W.mg_of X G a30, f31, _, F31, b31, PySem.W.mg_of X G a31, f32, _, F32, b32, PySem.W.mg_of X G a32, f33, _, F33, b33, PySem.W.mg_of X G a33, f34, _, F34, b34, PySem.W.mg_of X G a34, f35, _, F35, b35, PySem.W.mg_of X G a35, f36, _, F36, b36, PySem.W.mg_of X G a36, fa, _, F37, b37, PySem.W.mg_of X G a37, PySem.W.mg_none_of X G z0, PySem.W.mg_none_of X G z1, PySem.W.mg_none_of X G z2, PySem.W.mg_none_of X G z3, PySem.W.mg_none_of X G z4, PySem.W.mg_none_of X G z5, PySem.W.mg_none_of X G z6, PySem.W.mg_none_of X G z7, PySem.W.mg_none_of X G z8, PySem.W.mg_none_of X G z9, PySem.W.mg_none_of X G z10, PySem.W.mg_none_of X G z11, PySem.W.mg_none_of X G z12⟩
  refine ⟨PySem.W.fnOf "law" "law" (defArgs s_law) (defBody s_law) (defScope s_law) .none kV37 dc37 pm37 an37 cd37 ct37, fun s v => .of_eq rfl, fun base _ _ => ?_⟩
  exact ok_law (P := l.prog) (w := w) (base := base) T
theorem walk {l : PySem.W.OpenLaw} {q : Program} {loose : List Str} {XP : (Str → Option Value) → Heap → Prop} {YP : World → Heap → Prop} {d : DefRec} {K : Params → PySem.W.Frag} (hn : l.most = some 63) (hdf : d.params.defaults = [])
    (hY : ∀ (w : World) (h : Heap), YP w h → (K w.params).In h)
    (F : ∀ (w : World) (mg : Str → Option Value) (fa : Addr) (h : Heap), (K w.params).In h → h.Ns mainGlobals mg → mg d.name = some (.ref fa) →
      ∃ fd : FuncData, (∀ (s : Shared) (u : Value), BindsTo s fd ⟨[u], []⟩ [("script", u)]) ∧ ∀ base : Heap, (K w.params).In base → base.Ns mainGlobals mg → FnOk l.prog w (K w.params) mg base CX0 30 fa fd ["script"] (spLaw (K w.params))) :
    PySem.W.WalkO q loose XP YP l.row.toRowW d [] (fun f vs => PySem.call f vs) :=
  L2.walk_of (n := 63) (k := 30) (x := "script") (CX := fun _ => CX0) (sp := fun w => spLaw (K w.params)) hn (by decide) hdf ⟨rfl, by decide, by decide⟩ hY F (fun _ _ a ns hl _ hS => ⟨a, ns, rfl, hS, hl, fun _ => rfl⟩) fun _ _ _ _ _ z => z
end My
open PySem PySem.W PyProof.Rows
set_option maxRecDepth 100000 in
set_option maxHeartbeats 0 in
theorem PySem.Challenge.cw_keeproom_k08_whole_order_alone_holds : PySem.Challenge.rw_keeproom_k08_whole_order_alone.Holds := by
  w_on; o_law; k_head; (case hw => w_witness2)
  k_fill
  refine My.walk (l := PySem.Challenge.rw_keeproom_k08_whole_order_alone) rfl rfl (fun w h Y => PySem.W.kIn_of Y) ?F
  case F =>
    intro w mg fa h KX G hmg
    refine' My.all_mk KX G hmg ?a0 ?l0 ?c0 ?k0 ?a1 ?l1 ?c1 ?k1 ?a2 ?l2 ?c2 ?k2 ?a3 ?l3 ?c3 ?k3 ?a4 ?l4 ?c4 ?k4 ?a5 ?l5 ?c5 ?k5 ?a6 ?l6 ?c6 ?k6 ?a7 ?l7 ?c7 ?k7 ?a8 ?l8 ?c8 ?k8 ?a9 ?l9 ?c9 ?k9 ?a10 ?l10 ?c10 ?k10 ?a11 ?l11 ?c11 ?k11 ?a12 ?l12 ?c12 ?k12 ?a13 ?l13 ?c13 ?k13 ?a14 ?l14 ?c14 ?k14 ?a15 ?l15 ?c15 ?k15 ?a16 ?l16 ?c16 ?k16 ?a17 ?l17 ?c17 ?k17 ?a18 ?l18 ?c18 ?k18 ?a19 ?l19 ?c19 ?k19 ?a20 ?l20 ?c20 ?k20 ?a21 ?l21 ?c21 ?k21 ?a22 ?l22 ?c22 ?k22 ?a23 ?l23 ?c23 ?k23 ?a24 ?l24 ?c24 ?k24 ?a25 ?l25 ?c25 ?k25 ?a26 ?l26 ?c26 ?k26 ?a27 ?l27 ?c27 ?k27 ?a28 ?l28 ?c28 ?k28 ?a29 ?l29 ?c29 ?k29 ?a30 ?l30 ?c30 ?k30 ?a31 ?l31 ?c31 ?k31 ?a32 ?l32 ?c32 ?k32 ?a33 ?l33 ?c33 ?k33 ?a34 ?l34 ?c34 ?k34 ?a35 ?l35 ?c35 ?k35 ?a36 ?l36 ?c36 ?k36 ?a37 ?l37 ?c37 ?k37 ?z0 ?z1 ?z2 ?z3 ?z4 ?z5 ?z6 ?z7 ?z8 ?z9 ?z10 ?z11 ?z12
    (case a0 => k_is)
    (case l0 => k_is)
    (case c0 => k_is)
    (case k0 => k_is)
    (case a1 => k_is)
    (case l1 => k_is)
    (case c1 => k_is)
    (case k1 => k_is)
    (case a2 => k_is)
    (case l2 => k_is)
    (case c2 => k_is)
    (case k2 => k_is)
    (case a3 => k_is)
    (case l3 => k_is)
    (case c3 => k_is)
    (case k3 => k_is)
    (case a4 => k_is)
    (case l4 => k_is)
    (case c4 => k_is)
    (case k4 => k_is)
    (case a5 => k_is)
    (case l5 => k_is)
    (case c5 => k_is)
    (case k5 => k_is)
    (case a6 => k_is)
    (case l6 => k_is)
    (case c6 => k_is)
    (case k6 => k_is)
    (case a7 => k_is)
    (case l7 => k_is)
    (case c7 => k_is)
    (case k7 => k_is)
    (case a8 => k_is)
    (case l8 => k_is)
    (case c8 => k_is)
    (case k8 => k_is)
    (case a9 => k_is)
    (case l9 => k_is)
    (case c9 => k_is)
    (case k9 => k_is)
    (case a10 => k_is)
    (case l10 => k_is)
    (case c10 => k_is)
    (case k10 => k_is)
    (case a11 => k_is)
    (case l11 => k_is)
    (case c11 => k_is)
    (case k11 => k_is)
    (case a12 => k_is)
    (case l12 => k_is)
    (case c12 => k_is)
    (case k12 => k_is)
    (case a13 => k_is)
    (case l13 => k_is)
    (case c13 => k_is)
    (case k13 => k_is)
    (case a14 => k_is)
    (case l14 => k_is)
    (case c14 => k_is)
    (case k14 => k_is)
    (case a15 => k_is)
    (case l15 => k_is)
    (case c15 => k_is)
    (case k15 => k_is)
    (case a16 => k_is)
    (case l16 => k_is)
    (case c16 => k_is)
    (case k16 => k_is)
    (case a17 => k_is)
    (case l17 => k_is)
    (case c17 => k_is)
    (case k17 => k_is)
    (case a18 => k_is)
    (case l18 => k_is)
    (case c18 => k_is)
    (case k18 => k_is)
    (case a19 => k_is)
    (case l19 => k_is)
    (case c19 => k_is)
    (case k19 => k_is)
    (case a20 => k_is)
    (case l20 => k_is)
    (case c20 => k_is)
    (case k20 => k_is)
    (case a21 => k_is)
    (case l21 => k_is)
    (case c21 => k_is)
    (case k21 => k_is)
    (case a22 => k_is)
    (case l22 => k_is)
    (case c22 => k_is)
    (case k22 => k_is)
    (case a23 => k_is)
    (case l23 => k_is)
    (case c23 => k_is)
    (case k23 => k_is)
    (case a24 => k_is)
    (case l24 => k_is)
    (case c24 => k_is)
    (case k24 => k_is)
    (case a25 => k_is)
    (case l25 => k_is)
    (case c25 => k_is)
    (case k25 => k_is)
    (case a26 => k_is)
    (case l26 => k_is)
    (case c26 => k_is)
    (case k26 => k_is)
    (case a27 => k_is)
    (case l27 => k_is)
    (case c27 => k_is)
    (case k27 => k_is)
    (case a28 => k_is)
    (case l28 => k_is)
    (case c28 => k_is)
    (case k28 => k_is)
    (case a29 => k_is)
    (case l29 => k_is)
    (case c29 => k_is)
    (case k29 => k_is)
    (case a30 => k_is)
    (case l30 => k_is)
    (case c30 => k_is)
    (case k30 => k_is)
    (case a31 => k_is)
    (case l31 => k_is)
    (case c31 => k_is)
    (case k31 => k_is)
    (case a32 => k_is)
    (case l32 => k_is)
    (case c32 => k_is)
    (case k32 => k_is)
    (case a33 => k_is)
    (case l33 => k_is)
    (case c33 => k_is)
    (case k33 => k_is)
    (case a34 => k_is)
    (case l34 => k_is)
    (case c34 => k_is)
    (case k34 => k_is)
    (case a35 => k_is)
    (case l35 => k_is)
    (case c35 => k_is)
    (case k35 => k_is)
    (case a36 => k_is)
    (case l36 => k_is)
    (case c36 => k_is)
    (case k36 => k_is)
    (case a37 => k_is)
    (case l37 => k_is)
    (case c37 => k_is)
    (case k37 => k_is)
    (case z0 => k_is)
    (case z1 => k_is)
    (case z2 => k_is)
    (case z3 => k_is)
    (case z4 => k_is)
    (case z5 => k_is)
    (case z6 => k_is)
    (case z7 => k_is)
    (case z8 => k_is)
    (case z9 => k_is)
    (case z10 => k_is)
    (case z11 => k_is)
    (case z12 => k_is)

import PyProof.Rows.All
import Wide.All
import OpenK.AllK
import Wide.FinOn
import Open.SpecLaws
import KE.OsGo
import HandS.ForSpec
import HandS.ForMost
import HandS.Zip
import HandS.Wide
import HandS.WideBits
import HandS.CallLocal
import PySr80
import PySem.Challenge.RW_throwntogether_s01_answers
namespace TT
open Sr58 (Frac frac plus times less whole total)
open Sr66 (minus over zero neg)
open Sr80 (least)

/-- a rational number as the specification's fraction -/
def tf (q : Rat) : Frac := ⟨q.num, q.den⟩
theorem tf_inj {p q : Rat} (h : tf p = tf q) : p = q := by
  have h1 : p.num = q.num := congrArg Frac.n h
  have h2 : p.den = q.den := congrArg Frac.d h
  exact Rat.ext h1 h2
theorem tf_eq {p q : Rat} : tf p = tf q ↔ p = q := ⟨tf_inj, fun h => by rw [h]⟩
theorem tf_beq {p q : Rat} : (tf p == tf q) = decide (p = q) := by
  by_cases h : p = q
  · subst h; simp
  · have : tf p ≠ tf q := fun e => h (tf_inj e)
    simp [h, this]
theorem frac_tf (n : Int) (d : Nat) : frac n d = tf (mkRat n d) := by
  by_cases hd : d = 0
  · subst hd
    unfold frac
    by_cases hn : n = 0
    · subst hn; rfl
    · have e : Nat.gcd n.natAbs 0 = n.natAbs := Nat.gcd_zero_right _
      simp only [e]
      have : n.natAbs ≠ 0 := by omega
      rw [if_neg this, if_pos (Nat.zero_div _)]
      rfl
  · have hg : Nat.gcd n.natAbs d ≠ 0 := by
      intro h
      have := (Nat.gcd_eq_zero_iff.mp h).2
      exact hd this
    have hdg : d / Nat.gcd n.natAbs d ≠ 0 := by
      have h1 : Nat.gcd n.natAbs d ≤ d := Nat.gcd_le_right _ (Nat.pos_of_ne_zero hd)
      have := Nat.div_pos h1 (Nat.pos_of_ne_zero hg)
      omega
    unfold frac
    simp only [if_neg hg, if_neg hdg]
    unfold tf
    have e1 : (mkRat n d).num = n / (Nat.gcd n.natAbs d : Nat) := by
      rw [Rat.num_mkRat, if_neg hd]; rw [Nat.gcd_comm]
    have e2 : (mkRat n d).den = d / Nat.gcd n.natAbs d := by
      rw [Rat.den_mkRat, if_neg hd]; rw [Nat.gcd_comm]
    rw [e1, e2]
theorem tf_self (q : Rat) : mkRat q.num q.den = q := Rat.mkRat_self q
theorem plus_tf (p q : Rat) : plus (tf p) (tf q) = tf (p + q) := by
  unfold plus
  rw [frac_tf]
  show tf (mkRat (p.num * (q.den : Int) + q.num * (p.den : Int)) (p.den * q.den)) = _
  rw [← Rat.mkRat_add_mkRat _ _ p.den_nz q.den_nz, tf_self, tf_self]
theorem times_tf (p q : Rat) : times (tf p) (tf q) = tf (p * q) := by
  unfold times
  rw [frac_tf]
  show tf (mkRat (p.num * q.num) (p.den * q.den)) = _
  rw [← Rat.mkRat_mul_mkRat, tf_self, tf_self]
theorem neg_tf (p : Rat) : neg (tf p) = tf (-p) := rfl
theorem minus_tf (p q : Rat) : minus (tf p) (tf q) = tf (p - q) := by
  unfold minus
  rw [neg_tf, plus_tf, Rat.sub_eq_add_neg]
theorem whole_tf (n : Int) : whole n = tf (n : Rat) := rfl
theorem zero_tf : zero = tf 0 := rfl
theorem less_tf (p q : Rat) : less (tf p) (tf q) = decide (p < q) := by
  unfold less
  have : (tf p).n * ((tf q).d : Int) < (tf q).n * ((tf p).d : Int) ↔ p < q := by
    show p.num * (q.den : Int) < q.num * (p.den : Int) ↔ _
    rw [Rat.lt_iff]
  exact decide_eq_decide.mpr this
theorem least_tf (p q : Rat) : least (tf p) (tf q) = tf (if q < p then q else p) := by
  unfold least
  rw [less_tf]
  by_cases h : q < p <;> simp [h]
theorem over_tf (p q : Rat) : over (tf p) (tf q) = tf (p / q) := by
  have hq : q = mkRat q.num q.den := (tf_self q).symm
  unfold over
  show (if q.num < 0 then frac (-(p.num * (q.den : Int))) (p.den * q.num.natAbs) else frac (p.num * (q.den : Int)) (p.den * q.num.natAbs)) = _
  have key : ∀ (s : Int), s * q.num = (q.num.natAbs : Int) → (s = 1 ∨ s = -1) → mkRat (s * (p.num * (q.den : Int))) (p.den * q.num.natAbs) = p / q := by
    intro s hs h1
    rw [Rat.mkRat_eq_div]
    have hp : p = (p.num : Rat) / (p.den : Rat) := by rw [← Rat.mkRat_eq_div, tf_self]
    have hq' : q = (q.num : Rat) / (q.den : Rat) := by rw [← Rat.mkRat_eq_div, tf_self]
    have hpd : (p.den : Rat) ≠ 0 := by exact_mod_cast p.den_nz
    have hqd : (q.den : Rat) ≠ 0 := by exact_mod_cast q.den_nz
    by_cases hz : q.num = 0
    · have : q = 0 := by rw [hq', hz]; simp [Rat.div_def, Rat.zero_mul]
      rw [hz, this]
      simp [Rat.div_def]
    · have hn : (q.num : Rat) ≠ 0 := by exact_mod_cast hz
      have hc : ((p.den * q.num.natAbs : Nat) : Rat) = (p.den : Rat) * ((s : Rat) * (q.num : Rat)) := by
        have : ((q.num.natAbs : Nat) : Rat) = ((q.num.natAbs : Int) : Rat) := rfl
        rw [show ((p.den * q.num.natAbs : Nat) : Rat) = (p.den : Rat) * ((q.num.natAbs : Nat) : Rat) by push_cast; rfl, this, ← hs]
        push_cast
        rfl
      rw [hc]
      have hs2 : (s : Rat) * s = 1 := by
        rcases h1 with h | h <;> subst h <;> decide +kernel
      have hs0 : (s : Rat) ≠ 0 := by
        intro h; rw [h] at hs2; grind
      conv => rhs; rw [hp, hq']
      push_cast
      generalize (p.num : Rat) = a at *
      generalize (q.num : Rat) = b at *
      generalize (p.den : Rat) = c at *
      generalize (q.den : Rat) = d at *
      generalize (s : Rat) = t at *
      grind
  by_cases hneg : q.num < 0
  · rw [if_pos hneg, frac_tf]
    have := key (-1) (by omega) (Or.inr rfl)
    rw [show -(p.num * (q.den : Int)) = -1 * (p.num * (q.den : Int)) by omega, this]
  · rw [if_neg hneg, frac_tf]
    have := key 1 (by omega) (Or.inl rfl)
    rw [show p.num * (q.den : Int) = 1 * (p.num * (q.den : Int)) by omega, this]
/-- a rational sum, from the left -/
def rsum (l : List Rat) : Rat := l.foldl (· + ·) 0
theorem foldl_plus_tf : ∀ (l : List Rat) (s : Rat), (l.map tf).foldl plus (tf s) = tf (l.foldl (· + ·) s)
  | [], s => rfl
  | x :: l, s => by
    rw [List.map_cons, List.foldl_cons, List.foldl_cons, plus_tf, foldl_plus_tf l]
theorem total_tf (l : List Rat) : total (l.map tf) = tf (rsum l) := foldl_plus_tf l 0

/-! common denominators -/
/-- so many parts of T -/
def pt (T : Nat) (x : Int) : Rat := (x : Rat) / (T : Rat)
theorem frac_pt (x : Int) (T : Nat) : frac x T = tf (pt T x) := by rw [frac_tf, Rat.mkRat_eq_div]; rfl
theorem pt_add (T : Nat) (x y : Int) : pt T (x + y) = pt T x + pt T y := by
  unfold pt; rw [Rat.intCast_add]; grind
theorem pt_neg (T : Nat) (x : Int) : pt T (-x) = - pt T x := by
  unfold pt; rw [Rat.intCast_neg]; grind
theorem pt_sub (T : Nat) (x y : Int) : pt T (x - y) = pt T x - pt T y := by
  rw [Int.sub_eq_add_neg, pt_add, pt_neg, Rat.sub_eq_add_neg]
theorem pt_zero (T : Nat) : pt T 0 = 0 := by unfold pt; simp [Rat.div_def, Rat.zero_mul]
theorem castN_pos {T : Nat} (h : 0 < T) : (0 : Rat) < (T : Rat) := by exact_mod_cast h
theorem pt_lt {T : Nat} (h : 0 < T) (x y : Int) : pt T x < pt T y ↔ x < y := by
  unfold pt
  have h0 := castN_pos h
  rw [Rat.div_lt_iff h0, Rat.div_mul_cancel (by grind)]
  exact Rat.intCast_lt_intCast
theorem pt_le {T : Nat} (h : 0 < T) (x y : Int) : pt T x ≤ pt T y ↔ x ≤ y := by
  rw [← Rat.not_lt, pt_lt h]; omega
theorem pt_inj {T : Nat} (h : 0 < T) (x y : Int) : pt T x = pt T y ↔ x = y := by
  constructor
  · intro e
    have h1 := (pt_le h x y).mp (by rw [e]; exact Rat.le_refl)
    have h2 := (pt_le h y x).mp (by rw [e]; exact Rat.le_refl)
    omega
  · intro e; rw [e]
theorem pt_cross {S T : Nat} (hS : 0 < S) (hT : 0 < T) (x y : Int) : pt S x = pt T y ↔ x * T = y * S := by
  unfold pt
  have h0 := castN_pos hS
  have h1 := castN_pos hT
  have e : (x : Rat) / (S : Rat) = (y : Rat) / (T : Rat) ↔ (x : Rat) * ((T : Int) : Rat) = (y : Rat) * ((S : Int) : Rat) := by
    show _ ↔ (x : Rat) * (T : Rat) = (y : Rat) * (S : Rat)
    constructor <;> intro h <;> grind
  rw [e, ← Rat.intCast_mul, ← Rat.intCast_mul, Rat.intCast_inj]
theorem pt_scale {T k : Nat} (hk : 0 < k) (x : Int) : pt (T * k) (x * k) = pt T x := by
  unfold pt
  have h0 := castN_pos hk
  have e : ((x * (k : Int) : Int) : Rat) = (x : Rat) * (k : Rat) := Rat.intCast_mul _ _
  have e2 : ((T * k : Nat) : Rat) = (T : Rat) * (k : Rat) := Rat.natCast_mul _ _
  rw [e, e2]
  by_cases hT : T = 0
  · subst hT; simp [Rat.div_def, Rat.zero_mul]
  · have := castN_pos (Nat.pos_of_ne_zero hT)
    grind
theorem pt_one {T : Nat} (h : 0 < T) : pt T T = 1 := by
  unfold pt
  have := castN_pos h
  show (T : Rat) / (T : Rat) = 1
  grind
theorem foldl_pt (T : Nat) : ∀ (l : List Int) (s : Int), (l.map (pt T)).foldl (· + ·) (pt T s) = pt T (l.foldl (· + ·) s)
  | [], s => rfl
  | x :: l, s => by
    rw [List.map_cons, List.foldl_cons, List.foldl_cons, ← pt_add, foldl_pt T l]
theorem foldl_add : ∀ (l : List Int) (s : Int), l.foldl (· + ·) s = s + l.sum
  | [], s => by simp
  | x :: l, s => by rw [List.foldl_cons, foldl_add l, List.sum_cons]; omega
theorem rsum_pt (T : Nat) (l : List Int) : rsum (l.map (pt T)) = pt T l.sum := by
  unfold rsum
  have := foldl_pt T l 0
  rw [pt_zero] at this
  rw [this, foldl_add]
  simp
end TT

namespace TT
open Sr58 (Frac frac plus times less whole total)
open Sr66 (minus over zero neg)
open Sr80 (least cAt pAt inSet ofSet reach most greedyOn greedy pairs blank)

/-- a row of whole numbers, each by T -/
def sp (T : Nat) (W : List Int) : List Frac := W.map fun x => frac x T
theorem sp_eq (T : Nat) (W : List Int) : sp T W = (W.map (pt T)).map tf := by
  unfold sp; rw [List.map_map]; apply List.map_congr_left; intro x _; exact frac_pt x T
theorem zero_fr (T : Nat) : zero = frac 0 T := by rw [frac_pt, pt_zero]; rfl
theorem total_sp (T : Nat) (W : List Int) : total (sp T W) = frac W.sum T := by
  rw [sp_eq, total_tf, rsum_pt, frac_pt]
theorem total_of {α : Type} (T : Nat) (l : List α) (f : α → Frac) (g : α → Int) (h : ∀ x ∈ l, f x = frac (g x) T) : total (l.map f) = frac (l.map g).sum T := by
  rw [← total_sp]; unfold sp; rw [List.map_map]
  congr 1
  exact List.map_congr_left h
theorem plus_fr (T : Nat) (x y : Int) : plus (frac x T) (frac y T) = frac (x + y) T := by
  rw [frac_pt, frac_pt, frac_pt, plus_tf, pt_add]
theorem minus_fr (T : Nat) (x y : Int) : minus (frac x T) (frac y T) = frac (x - y) T := by
  rw [frac_pt, frac_pt, frac_pt, minus_tf, pt_sub]
theorem less_fr {T : Nat} (h : 0 < T) (x y : Int) : less (frac x T) (frac y T) = decide (x < y) := by
  rw [frac_pt, frac_pt, less_tf]; exact decide_eq_decide.mpr (pt_lt h x y)
theorem least_fr {T : Nat} (h : 0 < T) (x y : Int) : least (frac x T) (frac y T) = frac (min x y) T := by
  unfold least
  rw [less_fr h]
  by_cases c : y < x
  · simp only [c, decide_true, if_true]; rw [Int.min_eq_right (by omega)]
  · simp only [c, decide_false]; rw [Int.min_eq_left (by omega)]; rfl
theorem fr_inj {T : Nat} (h : 0 < T) {x y : Int} : frac x T = frac y T ↔ x = y := by
  rw [frac_pt, frac_pt, tf_eq, pt_inj h]
theorem fr_cross {S T : Nat} (hS : 0 < S) (hT : 0 < T) (x y : Int) : frac x S = frac y T ↔ x * T = y * S := by
  rw [frac_pt, frac_pt, tf_eq, pt_cross hS hT]
theorem fr_scale {T k : Nat} (hk : 0 < k) (x : Int) : frac (x * k) (T * k) = frac x T := by
  rw [frac_pt, frac_pt, pt_scale hk]
theorem sp_length (T : Nat) (W : List Int) : (sp T W).length = W.length := List.length_map _
theorem getD_map {α β : Type} (f : α → β) (d : α) : ∀ (l : List α) (i : Nat), (l.map f).getD i (f d) = f (l.getD i d)
  | [], i => rfl
  | x :: l, 0 => rfl
  | x :: l, i + 1 => by
    show (l.map f).getD i (f d) = f (l.getD i d)
    exact getD_map f d l i
theorem cAt_sp (T : Nat) (W : List Int) (i : Nat) : cAt (sp T W) i = frac (W.getD i 0) T := by
  unfold cAt sp; rw [zero_fr T]; exact getD_map (fun x => frac x T) 0 W i
theorem pAt_sp (T : Nat) (P : List (List Int)) (i j : Nat) : pAt (P.map (sp T)) i j = frac ((P.getD i []).getD j 0) T := by
  unfold pAt
  have : (P.map (sp T)).getD i [] = sp T (P.getD i []) := getD_map (sp T) [] P i
  rw [this]
  exact cAt_sp T _ j
theorem set_sp (T : Nat) (W : List Int) (i : Nat) (x : Int) : (sp T W).set i (frac x T) = sp T (W.set i x) := by
  unfold sp; rw [List.map_set]
/-! ### sums over a range -/
def rs (n : Nat) (f : Nat → Int) : Int := ((List.range n).map f).sum
theorem rs_succ (n : Nat) (f : Nat → Int) : rs (n + 1) f = rs n f + f n := by
  unfold rs; rw [List.range_succ]; simp
theorem rs_congr {n : Nat} {f g : Nat → Int} (h : ∀ i, i < n → f i = g i) : rs n f = rs n g := by
  unfold rs; congr 1; apply List.map_congr_left; intro i hi; exact h i (List.mem_range.mp hi)
theorem rs_le : ∀ {n : Nat} {f g : Nat → Int}, (∀ i, i < n → f i ≤ g i) → rs n f ≤ rs n g
  | 0, _, _, _ => Int.le_refl _
  | n + 1, f, g, h => by
    rw [rs_succ, rs_succ]
    have := rs_le (n := n) (f := f) (g := g) fun i hi => h i (by omega)
    have := h n (by omega)
    omega
theorem rs_without : ∀ {n : Nat} {f g : Nat → Int} {k : Nat}, k < n → (∀ i, i < n → f i ≤ g i) → f k = 0 → rs n f + g k ≤ rs n g
  | 0, _, _, _, hk, _, _ => by omega
  | n + 1, f, g, k, hk, h, h0 => by
    rw [rs_succ, rs_succ]
    by_cases c : k = n
    · subst c
      have := rs_le (n := k) (f := f) (g := g) fun i hi => h i (by omega)
      omega
    · have := rs_without (n := n) (f := f) (g := g) (k := k) (by omega) (fun i hi => h i (by omega)) h0
      have := h n (by omega)
      omega
theorem rs_add (n : Nat) (f g : Nat → Int) : rs n (fun i => f i + g i) = rs n f + rs n g := by
  induction n with
  | zero => rfl
  | succ n ih => rw [rs_succ, rs_succ, rs_succ, ih]; omega
theorem rs_zero (n : Nat) : rs n (fun _ => 0) = 0 := by
  induction n with
  | zero => rfl
  | succ n ih => rw [rs_succ, ih]; rfl
theorem rs_mul (n : Nat) (f : Nat → Int) (k : Int) : rs n (fun i => f i * k) = rs n f * k := by
  induction n with
  | zero => show (0 : Int) = 0 * k; omega
  | succ n ih => rw [rs_succ, rs_succ, ih, Int.add_mul]
theorem rs_getD : ∀ (W : List Int), rs W.length (fun i => W.getD i 0) = W.sum
  | [] => rfl
  | x :: W => by
    unfold rs
    have ih := rs_getD W
    unfold rs at ih
    rw [List.length_cons, List.range_succ_eq_map, List.map_cons, List.map_map, List.sum_cons, List.sum_cons]
    show x + _ = x + _
    rw [← ih]
    rfl
/-! ### as much as one pair can have, by all pairs -/
theorem inSet_zero (j : Nat) : inSet 0 j = false := by unfold inSet; simp
theorem fold_pow : ∀ (n : Nat), (List.range n).foldl (fun t j => t + 2 ^ j) 0 = 2 ^ n - 1
  | 0 => rfl
  | n + 1 => by
    rw [List.range_succ, List.foldl_append, fold_pow n]
    show 2 ^ n - 1 + 2 ^ n = 2 ^ (n + 1) - 1
    have : 0 < 2 ^ n := Nat.two_pow_pos n
    rw [Nat.pow_succ]; omega
theorem inSet_all {n j : Nat} (h : j < n) : inSet (2 ^ n - 1) j = true := by
  unfold inSet
  have : (2 ^ n - 1).testBit j = true := by rw [Nat.testBit_two_pow_sub_one]; simp [h]
  rw [Nat.testBit_eq_decide_div_mod_eq] at this
  simp at this
  simp [this]
theorem reach_all {n : Nat} {s j : Nat} (h : inSet (reach n (fun _ _ => true) s) j = true) : reach n (fun _ _ => true) s = 2 ^ n - 1 := by
  unfold reach at h ⊢
  by_cases c : ((List.range n).any fun i => inSet s i && true) = true
  · rw [List.filter_eq_self.mpr (fun _ _ => c), fold_pow]
  · exfalso
    have e : ((List.range n).filter fun _ => (List.range n).any fun i => inSet s i && true) = [] := by
      rw [List.filter_eq_nil_iff]; intro _ _; exact c
    rw [e] at h
    exact Bool.noConfusion ((inSet_zero j).symm.trans h)
theorem ofSet_sp (n T : Nat) (W : List Int) (s : Nat) : ofSet n (sp T W) s = frac (rs n fun i => if inSet s i then W.getD i 0 else 0) T := by
  unfold ofSet rs
  apply total_of
  intro i _
  by_cases c : inSet s i = true
  · simp only [c, if_true]; exact cAt_sp T W i
  · simp only [c]; exact zero_fr T
theorem foldl_least {T : Nat} (hT : 0 < T) {α : Type} (X : α → Frac) (m : Int) : ∀ (l : List α), (∀ s ∈ l, ∃ z, X s = frac z T ∧ m ≤ z) → l.foldl (fun m s => least m (X s)) (frac m T) = frac m T
  | [], _ => rfl
  | s :: l, h => by
    obtain ⟨z, e, hz⟩ := h s (List.mem_cons_self)
    rw [List.foldl_cons, e, least_fr hT, Int.min_eq_left hz]
    exact foldl_least hT X m l fun s' hs => h s' (List.mem_cons_of_mem _ hs)
theorem most_sp {n T : Nat} (hT : 0 < T) {A B : List Int} (hA : A.length = n) (hB : B.length = n) (pA : ∀ i, 0 ≤ A.getD i 0) (hs : A.sum = B.sum) {i j : Nat} (hi : i < n) :
    most n (fun _ _ => true) (sp T A) (sp T B) i j = frac (min (A.getD i 0) (B.getD j 0)) T := by
  unfold most
  rw [cAt_sp, cAt_sp, least_fr hT]
  apply foldl_least hT
  intro s hm
  have hm2 := (List.mem_filter.mp hm).2
  rw [Bool.and_eq_true] at hm2
  have hr := reach_all hm2.2
  rw [hr, ofSet_sp, ofSet_sp, minus_fr]
  refine ⟨_, rfl, ?_⟩
  have h1 : (rs n fun i => if inSet (2 ^ n - 1) i = true then B.getD i 0 else 0) = B.sum := by
    rw [← rs_getD B, hB]
    apply rs_congr
    intro k hk
    simp only [inSet_all hk, if_true]
  have hn : inSet s i = false := by
    have := hm2.1
    simpa using this
  have h2 := rs_without (n := n) (f := fun i => if inSet s i = true then A.getD i 0 else 0) (g := fun i => A.getD i 0) hi
    (by intro k _
        by_cases c : inSet s k = true
        · simp [c]
        · simp only [c]; exact pA k) (by simp [hn])
  have h3 : (rs n fun i => A.getD i 0) = A.sum := by rw [← hA]; exact rs_getD A
  rw [h1]
  have h4 := Int.min_le_left (A.getD i 0) (B.getD j 0)
  omega
/-! ### pair by pair, in whole numbers -/
def gz : List (Nat × Nat) → List Int → List Int → List (List Int) → List (List Int)
  | [], _, _, p => p
  | y :: l, a, b, p =>
    let m := min (a.getD y.1 0) (b.getD y.2 0)
    gz l (a.set y.1 (a.getD y.1 0 - m)) (b.set y.2 (b.getD y.2 0 - m)) (p.set y.1 ((p.getD y.1 []).set y.2 ((p.getD y.1 []).getD y.2 0 + m)))
theorem gz_cons (y : Nat × Nat) (l : List (Nat × Nat)) (a b : List Int) (p : List (List Int)) : gz (y :: l) a b p =
    gz l (a.set y.1 (a.getD y.1 0 - min (a.getD y.1 0) (b.getD y.2 0))) (b.set y.2 (b.getD y.2 0 - min (a.getD y.1 0) (b.getD y.2 0))) (p.set y.1 ((p.getD y.1 []).set y.2 ((p.getD y.1 []).getD y.2 0 + min (a.getD y.1 0) (b.getD y.2 0)))) := rfl
theorem getD_set {α : Type} (d : α) : ∀ (l : List α) (i j : Nat) (x : α), (l.set i x).getD j d = if i = j ∧ i < l.length then x else l.getD j d
  | [], i, j, x => by simp
  | y :: l, 0, 0, x => by simp
  | y :: l, 0, j + 1, x => by simp
  | y :: l, i + 1, 0, x => by simp
  | y :: l, i + 1, j + 1, x => by
    show (l.set i x).getD j d = _
    rw [getD_set d l i j x]
    simp
theorem sum_set : ∀ (l : List Int) (i : Nat) (x : Int), i < l.length → (l.set i x).sum = l.sum - l.getD i 0 + x
  | [], i, x, h => by simp at h
  | y :: l, 0, x, h => by
    show x + l.sum = y + l.sum - y + x
    omega
  | y :: l, i + 1, x, h => by
    have := sum_set l i x (by simpa using h)
    show y + (l.set i x).sum = y + l.sum - l.getD i 0 + x
    omega
theorem greedyOn_sp {n T : Nat} (hT : 0 < T) : ∀ (l : List (Nat × Nat)) (A B : List Int) (P : List (List Int)), A.length = n → B.length = n → (∀ i, 0 ≤ A.getD i 0) → (∀ i, 0 ≤ B.getD i 0) → A.sum = B.sum → (∀ y ∈ l, y.1 < n ∧ y.2 < n) →
    greedyOn n (fun _ _ => true) l (sp T A) (sp T B) (P.map (sp T)) = (gz l A B P).map (sp T)
  | [], A, B, P, _, _, _, _, _, _ => rfl
  | y :: l, A, B, P, hA, hB, pA, pB, hs, hl => by
    have hy := hl y List.mem_cons_self
    unfold greedyOn gz
    simp only [if_true]
    rw [most_sp hT hA hB pA hs hy.1, cAt_sp, cAt_sp, minus_fr, minus_fr, set_sp, set_sp, pAt_sp, plus_fr]
    have e : (P.map (sp T)).getD y.1 [] = sp T (P.getD y.1 []) := getD_map (sp T) [] P y.1
    rw [e, set_sp, ← List.map_set]
    have h1 := Int.min_le_left (A.getD y.1 0) (B.getD y.2 0)
    have h2 := Int.min_le_right (A.getD y.1 0) (B.getD y.2 0)
    apply greedyOn_sp hT l
    · rw [List.length_set]; exact hA
    · rw [List.length_set]; exact hB
    · intro i
      rw [getD_set]
      split
      · omega
      · exact pA i
    · intro i
      rw [getD_set]
      split
      · omega
      · exact pB i
    · rw [sum_set _ _ _ (by omega), sum_set _ _ _ (by omega)]; omega
    · exact fun z hz => hl z (List.mem_cons_of_mem _ hz)
/-- one row: what is to be given, what is left of each; the row, what is left then -/
def rowNW : Int → List Int → List Int × List Int
  | _, [] => ([], [])
  | r, y :: l => (min r y :: (rowNW (r - min r y) l).1, (y - min r y) :: (rowNW (r - min r y) l).2)
def planNW : List Int → List Int → List (List Int)
  | [], _ => []
  | x :: xs, left => (rowNW x left).1 :: planNW xs (rowNW x left).2
theorem rowNW_len1 : ∀ (l : List Int) (r : Int), (rowNW r l).1.length = l.length
  | [], _ => rfl
  | y :: l, r => by
    show (rowNW _ l).1.length + 1 = l.length + 1
    rw [rowNW_len1 l]
theorem rowNW_len2 : ∀ (l : List Int) (r : Int), (rowNW r l).2.length = l.length
  | [], _ => rfl
  | y :: l, r => by
    show (rowNW _ l).2.length + 1 = l.length + 1
    rw [rowNW_len2 l]
theorem planNW_len : ∀ (a b : List Int), (planNW a b).length = a.length
  | [], _ => rfl
  | x :: a, b => by
    show (planNW a _).length + 1 = a.length + 1
    rw [planNW_len a]
theorem planNW_rows : ∀ (a b : List Int), ∀ r ∈ planNW a b, r.length = b.length
  | [], _, r, h => by cases h
  | x :: a, b, r, h => by
    rcases List.mem_cons.mp h with h | h
    · rw [h]; exact rowNW_len1 b x
    · rw [planNW_rows a _ r h]; exact rowNW_len2 b x
/-- a row of pairs gone through -/
theorem gz_row (i : Nat) (rest : List (Nat × Nat)) : ∀ (post pre rp : List Int) (r : Int) (ad at_ : List Int) (pd pt_ : List (List Int)), ad.length = i → pd.length = i → rp.length = pre.length →
    gz ((List.range' pre.length post.length).map (fun j => (i, j)) ++ rest) (ad ++ r :: at_) (pre ++ post) (pd ++ (rp ++ List.replicate post.length 0) :: pt_)
      = gz rest (ad ++ (r - (rowNW r post).1.sum) :: at_) (pre ++ (rowNW r post).2) (pd ++ (rp ++ (rowNW r post).1) :: pt_)
  | [], pre, rp, r, ad, at_, pd, pt_, _, _, _ => by
    simp [rowNW]
  | y :: post, pre, rp, r, ad, at_, pd, pt_, h1, h2, h3 => by
    rw [List.length_cons, List.range'_succ, List.map_cons, List.cons_append, gz_cons]
    have ea : (ad ++ r :: at_).getD i 0 = r := by rw [← h1]; simp [List.getD]
    have eb : (pre ++ y :: post).getD pre.length 0 = y := by simp [List.getD]
    have ep : (pd ++ (rp ++ List.replicate (post.length + 1) 0) :: pt_).getD i [] = rp ++ List.replicate (post.length + 1) 0 := by rw [← h2]; simp [List.getD]
    simp only [ea, eb, ep]
    have e1 : (rp ++ List.replicate (post.length + 1) (0 : Int)).getD pre.length 0 = 0 := by rw [← h3]; simp [List.getD, List.replicate_succ]
    rw [e1]
    have s1 : (ad ++ r :: at_).set i (r - min r y) = ad ++ (r - min r y) :: at_ := by rw [← h1]; simp
    have s2 : (pre ++ y :: post).set pre.length (y - min r y) = (pre ++ [y - min r y]) ++ post := by simp
    have s3 : (rp ++ List.replicate (post.length + 1) (0 : Int)).set pre.length (0 + min r y) = (rp ++ [min r y]) ++ List.replicate post.length 0 := by
      rw [← h3, List.replicate_succ]; simp
    have s4 : (pd ++ (rp ++ List.replicate (post.length + 1) (0 : Int)) :: pt_).set i ((rp ++ [min r y]) ++ List.replicate post.length 0) = pd ++ ((rp ++ [min r y]) ++ List.replicate post.length 0) :: pt_ := by rw [← h2]; simp
    rw [s1, s2, s3, s4]
    have ih := gz_row i rest post (pre ++ [y - min r y]) (rp ++ [min r y]) (r - min r y) ad at_ pd pt_ h1 h2 (by simp [h3])
    rw [List.length_append] at ih
    have e5 : pre.length + [y - min r y].length = pre.length + 1 := rfl
    rw [e5] at ih
    rw [ih]
    show gz rest (ad ++ (r - min r y - (rowNW (r - min r y) post).1.sum) :: at_) (pre ++ [y - min r y] ++ (rowNW (r - min r y) post).2) (pd ++ (rp ++ [min r y] ++ (rowNW (r - min r y) post).1) :: pt_) = gz rest (ad ++ (r - (min r y + (rowNW (r - min r y) post).1.sum)) :: at_) (pre ++ ((y - min r y) :: (rowNW (r - min r y) post).2)) (pd ++ (rp ++ (min r y :: (rowNW (r - min r y) post).1)) :: pt_)
    simp [List.append_assoc, Int.sub_sub]
theorem gz_rows (n : Nat) : ∀ (todo b ad : List Int) (pd : List (List Int)), pd.length = ad.length → b.length = n →
    gz ((List.range' ad.length todo.length).flatMap fun i => (List.range n).map fun j => (i, j)) (ad ++ todo) b (pd ++ List.replicate todo.length (List.replicate n 0)) = pd ++ planNW todo b
  | [], b, ad, pd, _, _ => by simp [gz, planNW]
  | x :: todo, b, ad, pd, h, hb => by
    rw [List.length_cons, List.range'_succ, List.flatMap_cons, List.replicate_succ, List.range_eq_range']
    have g := gz_row ad.length ((List.range' (ad.length + 1) todo.length).flatMap fun i => (List.range' 0 n).map fun j => (i, j)) b [] [] x ad todo pd (List.replicate todo.length (List.replicate n 0)) rfl h rfl
    rw [hb] at g
    simp only [List.nil_append, List.length_nil] at g
    rw [g]
    have ih := gz_rows n todo (rowNW x b).2 (ad ++ [x - (rowNW x b).1.sum]) (pd ++ [(rowNW x b).1]) (by simp [h]) (by rw [rowNW_len2, hb])
    rw [List.range_eq_range', List.length_append] at ih
    simp only [List.append_assoc, List.cons_append, List.nil_append] at ih
    exact ih
theorem blank_sp (n T : Nat) : blank n = (List.replicate n (List.replicate n (0 : Int))).map (sp T) := by
  unfold blank sp
  rw [List.map_replicate, List.map_replicate, ← zero_fr]
theorem greedy_sp {n T : Nat} (hT : 0 < T) {A B : List Int} (hA : A.length = n) (hB : B.length = n) (pA : ∀ i, 0 ≤ A.getD i 0) (pB : ∀ i, 0 ≤ B.getD i 0) (hs : A.sum = B.sum) :
    greedy n (fun _ _ => true) (sp T A) (sp T B) = (planNW A B).map (sp T) := by
  unfold greedy
  rw [blank_sp n T, greedyOn_sp hT _ A B _ hA hB pA pB hs ?_]
  · congr 1
    have := gz_rows n A B [] [] rfl hB
    simp only [List.nil_append, List.length_nil, hA] at this
    rw [← List.range_eq_range'] at this
    exact this
  · intro y hy
    unfold pairs at hy
    obtain ⟨i, hi, hy⟩ := List.mem_flatMap.mp hy
    obtain ⟨j, hj, rfl⟩ := List.mem_map.mp hy
    exact ⟨List.mem_range.mp hi, List.mem_range.mp hj⟩
end TT

namespace TT
open Sr58 (Frac frac plus times less whole total)
open Sr66 (minus over zero neg)
open Sr80 (least cAt pAt inSet ofSet reach most greedyOn greedy pairs blank)

/-! ### the program's own functions, in whole numbers -/
def surplus (A B : List Int) : List Int := List.zipWith (fun a b => max (a - b) 0) A B
theorem surplus_len {n : Nat} {A B : List Int} (hA : A.length = n) (hB : B.length = n) : (surplus A B).length = n := by
  unfold surplus; rw [List.length_zipWith, hA, hB, Nat.min_self]
theorem surplus_at : ∀ {A B : List Int} (i : Nat), A.length = B.length → (surplus A B).getD i 0 = max (A.getD i 0 - B.getD i 0) 0
  | [], [], i, _ => by simp [surplus]
  | [], _ :: _, _, h => by simp at h
  | _ :: _, [], _, h => by simp at h
  | a :: A, b :: B, 0, _ => by simp [surplus]
  | a :: A, b :: B, i + 1, h => by
    show (surplus A B).getD i 0 = max (A.getD i 0 - B.getD i 0) 0
    exact surplus_at i (by simpa using h)
theorem ext_getD {α : Type} (d : α) {n : Nat} {P Q : List α} (hP : P.length = n) (hQ : Q.length = n) (h : ∀ i, i < n → P.getD i d = Q.getD i d) : P = Q := by
  apply List.ext_getElem
  · rw [hP, hQ]
  · intro i h1 h2
    have := h i (by omega)
    rw [List.getD_eq_getElem?_getD, List.getD_eq_getElem?_getD, List.getElem?_eq_getElem h1, List.getElem?_eq_getElem h2] at this
    exact this
theorem getD_range {α : Type} (d : α) {n : Nat} (f : Nat → α) {i : Nat} (h : i < n) : ((List.range n).map f).getD i d = f i := by
  simp [List.getD, h]
theorem sum_eq_rs {n : Nat} {W : List Int} (h : W.length = n) : W.sum = rs n fun i => W.getD i 0 := by
  rw [← h]; exact (rs_getD W).symm
theorem apart_sp {n T : Nat} (hT : 0 < T) {A B : List Int} (hA : A.length = n) (hB : B.length = n) :
    Sr80.apart n (sp T A) (sp T B) = frac (surplus A B).sum T := by
  unfold Sr80.apart
  rw [sum_eq_rs (surplus_len hA hB)]
  unfold rs
  apply total_of
  intro i _
  rw [cAt_sp, cAt_sp, less_fr hT, minus_fr, surplus_at i (by omega), zero_fr T]
  by_cases c : B.getD i 0 < A.getD i 0
  · simp only [c, decide_true, if_true]; rw [Int.max_eq_left (by omega)]
  · simp only [c, decide_false]; rw [Int.max_eq_right (by omega)]; rfl
/-- the set of the points with more than 0 -/
def setNo (M : List Int) : Int := ((M.zipIdx.filter fun y => decide (y.1 > 0)).map fun y => (2 : Int) ^ y.2).sum
theorem foldl_pow_cast : ∀ (l : List Nat) (t : Nat), ((l.foldl (fun t i => t + 2 ^ i) t : Nat) : Int) = t + (l.map fun i => (2 : Int) ^ i).sum
  | [], t => by simp
  | x :: l, t => by
    rw [List.foldl_cons, foldl_pow_cast l, List.map_cons, List.sum_cons]
    rw [Int.natCast_add, Int.natCast_pow]
    show (t : Int) + 2 ^ x + _ = _
    omega
theorem zipIdx_filter (c : Int → Bool) : ∀ (M : List Int) (k : Nat), ((M.zipIdx k).filter fun y => c y.1).map (fun y => (2 : Int) ^ y.2) = ((List.range' k M.length).filter fun i => c (M.getD (i - k) 0)).map fun i => (2 : Int) ^ i
  | [], k => rfl
  | x :: M, k => by
    rw [List.zipIdx_cons, List.length_cons, List.range'_succ, List.filter_cons, List.filter_cons]
    have e : ((List.range' (k + 1) M.length).filter fun i => c ((x :: M).getD (i - k) 0)) = ((List.range' (k + 1) M.length).filter fun i => c (M.getD (i - (k + 1)) 0)) := by
      apply List.filter_congr
      intro i hi
      have := (List.mem_range'_1.mp hi).1
      rw [show i - k = (i - (k + 1)) + 1 by omega]
      rfl
    rw [e]
    have ih := zipIdx_filter c M (k + 1)
    have e0 : (x :: M).getD (k - k) 0 = x := by rw [Nat.sub_self]; rfl
    rw [e0]
    by_cases h : c x = true
    · simp only [h, if_true, List.map_cons]; rw [ih]
    · simp only [h]; exact ih
theorem where_sp {n T : Nat} (hT : 0 < T) {A B : List Int} (hA : A.length = n) (hB : B.length = n) :
    ((Sr80.where_ n (sp T A) (sp T B) : Nat) : Int) = setNo (surplus A B) := by
  unfold Sr80.where_ setNo
  rw [foldl_pow_cast, zipIdx_filter (fun z => decide (z > 0)), surplus_len hA hB, ← List.range_eq_range']
  rw [show ((0 : Nat) : Int) = 0 from rfl, Int.zero_add]
  congr 2
  apply List.filter_congr
  intro i _
  rw [cAt_sp, cAt_sp, less_fr hT, Nat.sub_zero, surplus_at i (by omega)]
  exact decide_eq_decide.mpr (by omega)
/-! ### the best plan -/
/-- what is added on the diagonal, point by point -/
def diag (A B : List Int) (k : Nat) (P : List (List Int)) : List (List Int) := (List.range k).foldl (fun P i => P.set i ((P.getD i []).set i ((P.getD i []).getD i 0 + min (A.getD i 0) (B.getD i 0)))) P
theorem diag_succ (A B : List Int) (k : Nat) (P : List (List Int)) : diag A B (k + 1) P = (diag A B k P).set k (((diag A B k P).getD k []).set k (((diag A B k P).getD k []).getD k 0 + min (A.getD k 0) (B.getD k 0))) := by
  unfold diag; rw [List.range_succ, List.foldl_append]; rfl
def Sq (n : Nat) (P : List (List Int)) : Prop := P.length = n ∧ ∀ i, i < n → (P.getD i []).length = n
theorem diag_sq {n : Nat} (A B : List Int) : ∀ (k : Nat) (P : List (List Int)), Sq n P → Sq n (diag A B k P)
  | 0, P, h => h
  | k + 1, P, h => by
    have ih := diag_sq A B k P h
    rw [diag_succ]
    refine ⟨by rw [List.length_set]; exact ih.1, fun i hi => ?_⟩
    rw [getD_set]
    split
    · rename_i c
      obtain ⟨c, _⟩ := c
      subst c
      rw [List.length_set]; exact ih.2 k hi
    · exact ih.2 i hi
theorem diag_at {n : Nat} (A B : List Int) {P : List (List Int)} (h : Sq n P) : ∀ (k : Nat), k ≤ n → ∀ i j, ((diag A B k P).getD i []).getD j 0 = ((P.getD i []).getD j 0) + (if i = j ∧ i < k then min (A.getD i 0) (B.getD i 0) else 0)
  | 0, _, i, j => by simp [diag]
  | k + 1, hk, i, j => by
    have ih := diag_at A B h k (by omega)
    have hs := diag_sq A B k P h
    rw [diag_succ, getD_set]
    by_cases c : k = i
    · subst c
      rw [if_pos ⟨rfl, by rw [hs.1]; omega⟩, getD_set, hs.2 k (by omega)]
      by_cases d : k = j
      · subst d
        rw [if_pos ⟨rfl, by omega⟩, ih k k, if_neg (by omega), if_pos (by omega)]
        omega
      · rw [if_neg (by omega), ih k j, if_neg (by omega), if_neg (by omega)]
    · rw [if_neg (by omega), ih i j]
      congr 1
      by_cases d : i = j ∧ i < k
      · rw [if_pos d, if_pos ⟨d.1, by omega⟩]
      · rw [if_neg d, if_neg (by omega)]
def bestZ (A B : List Int) : List (List Int) := diag A B A.length (planNW (surplus A B) (surplus B A))
theorem planNW_sq {n : Nat} {A B : List Int} (hA : A.length = n) (hB : B.length = n) : Sq n (planNW A B) := by
  refine ⟨by rw [planNW_len, hA], fun i hi => ?_⟩
  have hl : i < (planNW A B).length := by rw [planNW_len, hA]; exact hi
  have e : (planNW A B).getD i [] = (planNW A B)[i] := by
    rw [List.getD_eq_getElem?_getD, List.getElem?_eq_getElem hl]; rfl
  rw [e, planNW_rows A B _ (List.getElem_mem hl), hB]
theorem bestZ_sq {n : Nat} {A B : List Int} (hA : A.length = n) (hB : B.length = n) : Sq n (bestZ A B) :=
  diag_sq A B _ _ (planNW_sq (surplus_len hA hB) (surplus_len hB hA))
theorem ext_sq {n T : Nat} {P : List (List Int)} (h : Sq n P) : P.map (sp T) = (List.range n).map fun i => (List.range n).map fun j => frac ((P.getD i []).getD j 0) T := by
  apply ext_getD ([] : List Frac) (n := n)
  · rw [List.length_map, h.1]
  · rw [List.length_map, List.length_range]
  · intro i hi
    rw [getD_range _ _ hi, show (P.map (sp T)).getD i [] = sp T (P.getD i []) from getD_map (sp T) [] P i]
    apply ext_getD zero (n := n)
    · rw [sp_length, h.2 i hi]
    · rw [List.length_map, List.length_range]
    · intro j hj
      rw [getD_range _ _ hj]
      exact cAt_sp T _ j
theorem sum_rs_sub {n : Nat} {A B : List Int} (hA : A.length = n) (hB : B.length = n) (hs : A.sum = B.sum) : (surplus A B).sum = (surplus B A).sum := by
  rw [sum_eq_rs (surplus_len hA hB), sum_eq_rs (surplus_len hB hA)]
  have e1 := sum_eq_rs hA
  have e2 := sum_eq_rs hB
  have h : rs n (fun i => (surplus A B).getD i 0 + B.getD i 0) = rs n (fun i => (surplus B A).getD i 0 + A.getD i 0) := by
    apply rs_congr
    intro i _
    rw [surplus_at i (by omega), surplus_at i (by omega)]
    omega
  rw [rs_add, rs_add] at h
  omega
theorem best_sp {n T : Nat} (hT : 0 < T) {A B : List Int} (hA : A.length = n) (hB : B.length = n) (hs : A.sum = B.sum) :
    Sr80.best n (sp T A) (sp T B) = (bestZ A B).map (sp T) := by
  have hS1 := surplus_len hA hB
  have hS2 := surplus_len hB hA
  unfold Sr80.best
  have e0 : ((List.range n).map fun i => least (cAt (sp T A) i) (cAt (sp T B) i)) = sp T ((List.range n).map fun i => min (A.getD i 0) (B.getD i 0)) := by
    unfold sp
    rw [List.map_map]
    apply List.map_congr_left
    intro i _
    show least (cAt (sp T A) i) (cAt (sp T B) i) = frac (min (A.getD i 0) (B.getD i 0)) T
    rw [cAt_sp, cAt_sp, least_fr hT]
  simp only [e0]
  have e1 : ∀ (X Y : List Int), X.length = n → Y.length = n → (∀ i, min (A.getD i 0) (B.getD i 0) = min (X.getD i 0) (Y.getD i 0)) → ((List.range n).map fun i => minus (cAt (sp T X) i) (cAt (sp T ((List.range n).map fun i => min (A.getD i 0) (B.getD i 0))) i)) = sp T (surplus X Y) := by
    intro X Y hX hY hm
    apply ext_getD zero (n := n)
    · rw [List.length_map, List.length_range]
    · rw [sp_length, surplus_len hX hY]
    · intro i hi
      rw [getD_range _ _ hi, cAt_sp, cAt_sp, minus_fr, getD_range _ _ hi]
      have := cAt_sp T (surplus X Y) i
      unfold cAt at this
      rw [this, surplus_at i (by omega)]
      congr 1
      have := hm i
      omega
  rw [e1 A B hA hB (fun i => rfl), e1 B A hB hA (fun i => by omega)]
  rw [greedy_sp hT hS1 hS2 (fun i => by rw [surplus_at i (by omega)]; omega) (fun i => by rw [surplus_at i (by omega)]; omega) (sum_rs_sub hA hB hs)]
  rw [ext_sq (bestZ_sq hA hB)]
  apply List.map_congr_left
  intro i hi
  have hi := List.mem_range.mp hi
  apply List.map_congr_left
  intro j hj
  have hj := List.mem_range.mp hj
  rw [pAt_sp, cAt_sp, getD_range _ _ hi, plus_fr]
  have e := diag_at A B (planNW_sq hS1 hS2) n (Nat.le_refl _) i j
  unfold bestZ
  rw [hA, e]
  by_cases c : i = j
  · rw [if_pos c, if_pos ⟨c, hi⟩]; congr 1; omega
  · rw [if_neg c, if_neg (fun h => c h.1)]; congr 1; omega
/-! ### how often a plan differs -/
def differZ (P : List (List Int)) : Int := (P.zipIdx.map fun y => y.1.sum - y.1.getD y.2 0).sum
theorem zipIdx_map {α β : Type} (f : α → Nat → β) (d : α) : ∀ (P : List α) (k : Nat), (P.zipIdx k).map (fun y => f y.1 y.2) = (List.range' k P.length).map fun i => f (P.getD (i - k) d) i
  | [], k => rfl
  | x :: P, k => by
    rw [List.zipIdx_cons, List.map_cons, List.length_cons, List.range'_succ, List.map_cons, zipIdx_map f d P (k + 1)]
    congr 1
    · rw [Nat.sub_self]; rfl
    · apply List.map_congr_left
      intro i hi
      have := (List.mem_range'_1.mp hi).1
      rw [show i - k = (i - (k + 1)) + 1 by omega]
      rfl
theorem differZ_rs {n : Nat} {P : List (List Int)} (h : P.length = n) : differZ P = rs n fun i => (P.getD i []).sum - (P.getD i []).getD i 0 := by
  unfold differZ rs
  rw [zipIdx_map (fun (r : List Int) i => r.sum - r.getD i 0) [], h, ← List.range_eq_range']
  rfl
theorem sum_filter_ne {n : Nat} (i : Nat) (f : Nat → Int) : (((List.range n).filter fun j => decide (i ≠ j)).map f).sum = rs n f - (if i < n then f i else 0) := by
  induction n with
  | zero => rfl
  | succ n ih =>
    rw [rs_succ, List.range_succ, List.filter_append, List.map_append, List.sum_append, ih]
    by_cases c : i = n
    · subst c
      rw [if_neg (by omega), if_pos (by omega)]
      simp
    · have : ([n].filter fun j => decide (i ≠ j)) = [n] := by simp [c]
      rw [this]
      by_cases d : i < n
      · rw [if_pos d, if_pos (by omega)]; simp; omega
      · rw [if_neg d, if_neg (by omega)]; simp
theorem sum_flatMap {α : Type} (l : List α) (f : α → List Int) : (l.flatMap f).sum = (l.map fun x => (f x).sum).sum := by
  induction l with
  | nil => rfl
  | cons x l ih => rw [List.flatMap_cons, List.sum_append, List.map_cons, List.sum_cons, ih]
theorem differs_sp {n T : Nat} {P : List (List Int)} (h : Sq n P) : Sr80.differs n (P.map (sp T)) = frac (differZ P) T := by
  unfold Sr80.differs
  have e : ((List.range n).flatMap fun i => ((List.range n).filter fun j => decide (i ≠ j)).map fun j => pAt (P.map (sp T)) i j) = sp T ((List.range n).flatMap fun i => ((List.range n).filter fun j => decide (i ≠ j)).map fun j => (P.getD i []).getD j 0) := by
    unfold sp
    rw [List.map_flatMap]
    congr 1
    funext i
    rw [List.map_map]
    apply List.map_congr_left
    intro j _
    exact pAt_sp T P i j
  rw [e, total_sp, sum_flatMap, differZ_rs h.1]
  congr 1
  apply rs_congr
  intro i hi
  show (((List.range n).filter fun j => decide (i ≠ j)).map fun j => (P.getD i []).getD j 0).sum = _
  rw [sum_filter_ne, if_pos hi, sum_eq_rs (h.2 i hi)]
/-! ### a plan that is tested -/
def rowsZ (n : Nat) (p : List Int) : List (List Int) := (List.range n).map fun i => (List.range n).map fun j => p.getD (i * n + j) 0
theorem rowsZ_sq (n : Nat) (p : List Int) : Sq n (rowsZ n p) := by
  refine ⟨by unfold rowsZ; rw [List.length_map, List.length_range], fun i hi => ?_⟩
  unfold rowsZ
  rw [getD_range _ _ hi, List.length_map, List.length_range]
theorem readPlan_sp (n : Nat) (e : Int) (p : List Int) : Sr80.readPlan n e p = (rowsZ n p).map (sp e.toNat) := by
  unfold Sr80.readPlan rowsZ sp
  rw [List.map_map]
  apply List.map_congr_left
  intro i _
  show _ = ((List.range n).map fun j => p.getD (i * n + j) 0).map _
  rw [List.map_map]
  rfl
theorem frac_nonneg {E : Nat} (hE : 0 < E) (z : Int) : 0 ≤ (frac z E).n ↔ 0 ≤ z := by
  have h : (frac z E).n = (mkRat z E).num := by rw [frac_tf]; rfl
  rw [h, Rat.num_nonneg, Rat.mkRat_eq_div]
  have := pt_le hE 0 z
  rw [pt_zero] at this
  exact this
def colZ (P : List (List Int)) (j : Nat) : Int := (P.map fun r => r.getD j 0).sum
def isPlanZ (n T E : Nat) (A B : List Int) (P : List (List Int)) : Bool := P.all (fun r => r.all fun x => decide (0 ≤ x)) && ((List.range n).all (fun i => decide ((P.getD i []).sum * T = A.getD i 0 * E)) && (List.range n).all fun j => decide (colZ P j * T = B.getD j 0 * E))
theorem all_congr_mem {α : Type} {f g : α → Bool} : ∀ {l : List α}, (∀ x ∈ l, f x = g x) → l.all f = l.all g
  | [], _ => rfl
  | x :: l, h => by
    rw [List.all_cons, List.all_cons, h x List.mem_cons_self, all_congr_mem fun y hy => h y (List.mem_cons_of_mem _ hy)]
theorem beq_fr {S T : Nat} (hS : 0 < S) (hT : 0 < T) (x y : Int) : (frac x S == frac y T) = decide (x * T = y * S) := by
  have := fr_cross hS hT x y
  by_cases c : x * T = y * S
  · rw [this.mpr c]; simp [c]
  · have d : frac x S ≠ frac y T := fun e => c (this.mp e)
    simp [c, d]
theorem isPlan_sp {n T E : Nat} (hT : 0 < T) (hE : 0 < E) {A B : List Int} {P : List (List Int)} (h : Sq n P) :
    Sr80.isPlan n (sp T A) (sp T B) (P.map (sp E)) = isPlanZ n T E A B P := by
  unfold Sr80.isPlan isPlanZ
  have e1 : decide ((P.map (sp E)).length = n) = true := by rw [List.length_map, h.1]; simp
  rw [e1, Bool.true_and]
  have hr : ∀ r ∈ P, r.length = n := by
    intro r hr
    obtain ⟨i, hi, e⟩ := List.getElem_of_mem hr
    have := h.2 i (by rw [← h.1]; exact hi)
    rw [List.getD_eq_getElem?_getD, List.getElem?_eq_getElem hi] at this
    rw [← e]; exact this
  have a1 : ((P.map (sp E)).all fun r => decide (r.length = n) && r.all fun x => decide (0 ≤ x.n)) = P.all (fun r => r.all fun x => decide (0 ≤ x)) := by
    rw [List.all_map]
    apply all_congr_mem
    intro r hrm
    show (decide ((sp E r).length = n) && (sp E r).all fun x => decide (0 ≤ x.n)) = _
    rw [sp_length, hr r hrm]
    simp only [decide_true, Bool.true_and]
    unfold sp
    rw [List.all_map]
    apply all_congr_mem
    intro x _
    exact decide_eq_decide.mpr (frac_nonneg hE x)
  have a2 : ((List.range n).all fun i => Sr80.rowSum (P.map (sp E)) i == cAt (sp T A) i) = (List.range n).all fun i => decide ((P.getD i []).sum * T = A.getD i 0 * E) := by
    apply all_congr_mem
    intro i _
    unfold Sr80.rowSum
    rw [show (P.map (sp E)).getD i [] = sp E (P.getD i []) from getD_map (sp E) [] P i, total_sp, cAt_sp, beq_fr hE hT]
  have a3 : ((List.range n).all fun j => Sr80.colSum (P.map (sp E)) j == cAt (sp T B) j) = (List.range n).all fun j => decide (colZ P j * T = B.getD j 0 * E) := by
    apply all_congr_mem
    intro j _
    unfold Sr80.colSum colZ
    have e : total (P.map ((fun r => r.getD j zero) ∘ sp E)) = frac (P.map fun r => r.getD j 0).sum E := total_of E P (fun r => cAt (sp E r) j) (fun r => r.getD j 0) (fun r _ => cAt_sp E r j)
    rw [List.map_map, e, cAt_sp, beq_fr hE hT]
  rw [a1, a2, a3]
end TT

namespace TT
def leftNW : List Int → List Int → List Int
  | [], l => l
  | x :: xs, l => leftNW xs (rowNW x l).2
theorem leftNW_len : ∀ (xs l : List Int), (leftNW xs l).length = l.length
  | [], l => rfl
  | x :: xs, l => by
    show (leftNW xs _).length = _
    rw [leftNW_len xs, rowNW_len2]
theorem planNW_snoc : ∀ (xs l : List Int) (x : Int), planNW (xs ++ [x]) l = planNW xs l ++ [(rowNW x (leftNW xs l)).1]
  | [], l, x => rfl
  | y :: xs, l, x => by
    show _ :: planNW (xs ++ [x]) _ = _ :: planNW xs _ ++ _
    rw [planNW_snoc xs]; rfl
theorem leftNW_snoc : ∀ (xs l : List Int) (x : Int), leftNW (xs ++ [x]) l = (rowNW x (leftNW xs l)).2
  | [], l, x => rfl
  | y :: xs, l, x => by
    show leftNW (xs ++ [x]) _ = _
    rw [leftNW_snoc xs]; rfl
theorem rowNW_snoc : ∀ (l : List Int) (r y : Int), rowNW r (l ++ [y]) = ((rowNW r l).1 ++ [min (r - (rowNW r l).1.sum) y], (rowNW r l).2 ++ [y - min (r - (rowNW r l).1.sum) y])
  | [], r, y => by simp [rowNW]
  | z :: l, r, y => by
    have ih := rowNW_snoc l (r - min r z) y
    have e : r - min r z - (rowNW (r - min r z) l).1.sum = r - (min r z + (rowNW (r - min r z) l).1.sum) := by omega
    show (min r z :: (rowNW (r - min r z) (l ++ [y])).1, (z - min r z) :: (rowNW (r - min r z) (l ++ [y])).2) = (min r z :: (rowNW (r - min r z) l).1 ++ [min (r - (min r z + (rowNW (r - min r z) l).1.sum)) y], (z - min r z) :: (rowNW (r - min r z) l).2 ++ [y - min (r - (min r z + (rowNW (r - min r z) l).1.sum)) y])
    rw [ih, e]; rfl
end TT

namespace TT
open Sr58 (Frac frac plus times less whole total)
open Sr66 (minus over zero neg)
open Sr80 (least cAt pAt inSet ofSet)
/-! ### image -/
def imageZ (n : Nat) (W : List Int) (f : List Nat) : List Int := (List.range n).map fun j => rs n fun i => if f.getD i 0 = j then W.getD i 0 else 0
theorem image_sp (n T : Nat) (W : List Int) (f : List Nat) : Sr80.image n (sp T W) f = sp T (imageZ n W f) := by
  unfold Sr80.image imageZ sp
  rw [List.map_map]
  apply List.map_congr_left
  intro j _
  show total _ = frac (rs n _) T
  unfold rs
  apply total_of
  intro i _
  by_cases c : f.getD i 0 = j
  · rw [if_pos c, if_pos c]; exact cAt_sp T W i
  · rw [if_neg c, if_neg c]; exact zero_fr T
theorem rs_swap (n m : Nat) (f : Nat → Nat → Int) : (rs n fun i => rs m fun j => f i j) = rs m fun j => rs n fun i => f i j := by
  induction n with
  | zero =>
    rw [show (rs m fun j => rs 0 fun i => f i j) = rs m fun _ => 0 from rfl, rs_zero]; rfl
  | succ n ih =>
    rw [rs_succ, ih]
    have : (fun j => rs (n + 1) fun i => f i j) = fun j => (rs n fun i => f i j) + f n j := by funext j; rw [rs_succ]
    rw [this, rs_add]
theorem rs_one {n k : Nat} (h : k < n) (x : Int) : (rs n fun j => if k = j then x else 0) = x := by
  induction n with
  | zero => omega
  | succ n ih =>
    rw [rs_succ]
    by_cases c : k = n
    · subst c
      have : (rs k fun j => if k = j then x else 0) = rs k fun _ => 0 := rs_congr fun i hi => by rw [if_neg (by omega)]
      rw [this, rs_zero, if_pos rfl]; omega
    · rw [ih (by omega), if_neg c]; omega
theorem imageZ_len (n : Nat) (W : List Int) (f : List Nat) : (imageZ n W f).length = n := by
  unfold imageZ; rw [List.length_map, List.length_range]
theorem imageZ_sum {n : Nat} {W : List Int} {f : List Nat} (hW : W.length = n) (hf : ∀ i, i < n → f.getD i 0 < n) : (imageZ n W f).sum = W.sum := by
  rw [sum_eq_rs (imageZ_len n W f), sum_eq_rs hW]
  have e : rs n (fun j => (imageZ n W f).getD j 0) = rs n fun j => rs n fun i => if f.getD i 0 = j then W.getD i 0 else 0 := rs_congr fun j hj => by
    unfold imageZ; rw [getD_range _ _ hj]
  rw [e, rs_swap]
  exact rs_congr fun i hi => rs_one (hf i hi) _
/-! ### mixtures -/
def mixZ (n : Nat) (S T : Nat) (A B : List Int) (x y : Int) : List Int := (List.range n).map fun i => x * (A.getD i 0 * T) + (y - x) * (B.getD i 0 * S)
theorem times_fr {S T : Nat} (x y : Int) : times (frac x S) (frac y T) = frac (x * y) (S * T) := by
  rw [frac_tf, frac_tf, frac_tf, times_tf, Rat.mkRat_mul_mkRat]
theorem mixed_sp {n S T : Nat} (hS : 0 < S) (hT : 0 < T) {A B : List Int} {x y : Int} (hy : 0 < y) :
    Sr80.mixed n (sp S A) (sp T B) (frac x y.toNat) = sp (y.toNat * (S * T)) (mixZ n S T A B x y) := by
  unfold Sr80.mixed mixZ sp
  rw [List.map_map]
  apply List.map_congr_left
  intro i _
  show plus (times (frac x y.toNat) (cAt (sp S A) i)) (times (minus (whole 1) (frac x y.toNat)) (cAt (sp T B) i)) = frac (x * (A.getD i 0 * T) + (y - x) * (B.getD i 0 * S)) (y.toNat * (S * T))
  rw [cAt_sp, cAt_sp]
  have e1 : whole 1 = frac y y.toNat := by
    rw [whole_tf, frac_tf, Rat.mkRat_eq_div]
    have e : ((y.toNat : Nat) : Int) = y := by omega
    have h0 : ((y.toNat : Nat) : Rat) = (y : Rat) := by
      show (((y.toNat : Nat) : Int) : Rat) = _
      rw [e]
    rw [h0]
    have : (y : Rat) ≠ 0 := by
      intro z
      have z2 : (y : Rat) = ((0 : Int) : Rat) := z
      rw [Rat.intCast_inj] at z2
      omega
    congr 1
    show ((1 : Int) : Rat) = _
    have : (y : Rat) / (y : Rat) = 1 := by grind
    rw [this]; rfl
  have h1 : frac (A.getD i 0) S = frac (A.getD i 0 * T) (S * T) := (fr_scale hT _).symm
  have h2 : frac (B.getD i 0) T = frac (B.getD i 0 * S) (S * T) := by rw [Nat.mul_comm]; exact (fr_scale hS _).symm
  rw [e1, minus_fr, h1, h2, times_fr, times_fr, plus_fr]
/-! ### the same spread -/
theorem sp_inj {T : Nat} (hT : 0 < T) : ∀ {A B : List Int}, sp T A = sp T B → A = B
  | [], [], _ => rfl
  | [], _ :: _, h => by cases h
  | _ :: _, [], h => by cases h
  | a :: A, b :: B, h => by
    have h1 := (List.cons.inj h).1
    have h2 : sp T A = sp T B := (List.cons.inj h).2
    rw [(fr_inj hT).mp h1, sp_inj hT h2]
/-! ### a plan behind another one -/
/-- the rational numbers of rows of whole numbers -/
def rAt (T : Nat) (P : List (List Int)) (i j : Nat) : Rat := pt T ((P.getD i []).getD j 0)
theorem pAt_tf (T : Nat) (P : List (List Int)) (i j : Nat) : pAt (P.map (sp T)) i j = tf (rAt T P i j) := by
  rw [pAt_sp, frac_pt]; rfl
theorem num_zero {T : Nat} (hT : 0 < T) (x : Int) : (frac x T).n = 0 ↔ x = 0 := by
  have e : (frac x T).n = (mkRat x T).num := by rw [frac_tf]; rfl
  rw [e, Rat.num_eq_zero, Rat.mkRat_eq_div]
  have := pt_inj hT x 0
  rw [pt_zero] at this
  exact this
/-- one of its numbers -/
def behR (n SP SQ SB : Nat) (Pm Qm : List (List Int)) (B : List Int) (i k : Nat) : Rat := rsum ((List.range n).map fun j => if B.getD j 0 = 0 then 0 else rAt SP Pm i j * rAt SQ Qm j k / pt SB (B.getD j 0))
theorem behind_tf {n SP SQ SB : Nat} (hSB : 0 < SB) (Pm Qm : List (List Int)) (B : List Int) :
    Sr80.behind n (sp SB B) (Pm.map (sp SP)) (Qm.map (sp SQ)) = (List.range n).map fun i => (List.range n).map fun k => tf (behR n SP SQ SB Pm Qm B i k) := by
  unfold Sr80.behind
  apply List.map_congr_left
  intro i _
  apply List.map_congr_left
  intro k _
  unfold behR
  rw [← total_tf, List.map_map]
  congr 1
  apply List.map_congr_left
  intro j _
  show (if (cAt (sp SB B) j).n = 0 then zero else over (times (pAt (Pm.map (sp SP)) i j) (pAt (Qm.map (sp SQ)) j k)) (cAt (sp SB B) j)) = tf (if B.getD j 0 = 0 then 0 else rAt SP Pm i j * rAt SQ Qm j k / pt SB (B.getD j 0))
  rw [cAt_sp, pAt_tf, pAt_tf, times_tf]
  by_cases c : B.getD j 0 = 0
  · rw [if_pos ((num_zero hSB _).mpr c), if_pos c]; rfl
  · rw [if_neg (fun z => c ((num_zero hSB _).mp z)), if_neg c, frac_pt, over_tf]
theorem rsum_of {L n : Nat} {f : Nat → Rat} {g : Nat → Int} (h : ∀ j, j < n → f j = pt L (g j)) : rsum ((List.range n).map f) = pt L (rs n g) := by
  unfold rs
  rw [← rsum_pt, List.map_map]
  congr 1
  apply List.map_congr_left
  intro j hj
  exact h j (List.mem_range.mp hj)
theorem beh_term {SP SQ SB M : Nat} (h1 : 0 < SP) (h2 : 0 < SQ) (h3 : 0 < SB) (h4 : 0 < M) {p q b m : Int} (hb : b ≠ 0) (hm : b * m = M) : pt SP p * pt SQ q / pt SB b = pt (SP * SQ * M) (p * q * SB * m) := by
  unfold pt
  have c1 := castN_pos h1
  have c2 := castN_pos h2
  have c3 := castN_pos h3
  have c4 := castN_pos h4
  have e1 : ((SP * SQ * M : Nat) : Rat) = (SP : Rat) * (SQ : Rat) * (M : Rat) := by rw [Rat.natCast_mul, Rat.natCast_mul]
  have e2 : ((p * q * (SB : Int) * m : Int) : Rat) = (p : Rat) * (q : Rat) * (SB : Rat) * (m : Rat) := by
    rw [Rat.intCast_mul, Rat.intCast_mul, Rat.intCast_mul]; rfl
  have e3 : (b : Rat) * (m : Rat) = (M : Rat) := by
    rw [← Rat.intCast_mul, hm]; rfl
  have e4 : (b : Rat) ≠ 0 := by
    intro z
    have z2 : (b : Rat) = ((0 : Int) : Rat) := z
    rw [Rat.intCast_inj] at z2
    exact hb z2
  rw [e1, e2, ← e3]
  have e5 : (m : Rat) ≠ 0 := by
    intro z
    rw [z] at e3
    grind
  generalize (b : Rat) = b' at *
  generalize (m : Rat) = m' at *
  generalize (p : Rat) = p' at *
  generalize (q : Rat) = q' at *
  generalize (SP : Rat) = s1 at *
  generalize (SQ : Rat) = s2 at *
  generalize (SB : Rat) = s3 at *
  grind
/-- by a common multiple of the chances between -/
theorem behR_common {n SP SQ SB M : Nat} (h1 : 0 < SP) (h2 : 0 < SQ) (h3 : 0 < SB) (h4 : 0 < M) (Pm Qm : List (List Int)) (B : List Int) (m : Nat → Int) (hm : ∀ j, j < n → B.getD j 0 ≠ 0 → B.getD j 0 * m j = M) (i k : Nat) :
    behR n SP SQ SB Pm Qm B i k = pt (SP * SQ * M) (rs n fun j => if B.getD j 0 = 0 then 0 else (Pm.getD i []).getD j 0 * (Qm.getD j []).getD k 0 * SB * m j) := by
  unfold behR
  apply rsum_of
  intro j hj
  by_cases c : B.getD j 0 = 0
  · rw [if_pos c, if_pos c, pt_zero]
  · rw [if_neg c, if_neg c]
    exact beh_term h1 h2 h3 h4 c (hm j hj c)
end TT

namespace TT
open Sr58 (Frac frac plus times less whole total)
open Sr66 (minus over zero neg)
open Sr80 (least cAt pAt inSet ofSet)
/-! ### a spread's weights -/
def Wt (n : Nat) (w : List Int) : Prop := w.length = n ∧ (∀ x ∈ w, 0 ≤ x) ∧ 0 < w.sum ∧ w.sum.natAbs < 2 ^ 600
def spOf (w : List Int) : List Frac := sp w.sum.toNat w
theorem sp_scale {k : Int} (hk : 0 < k) {S : Int} (hS : 0 < S) (A : List Int) : sp (S * k).toNat (A.map (· * k)) = sp S.toNat A := by
  unfold sp
  rw [List.map_map]
  apply List.map_congr_left
  intro x _
  have e1 : (S * k).toNat = S.toNat * k.toNat := Int.toNat_mul (by omega) (by omega)
  have e2 : k = (k.toNat : Int) := by omega
  show frac (x * k) (S * k).toNat = frac x S.toNat
  rw [e1]
  conv => lhs; rw [e2]
  rw [Int.toNat_natCast]
  exact fr_scale (by omega) x
theorem sum_mul (l : List Int) (k : Int) : (l.map (· * k)).sum = l.sum * k := by
  induction l with
  | nil => simp
  | cons x l ih => rw [List.map_cons, List.sum_cons, List.sum_cons, ih, Int.add_mul]
theorem sum_nonneg : ∀ (l : List Int), (∀ x ∈ l, 0 ≤ x) → 0 ≤ l.sum
  | [], _ => Int.le_refl _
  | x :: l, h => by
    have := sum_nonneg l fun y hy => h y (List.mem_cons_of_mem _ hy)
    have := h x List.mem_cons_self
    rw [List.sum_cons]; omega
/-! ### in weights with nothing in common -/
def gAll (c : Nat) (w : List Int) : Nat := w.foldl (fun c x => Nat.gcd x.natAbs c) c
theorem gAll_snoc (c : Nat) (w : List Int) (x : Int) : gAll c (w ++ [x]) = Nat.gcd x.natAbs (gAll c w) := by
  unfold gAll; rw [List.foldl_append]; rfl
theorem gAll_pos : ∀ (w : List Int) {c : Nat}, 0 < c → 0 < gAll c w
  | [], _, h => h
  | x :: w, c, h => gAll_pos w (c := Nat.gcd x.natAbs c) (Nat.gcd_pos_of_pos_right _ h)
theorem gAll_dvd_c : ∀ (w : List Int) (c : Nat), gAll c w ∣ c
  | [], c => Nat.dvd_refl c
  | x :: w, c => Nat.dvd_trans (gAll_dvd_c w (Nat.gcd x.natAbs c)) (Nat.gcd_dvd_right _ _)
theorem gAll_dvd : ∀ (w : List Int) (c : Nat) (x : Int), x ∈ w → gAll c w ∣ x.natAbs
  | y :: w, c, x, h => by
    rcases List.mem_cons.mp h with rfl | h
    · exact Nat.dvd_trans (gAll_dvd_c w (Nat.gcd x.natAbs c)) (Nat.gcd_dvd_left _ _)
    · exact gAll_dvd w _ x h
theorem gAll_lin {S D : Nat} : ∀ (w : List Int) (c : Nat), S ∣ D * c → (∀ x ∈ w, S ∣ D * x.natAbs) → S ∣ D * gAll c w
  | [], c, h, _ => h
  | x :: w, c, h, hw => by
    refine gAll_lin w (Nat.gcd x.natAbs c) ?_ fun y hy => hw y (List.mem_cons_of_mem _ hy)
    rw [← Nat.gcd_mul_left]
    exact Nat.dvd_gcd (hw x List.mem_cons_self) h
theorem gAll_le (w : List Int) {c : Nat} (h : 0 < c) : gAll c w ≤ c := Nat.le_of_dvd h (gAll_dvd_c w c)
def gOf (w : List Int) : Int := (gAll w.sum.toNat w : Nat)
def leastZ (w : List Int) : List Int := w.map (· / gOf w)
theorem gOf_pos {w : List Int} (hs : 0 < w.sum) : 0 < gOf w := by
  have := gAll_pos w (c := w.sum.toNat) (by omega)
  unfold gOf; omega
theorem gOf_dvd (w : List Int) : ∀ x ∈ w, gOf w ∣ x := fun x hx => Int.ofNat_dvd_left.mpr (gAll_dvd w _ x hx)
theorem leastZ_mul (w : List Int) : (leastZ w).map (· * gOf w) = w := by
  unfold leastZ
  rw [List.map_map]
  have : w.map ((fun x => x * gOf w) ∘ fun x => x / gOf w) = w.map id := List.map_congr_left fun x hx => Int.ediv_mul_cancel (gOf_dvd w x hx)
  rw [this, List.map_id]
theorem leastZ_sum (w : List Int) : (leastZ w).sum * gOf w = w.sum := by
  have := sum_mul (leastZ w) (gOf w)
  rw [leastZ_mul] at this
  exact this.symm
theorem leastZ_pos {w : List Int} (h : ∀ x ∈ w, 0 ≤ x) (hs : 0 < w.sum) : ∀ x ∈ leastZ w, 0 ≤ x := by
  intro x hx
  obtain ⟨y, hy, rfl⟩ := List.mem_map.mp hx
  exact Int.ediv_nonneg (h y hy) (by have := gOf_pos hs; omega)
theorem leastZ_sum_pos {w : List Int} (hs : 0 < w.sum) : 0 < (leastZ w).sum := by
  have h1 := leastZ_sum w
  have h2 := gOf_pos hs
  rcases Int.lt_trichotomy (leastZ w).sum 0 with c | c | c
  · have := Int.mul_neg_of_neg_of_pos c h2; omega
  · rw [c] at h1; omega
  · exact c
theorem leastZ_sum_le {w : List Int} (hs : 0 < w.sum) : (leastZ w).sum ≤ w.sum := by
  have h1 := leastZ_sum w
  have h2 := gOf_pos hs
  have h3 := leastZ_sum_pos hs
  have : (leastZ w).sum * 1 ≤ (leastZ w).sum * gOf w := Int.mul_le_mul_of_nonneg_left (by omega) (by omega)
  omega
theorem leastZ_len (w : List Int) : (leastZ w).length = w.length := List.length_map _
theorem leastZ_sp {w : List Int} (hs : 0 < w.sum) : spOf (leastZ w) = spOf w := by
  unfold spOf
  have := sp_scale (gOf_pos hs) (leastZ_sum_pos hs) (leastZ w)
  rw [leastZ_mul, leastZ_sum] at this
  exact this.symm
theorem leastZ_wt {n : Nat} {w : List Int} (h : Wt n w) : Wt n (leastZ w) :=
  ⟨(leastZ_len w).trans h.1, leastZ_pos h.2.1 h.2.2.1, leastZ_sum_pos h.2.2.1, by
    have h1 := leastZ_sum_pos h.2.2.1
    have h2 := leastZ_sum_le h.2.2.1
    have h3 := h.2.2.2
    exact Nat.lt_of_le_of_lt (by omega) h3⟩
/-! ### fine, but not too fine: how great the sum can be -/
def prodN : List Nat → Nat
  | [] => 1
  | x :: l => x * prodN l
theorem dvd_prodN : ∀ {l : List Nat} {x : Nat}, x ∈ l → x ∣ prodN l
  | y :: l, x, h => by
    rcases List.mem_cons.mp h with rfl | h
    · exact Nat.dvd_mul_right _ _
    · exact Nat.dvd_trans (dvd_prodN h) (Nat.dvd_mul_left _ _)
theorem prodN_le {m : Nat} : ∀ (l : List Nat), (∀ x ∈ l, x ≤ m) → prodN l ≤ m ^ l.length
  | [], _ => Nat.le_refl _
  | x :: l, h => by
    rw [List.length_cons, Nat.pow_succ, Nat.mul_comm]
    exact Nat.mul_le_mul (h x List.mem_cons_self) (prodN_le l fun y hy => h y (List.mem_cons_of_mem _ hy))
theorem prodN_pos : ∀ (l : List Nat), (∀ x ∈ l, 0 < x) → 0 < prodN l
  | [], _ => Nat.one_pos
  | x :: l, h => Nat.mul_pos (h x List.mem_cons_self) (prodN_pos l fun y hy => h y (List.mem_cons_of_mem _ hy))
/-- the lower number of x by T -/
def low (T x : Int) : Int := T / (Nat.gcd x.natAbs T.natAbs : Nat)
theorem low_nat {T : Int} (hT : 0 < T) (x : Int) : (low T x).toNat = T.toNat / Nat.gcd x.natAbs T.toNat := by
  unfold low
  have e : T.natAbs = T.toNat := by omega
  rw [e]
  have e2 : T = ((T.toNat : Nat) : Int) := by omega
  conv => lhs; rw [e2]
  rw [Int.toNat_natCast, ← Int.natCast_ediv, Int.toNat_natCast]
theorem low_pos {T : Int} (hT : 0 < T) (x : Int) : 0 < low T x := by
  unfold low
  have h1 : 0 < Nat.gcd x.natAbs T.natAbs := Nat.gcd_pos_of_pos_right _ (by omega)
  have h2 : Nat.gcd x.natAbs T.natAbs ≤ T.natAbs := Nat.gcd_le_right _ (by omega)
  have h3 : ((Nat.gcd x.natAbs T.natAbs : Nat) : Int) ∣ T := Int.ofNat_dvd_left.mpr (Nat.gcd_dvd_right _ _)
  exact Int.ediv_pos_of_pos_of_dvd hT (by omega) h3
theorem frac_d {T : Int} (hT : 0 < T) (x : Int) : ((frac x T.toNat).d : Int) = low T x := by
  have e : ((low T x).toNat : Int) = low T x := by have := low_pos hT x; omega
  rw [← e, low_nat hT]
  unfold frac
  have h1 : Nat.gcd x.natAbs T.toNat ≠ 0 := by
    intro h
    have := (Nat.gcd_eq_zero_iff.mp h).2
    omega
  have h2 : T.toNat / Nat.gcd x.natAbs T.toNat ≠ 0 := by
    have h3 : Nat.gcd x.natAbs T.toNat ≤ T.toNat := Nat.gcd_le_right _ (by omega)
    have := Nat.div_pos h3 (Nat.pos_of_ne_zero h1)
    omega
  simp only [if_neg h1, if_neg h2]
theorem least_bound {w : List Int} (hl : w.length ≤ 6) (hs : 0 < w.sum) (hf : ∀ x ∈ leastZ w, low (leastZ w).sum x < 10 ^ 30) : (leastZ w).sum.natAbs < 2 ^ 600 := by
  have hT := leastZ_sum_pos hs
  have hG := gOf_pos hs
  have hSG := leastZ_sum w
  generalize hAe : leastZ w = A at *
  have hlA : A.length = w.length := by rw [← hAe]; exact leastZ_len w
  let L := A.map fun x => (low A.sum x).toNat
  have hD : ∀ x ∈ A, A.sum.toNat ∣ prodN L * x.natAbs := by
    intro x hx
    have h1 : (low A.sum x).toNat ∣ prodN L := dvd_prodN (List.mem_map.mpr ⟨x, hx, rfl⟩)
    refine Nat.dvd_trans ?_ (Nat.mul_dvd_mul_right h1 x.natAbs)
    rw [low_nat hT]
    have h2 : Nat.gcd x.natAbs A.sum.toNat ∣ A.sum.toNat := Nat.gcd_dvd_right _ _
    have h3 : Nat.gcd x.natAbs A.sum.toNat ∣ x.natAbs := Nat.gcd_dvd_left _ _
    obtain ⟨k, hk⟩ := h3
    refine ⟨k, ?_⟩
    have e : A.sum.toNat / Nat.gcd x.natAbs A.sum.toNat * x.natAbs = A.sum.toNat / Nat.gcd x.natAbs A.sum.toNat * (Nat.gcd x.natAbs A.sum.toNat * k) := congrArg _ hk
    rw [e, ← Nat.mul_assoc, Nat.div_mul_cancel h2]
  have hGn : gOf w = ((gAll w.sum.toNat w : Nat) : Int) := rfl
  have hS : w.sum.toNat = A.sum.toNat * gAll w.sum.toNat w := by
    have e : (gOf w).toNat = gAll w.sum.toNat w := by rw [hGn, Int.toNat_natCast]
    conv => lhs; rw [← hSG]
    rw [Int.toNat_mul (by omega) (by omega), e]
  have hlin : w.sum.toNat ∣ prodN L * gAll w.sum.toNat w := by
    refine gAll_lin w _ (Nat.dvd_mul_left _ _) fun x hx => ?_
    have hxA : x / gOf w ∈ A := by rw [← hAe]; exact List.mem_map.mpr ⟨x, hx, rfl⟩
    obtain ⟨k, hk⟩ := hD _ hxA
    have e : x.natAbs = (x / gOf w).natAbs * gAll w.sum.toNat w := by
      have h1 := Int.ediv_mul_cancel (gOf_dvd w x hx)
      conv => lhs; rw [← h1]
      rw [Int.natAbs_mul]; rfl
    refine ⟨k, ?_⟩
    rw [e, ← Nat.mul_assoc, hk]
    have e3 : w.sum.toNat * k = A.sum.toNat * gAll w.sum.toNat w * k := congrArg (· * k) hS
    rw [e3, Nat.mul_right_comm]
  have hGp : 0 < gAll w.sum.toNat w := by omega
  have hdiv : A.sum.toNat ∣ prodN L := by
    have e3 : A.sum.toNat * gAll w.sum.toNat w ∣ prodN L * gAll w.sum.toNat w := by rw [← hS]; exact hlin
    exact Nat.dvd_of_mul_dvd_mul_right hGp e3
  have hp : 0 < prodN L := prodN_pos L fun x hx => by
    obtain ⟨y, hy, rfl⟩ := List.mem_map.mp hx
    have := low_pos hT y
    omega
  have h1 := Nat.le_of_dvd hp hdiv
  have h2 : prodN L ≤ (10 ^ 30) ^ L.length := prodN_le L fun x hx => by
    obtain ⟨y, hy, rfl⟩ := List.mem_map.mp hx
    have := hf y hy
    omega
  have h3 : L.length ≤ 6 := by rw [List.length_map]; omega
  have h4 : (10 ^ 30) ^ L.length ≤ (10 ^ 30) ^ 6 := Nat.pow_le_pow_right (by decide) h3
  have h5 : (10 ^ 30) ^ 6 < 2 ^ 600 := by decide +kernel
  have h6 : A.sum.natAbs = A.sum.toNat := by omega
  rw [h6]
  exact Nat.lt_of_le_of_lt (Nat.le_trans h1 (Nat.le_trans h2 h4)) h5
/-! ### the image, weight by weight -/
def imgZ (n i : Nat) (W : List Int) (f : List Nat) : List Int := (List.range n).map fun j => rs i fun k => if f.getD k 0 = j then W.getD k 0 else 0
theorem imgZ_zero (n : Nat) (W : List Int) (f : List Nat) : imgZ n 0 W f = List.replicate n 0 := by
  unfold imgZ
  apply List.ext_getElem
  · rw [List.length_map, List.length_range, List.length_replicate]
  · intro i h1 h2
    rw [List.getElem_map, List.getElem_replicate]; rfl
theorem imgZ_len (n i : Nat) (W : List Int) (f : List Nat) : (imgZ n i W f).length = n := by
  unfold imgZ; rw [List.length_map, List.length_range]
theorem imgZ_succ {n i : Nat} {W : List Int} {f : List Nat} (h : f.getD i 0 < n) : imgZ n (i + 1) W f = (imgZ n i W f).set (f.getD i 0) ((imgZ n i W f).getD (f.getD i 0) 0 + W.getD i 0) := by
  apply ext_getD (0 : Int) (imgZ_len _ _ _ _) (by rw [List.length_set]; exact imgZ_len _ _ _ _)
  intro j hj
  rw [getD_set, imgZ_len]
  unfold imgZ
  rw [getD_range _ _ hj, getD_range _ _ h, getD_range _ _ hj, rs_succ]
  by_cases c : f.getD i 0 = j
  · subst c
    rw [if_pos rfl, if_pos ⟨rfl, h⟩]
  · rw [if_neg c, if_neg (fun z => c z.1)]; omega
/-! ### mixtures of weights raised to one sum -/
def mixW (x y : Int) (A B : List Int) : List Int := List.zipWith (fun o u => x * o + (y - x) * u) A B
theorem mixW_len {n : Nat} {x y : Int} {A B : List Int} (hA : A.length = n) (hB : B.length = n) : (mixW x y A B).length = n := by
  unfold mixW; rw [List.length_zipWith, hA, hB, Nat.min_self]
theorem mixW_sum {x y : Int} : ∀ {A B : List Int}, A.length = B.length → (mixW x y A B).sum = x * A.sum + (y - x) * B.sum
  | [], [], _ => by simp [mixW]
  | a :: A, b :: B, h => by
    have ih := mixW_sum (x := x) (y := y) (A := A) (B := B) (by simpa using h)
    show x * a + (y - x) * b + (mixW x y A B).sum = x * (a + A.sum) + (y - x) * (b + B.sum)
    rw [ih, Int.mul_add, Int.mul_add]; omega
theorem mixW_pos {x y : Int} (h0 : 0 ≤ x) (h1 : x ≤ y) : ∀ {A B : List Int}, (∀ z ∈ A, 0 ≤ z) → (∀ z ∈ B, 0 ≤ z) → ∀ z ∈ mixW x y A B, 0 ≤ z
  | [], _, _, _, z, hz => by simp [mixW] at hz
  | _ :: _, [], _, _, z, hz => by simp [mixW] at hz
  | a :: A, b :: B, hA, hB, z, hz => by
    have hz : z ∈ (x * a + (y - x) * b) :: mixW x y A B := hz
    rcases List.mem_cons.mp hz with rfl | hz
    · have h2 := Int.mul_nonneg h0 (hA a List.mem_cons_self)
      have h3 := Int.mul_nonneg (by omega : 0 ≤ y - x) (hB b List.mem_cons_self)
      omega
    · exact mixW_pos h0 h1 (fun z hz => hA z (List.mem_cons_of_mem _ hz)) (fun z hz => hB z (List.mem_cons_of_mem _ hz)) z hz
theorem mixW_at {x y : Int} : ∀ {A B : List Int} (i : Nat), A.length = B.length → (mixW x y A B).getD i 0 = x * A.getD i 0 + (y - x) * B.getD i 0
  | [], [], i, _ => by simp [mixW]
  | a :: A, b :: B, 0, _ => rfl
  | a :: A, b :: B, i + 1, h => mixW_at (A := A) (B := B) i (by simpa using h)
/-- the mixture of two slots -/
def mixed2 (x y : Int) (a b : List Int) : List Int := mixW x y (a.map (· * b.sum)) (b.map (· * a.sum))
theorem mixed2_sum {n : Nat} {x y : Int} {a b : List Int} (ha : a.length = n) (hb : b.length = n) : (mixed2 x y a b).sum = y * (a.sum * b.sum) := by
  unfold mixed2
  rw [mixW_sum (by rw [List.length_map, List.length_map, ha, hb]), sum_mul, sum_mul, Int.mul_comm b.sum a.sum, ← Int.add_mul]
  congr 1
  omega
theorem mixed2_sp {n : Nat} {x y : Int} {a b : List Int} (ha : Wt n a) (hb : Wt n b) (hy : 0 < y) : Sr80.mixed n (spOf a) (spOf b) (frac x y.toNat) = spOf (mixed2 x y a b) := by
  have hA := ha.2.2.1
  have hB := hb.2.2.1
  unfold spOf
  rw [mixed_sp (by omega) (by omega) hy, mixed2_sum ha.1 hb.1]
  have e1 : (y * (a.sum * b.sum)).toNat = y.toNat * (a.sum.toNat * b.sum.toNat) := by
    have := Int.mul_pos hA hB
    rw [Int.toNat_mul (by omega) (by omega), Int.toNat_mul (by omega) (by omega)]
  rw [e1]
  congr 1
  have hla : (a.map (· * b.sum)).length = n := by rw [List.length_map, ha.1]
  have hlb : (b.map (· * a.sum)).length = n := by rw [List.length_map, hb.1]
  apply ext_getD (0 : Int) (n := n) (by unfold mixZ; rw [List.length_map, List.length_range]) (mixW_len hla hlb)
  intro i hi
  unfold mixZ
  rw [mixW_at i (hla.trans hlb.symm), getD_range _ _ hi]
  have ea : (a.map (· * b.sum)).getD i 0 = a.getD i 0 * b.sum := by
    have := getD_map (· * b.sum) 0 a i
    rw [Int.zero_mul] at this; exact this
  have eb : (b.map (· * a.sum)).getD i 0 = b.getD i 0 * a.sum := by
    have := getD_map (· * a.sum) 0 b i
    rw [Int.zero_mul] at this; exact this
  rw [ea, eb, show ((a.sum.toNat : Nat) : Int) = a.sum by omega, show ((b.sum.toNat : Nat) : Int) = b.sum by omega]
/-! ### the least multiple -/
def lcmF (m : Int) (l : List Int) : Int := l.foldl (fun m x => m / (Nat.gcd m.natAbs x.natAbs : Nat) * x) m
theorem lcmF_snoc (m : Int) (l : List Int) (x : Int) : lcmF m (l ++ [x]) = lcmF m l / (Nat.gcd (lcmF m l).natAbs x.natAbs : Nat) * x := by
  unfold lcmF; rw [List.foldl_append]; rfl
theorem lcm_step {m x : Int} (hm : 0 < m) (hx : 0 < x) : 0 < m / (Nat.gcd m.natAbs x.natAbs : Nat) * x ∧ m ∣ m / (Nat.gcd m.natAbs x.natAbs : Nat) * x ∧ m / (Nat.gcd m.natAbs x.natAbs : Nat) * x ≤ m * x := by
  have h1 : 0 < Nat.gcd m.natAbs x.natAbs := Nat.gcd_pos_of_pos_right _ (by omega)
  have h3 : ((Nat.gcd m.natAbs x.natAbs : Nat) : Int) ∣ m := Int.ofNat_dvd_left.mpr (Nat.gcd_dvd_left _ _)
  have h4 : ((Nat.gcd m.natAbs x.natAbs : Nat) : Int) ∣ x := Int.ofNat_dvd_left.mpr (Nat.gcd_dvd_right _ _)
  have hg : 0 < ((Nat.gcd m.natAbs x.natAbs : Nat) : Int) := by omega
  generalize ((Nat.gcd m.natAbs x.natAbs : Nat) : Int) = g at *
  have h5 := Int.ediv_pos_of_pos_of_dvd hm (by omega) h3
  refine ⟨Int.mul_pos h5 hx, ?_, ?_⟩
  · obtain ⟨k, rfl⟩ := h4
    refine ⟨k, ?_⟩
    rw [← Int.mul_assoc, Int.ediv_mul_cancel h3]
  · apply Int.mul_le_mul_of_nonneg_right _ (by omega)
    exact Int.ediv_le_self _ (by omega)
theorem lcmF_pos : ∀ (l : List Int) {m : Int}, 0 < m → (∀ x ∈ l, 0 < x) → 0 < lcmF m l
  | [], _, h, _ => h
  | x :: l, m, h, hl => lcmF_pos l (m := m / (Nat.gcd m.natAbs x.natAbs : Nat) * x) (lcm_step h (hl x List.mem_cons_self)).1 fun y hy => hl y (List.mem_cons_of_mem _ hy)
theorem lcmF_dvd_m : ∀ (l : List Int) {m : Int}, 0 < m → (∀ x ∈ l, 0 < x) → m ∣ lcmF m l
  | [], _, _, _ => Int.dvd_refl _
  | x :: l, m, h, hl => by
    have s := lcm_step h (hl x List.mem_cons_self)
    exact Int.dvd_trans s.2.1 (lcmF_dvd_m l s.1 fun y hy => hl y (List.mem_cons_of_mem _ hy))
theorem lcmF_dvd : ∀ (l : List Int) {m : Int}, 0 < m → (∀ x ∈ l, 0 < x) → ∀ x ∈ l, x ∣ lcmF m l
  | y :: l, m, h, hl, x, hx => by
    have s := lcm_step h (hl y List.mem_cons_self)
    have hl2 : ∀ x ∈ l, 0 < x := fun z hz => hl z (List.mem_cons_of_mem _ hz)
    rcases List.mem_cons.mp hx with rfl | hx
    · exact Int.dvd_trans (Int.dvd_mul_left _ _) (lcmF_dvd_m l s.1 hl2)
    · exact lcmF_dvd l s.1 hl2 x hx
theorem lcmF_le {b : Int} : ∀ (l : List Int) {m : Int}, 0 < m → (∀ x ∈ l, 0 < x ∧ x ≤ b) → lcmF m l ≤ m * b ^ l.length
  | [], m, _, _ => by show m ≤ m * b ^ 0; rw [Int.pow_zero, Int.mul_one]; exact Int.le_refl m
  | x :: l, m, h, hl => by
    have hx := hl x List.mem_cons_self
    have s := lcm_step h hx.1
    have hl2 : ∀ x ∈ l, 0 < x ∧ x ≤ b := fun z hz => hl z (List.mem_cons_of_mem _ hz)
    have ih := lcmF_le (b := b) l s.1 hl2
    refine Int.le_trans ih ?_
    have hb : 0 < b := by omega
    have hb2 : 0 ≤ b ^ l.length := Int.le_of_lt (Int.pow_pos hb)
    rw [List.length_cons, Int.pow_succ, Int.mul_comm (b ^ l.length) b, ← Int.mul_assoc]
    apply Int.mul_le_mul_of_nonneg_right _ hb2
    exact Int.le_trans s.2.2 (Int.mul_le_mul_of_nonneg_left hx.2 (by omega))
theorem lcmF_lt {xs : List Int} (h : ∀ x ∈ xs, 0 < x ∧ x.natAbs < 2 ^ 600) (hl : xs.length ≤ 6) : (lcmF 1 xs).natAbs < 2 ^ 3601 := by
  have h4 : (2 ^ 600) ^ xs.length ≤ (2 ^ 600) ^ 6 := Nat.pow_le_pow_right (Nat.two_pow_pos 600) hl
  have h5 : (2 ^ 600) ^ 6 < 2 ^ 3601 := by rw [← Nat.pow_mul]; exact Nat.pow_lt_pow_right (by decide) (by decide)
  generalize 2 ^ 3601 = c at *
  generalize (2 ^ 600 : Nat) = b at *
  have h1 := lcmF_le (b := ((b : Nat) : Int)) xs (m := 1) (by decide) fun x hx => ⟨(h x hx).1, by have := (h x hx).2; omega⟩
  have h2 := lcmF_pos xs (m := 1) (by decide) fun x hx => (h x hx).1
  rw [Int.one_mul, ← Int.natCast_pow] at h1
  omega
/-! ### a plan behind another one, in whole numbers -/
def posW (B : List Int) : List Int := B.filter fun x => decide (x > 0)
def mulOf (B : List Int) : Int := lcmF 1 (posW B)
def facZ (M : Int) (B : List Int) : List Int := B.map fun x => if x > 0 then M / x else 0
theorem posW_pos (B : List Int) : ∀ x ∈ posW B, 0 < x := fun x hx => by
  have := (List.mem_filter.mp hx).2
  simpa using this
theorem mulOf_pos (B : List Int) : 0 < mulOf B := lcmF_pos _ (by decide) (posW_pos B)
theorem mulOf_dvd {B : List Int} {x : Int} (hx : x ∈ B) (h : 0 < x) : x ∣ mulOf B :=
  lcmF_dvd _ (by decide) (posW_pos B) x (List.mem_filter.mpr ⟨hx, by simpa using h⟩)
theorem facZ_at (M : Int) (B : List Int) (j : Nat) : (facZ M B).getD j 0 = if B.getD j 0 > 0 then M / B.getD j 0 else 0 := getD_map (fun x => if x > 0 then M / x else 0) 0 B j
/-- one row, j points between done -/
def behRow (n j : Nat) (r fac : List Int) (Q : List (List Int)) : List Int := (List.range n).map fun k => rs j fun t => r.getD t 0 * fac.getD t 0 * (Q.getD t []).getD k 0
def behZ (n : Nat) (P Q : List (List Int)) (fac : List Int) : List (List Int) := P.map fun r => behRow n n r fac Q
theorem behZ_sq {n : Nat} {P Q : List (List Int)} {fac : List Int} (h : P.length = n) : Sq n (behZ n P Q fac) := by
  unfold behZ
  refine ⟨by rw [List.length_map, h], fun i hi => ?_⟩
  rw [List.getD_eq_getElem?_getD, List.getElem?_map, List.getElem?_eq_getElem (by omega)]
  show (behRow _ _ _ _ _).length = n
  unfold behRow
  rw [List.length_map, List.length_range]
theorem behZ_sp {n : Nat} {a b c : List Int} (ha : Wt n a) (hb : Wt n b) (hc : Wt n c) {P Q : List (List Int)} (hP : Sq n P) :
    Sr80.behind n (spOf b) (P.map (sp (a.sum * b.sum).toNat)) (Q.map (sp (b.sum * c.sum).toNat)) = (behZ n P Q (facZ (mulOf b) b)).map (sp (a.sum * b.sum * c.sum * mulOf b).toNat) := by
  have hA := ha.2.2.1
  have hB := hb.2.2.1
  have hC := hc.2.2.1
  have hM := mulOf_pos b
  have hAB := Int.mul_pos hA hB
  have hBC := Int.mul_pos hB hC
  unfold spOf
  rw [behind_tf (by omega)]
  have hsq : Sq n (behZ n P Q (facZ (mulOf b) b)) := behZ_sq hP.1
  rw [ext_sq hsq]
  apply List.map_congr_left
  intro i hi
  have hi := List.mem_range.mp hi
  apply List.map_congr_left
  intro k hk
  have hk := List.mem_range.mp hk
  rw [behR_common (M := (mulOf b).toNat) (by omega) (by omega) (by omega) (by omega) P Q b (fun j => (facZ (mulOf b) b).getD j 0), frac_pt]
  · congr 1
    have e0 : ((behZ n P Q (facZ (mulOf b) b)).getD i []).getD k 0 = rs n fun t => (P.getD i []).getD t 0 * (facZ (mulOf b) b).getD t 0 * (Q.getD t []).getD k 0 := by
      have : (behZ n P Q (facZ (mulOf b) b)).getD i [] = behRow n n (P.getD i []) (facZ (mulOf b) b) Q := by
        unfold behZ
        rw [List.getD_eq_getElem?_getD, List.getElem?_map, List.getElem?_eq_getElem (by rw [hP.1]; exact hi), List.getD_eq_getElem?_getD, List.getElem?_eq_getElem (by rw [hP.1]; exact hi)]; rfl
      rw [this]
      unfold behRow
      rw [getD_range _ _ hk]
    have e1 : (rs n fun j => if b.getD j 0 = 0 then 0 else (P.getD i []).getD j 0 * (Q.getD j []).getD k 0 * ((b.sum.toNat : Nat) : Int) * (facZ (mulOf b) b).getD j 0) = (rs n fun t => (P.getD i []).getD t 0 * (facZ (mulOf b) b).getD t 0 * (Q.getD t []).getD k 0) * ((b.sum.toNat : Nat) : Int) := by
      rw [← rs_mul]
      apply rs_congr
      intro j hj
      by_cases c0 : b.getD j 0 = 0
      · rw [if_pos c0, facZ_at, c0]
        simp
      · rw [if_neg c0]
        generalize (P.getD i []).getD j 0 = p
        generalize (Q.getD j []).getD k 0 = q
        generalize (facZ (mulOf b) b).getD j 0 = f
        generalize ((b.sum.toNat : Nat) : Int) = s
        rw [Int.mul_right_comm, Int.mul_right_comm p q f]
    have e2 : (a.sum * b.sum).toNat * (b.sum * c.sum).toNat * (mulOf b).toNat = (a.sum * b.sum * c.sum * mulOf b).toNat * b.sum.toNat := by
      have h1 := Int.mul_pos hAB hC
      rw [Int.toNat_mul (a := a.sum * b.sum * c.sum) (by omega) (by omega), Int.toNat_mul (a := a.sum * b.sum) (by omega) (by omega), Int.toNat_mul (a := b.sum) (by omega) (by omega)]
      generalize (a.sum * b.sum).toNat = x
      generalize b.sum.toNat = y
      generalize c.sum.toNat = z
      generalize (mulOf b).toNat = t
      rw [Nat.mul_comm y z, ← Nat.mul_assoc, Nat.mul_right_comm (x * z) y t]
    rw [e0, e1, e2]
    exact pt_scale (by omega) _
  · intro j hj hne
    rw [facZ_at]
    have hmem : b.getD j 0 ∈ b := by
      have hjb : j < b.length := by rw [hb.1]; exact hj
      rw [List.getD_eq_getElem?_getD, List.getElem?_eq_getElem hjb]
      exact List.getElem_mem hjb
    have hpos : b.getD j 0 > 0 := by
      have := hb.2.1 _ hmem
      omega
    rw [if_pos hpos, Int.mul_ediv_cancel' (mulOf_dvd hmem hpos)]
    omega
theorem mulOf_lt {n : Nat} {b : List Int} (hb : Wt n b) (h6 : n ≤ 6) (hsm : ∀ x ∈ b, x.natAbs < 2 ^ 600) : (mulOf b).natAbs < 2 ^ 3601 :=
  lcmF_lt (fun x hx => ⟨posW_pos b x hx, hsm x (List.mem_filter.mp hx).1⟩) (Nat.le_trans (List.length_filter_le _ _) (by rw [hb.1]; exact h6))
/-! ### how great a plan's numbers are -/
theorem rowNW_bound : ∀ (l : List Int) (x : Int), 0 ≤ x → (∀ y ∈ l, 0 ≤ y) → (∀ y ∈ (rowNW x l).1, 0 ≤ y ∧ y ≤ x) ∧ ∀ y ∈ (rowNW x l).2, 0 ≤ y
  | [], x, _, _ => ⟨fun y h => by simp [rowNW] at h, fun y h => by simp [rowNW] at h⟩
  | z :: l, x, hx, hl => by
    have hz := hl z List.mem_cons_self
    have ih := rowNW_bound l (x - min x z) (by omega) fun y hy => hl y (List.mem_cons_of_mem _ hy)
    constructor
    · intro y hy
      have hy : y ∈ min x z :: (rowNW (x - min x z) l).1 := hy
      rcases List.mem_cons.mp hy with rfl | hy
      · omega
      · have := ih.1 y hy; omega
    · intro y hy
      have hy : y ∈ (z - min x z) :: (rowNW (x - min x z) l).2 := hy
      rcases List.mem_cons.mp hy with rfl | hy
      · omega
      · exact ih.2 y hy
theorem planNW_bound {m : Int} : ∀ (xs l : List Int), (∀ x ∈ xs, 0 ≤ x ∧ x ≤ m) → (∀ y ∈ l, 0 ≤ y) → ∀ r ∈ planNW xs l, ∀ y ∈ r, 0 ≤ y ∧ y ≤ m
  | [], l, _, _, r, hr => by simp [planNW] at hr
  | x :: xs, l, hx, hl, r, hr => by
    have h1 := hx x List.mem_cons_self
    have b := rowNW_bound l x h1.1 hl
    have hr : r ∈ (rowNW x l).1 :: planNW xs (rowNW x l).2 := hr
    rcases List.mem_cons.mp hr with rfl | hr
    · intro y hy
      have := b.1 y hy
      omega
    · exact planNW_bound xs _ (fun z hz => hx z (List.mem_cons_of_mem _ hz)) b.2 r hr
theorem getD_of {α : Type} {p : α → Prop} {d : α} {l : List α} (hd : p d) (h : ∀ x ∈ l, p x) (i : Nat) : p (l.getD i d) := by
  rw [List.getD_eq_getElem?_getD]
  by_cases c : i < l.length
  · rw [List.getElem?_eq_getElem c]; exact h _ (List.getElem_mem c)
  · rw [List.getElem?_eq_none (by omega)]; exact hd
theorem surplus_bound {m : Int} : ∀ {A B : List Int}, (∀ x ∈ A, 0 ≤ x ∧ x ≤ m) → (∀ x ∈ B, 0 ≤ x) → ∀ x ∈ surplus A B, 0 ≤ x ∧ x ≤ m
  | [], _, _, _, x, hx => by simp [surplus] at hx
  | _ :: _, [], _, _, x, hx => by simp [surplus] at hx
  | a :: A, b :: B, hA, hB, x, hx => by
    have h1 := hA a List.mem_cons_self
    have h2 := hB b List.mem_cons_self
    have hx : x ∈ max (a - b) 0 :: surplus A B := hx
    rcases List.mem_cons.mp hx with rfl | hx
    · omega
    · exact surplus_bound (fun z hz => hA z (List.mem_cons_of_mem _ hz)) (fun z hz => hB z (List.mem_cons_of_mem _ hz)) x hx
theorem bestZ_bound {n : Nat} {m : Int} {A B : List Int} (hm : 0 ≤ m) (lA : A.length = n) (lB : B.length = n) (hA : ∀ x ∈ A, 0 ≤ x ∧ x ≤ m) (hB : ∀ x ∈ B, 0 ≤ x ∧ x ≤ m) (i j : Nat) :
    0 ≤ ((bestZ A B).getD i []).getD j 0 ∧ ((bestZ A B).getD i []).getD j 0 ≤ 2 * m := by
  have sA := surplus_bound hA fun x hx => (hB x hx).1
  have sB := surplus_bound hB fun x hx => (hA x hx).1
  have sq := planNW_sq (surplus_len lA lB) (surplus_len lB lA)
  unfold bestZ
  rw [diag_at A B sq A.length (by omega)]
  have h1 := getD_of (p := fun r : List Int => ∀ y ∈ r, 0 ≤ y ∧ y ≤ m) (d := []) (by simp) (planNW_bound _ _ sA fun y hy => (sB y hy).1) i
  have h2 := getD_of (p := fun y : Int => 0 ≤ y ∧ y ≤ m) (d := 0) ⟨by omega, hm⟩ h1 j
  have h3 := getD_of (p := fun y : Int => 0 ≤ y ∧ y ≤ m) (d := 0) ⟨by omega, hm⟩ hA i
  have h4 := getD_of (p := fun y : Int => 0 ≤ y ∧ y ≤ m) (d := 0) ⟨by omega, hm⟩ hB i
  by_cases c : i = j ∧ i < A.length
  · rw [if_pos c]; omega
  · rw [if_neg c]; omega
/-! ### what a set has -/
def pick (s : Nat) (W : List Int) : List Int := (W.zipIdx.filter fun y => inSet s y.2).map fun y => y.1
theorem pick_sum (s : Nat) : ∀ (W : List Int) (k : Nat), (((W.zipIdx k).filter fun y => inSet s y.2).map fun y => y.1).sum = rs W.length fun i => if inSet s (k + i) then W.getD i 0 else 0
  | [], k => rfl
  | x :: W, k => by
    have ih := pick_sum s W (k + 1)
    have e : (rs (x :: W).length fun i => if inSet s (k + i) then (x :: W).getD i 0 else 0) = (if inSet s k then x else 0) + rs W.length fun i => if inSet s (k + 1 + i) then W.getD i 0 else 0 := by
      unfold rs
      rw [List.length_cons, List.range_succ_eq_map, List.map_cons, List.map_map, List.sum_cons]
      congr 1
      congr 1
      apply List.map_congr_left
      intro i _
      show (if inSet s (k + (i + 1)) then W.getD i 0 else 0) = _
      rw [show k + (i + 1) = k + 1 + i by omega]
    rw [e, ← ih, List.zipIdx_cons, List.filter_cons]
    by_cases c : inSet s k = true
    · simp [c]
    · simp [c]
theorem ofSet_pick {n T : Nat} {W : List Int} (h : W.length = n) (s : Nat) : ofSet n (sp T W) s = frac (pick s W).sum T := by
  rw [ofSet_sp, ← h]
  congr 1
  unfold pick
  rw [pick_sum s W 0]
  apply rs_congr
  intro i _
  rw [Nat.zero_add]
end TT

set_option Elab.async false
set_option maxRecDepth 100000
set_option maxHeartbeats 2000000
namespace TT
open PySem PySem.Spec PyProof.Rows L2
def top (i : Nat) : Stmt := PySem.Challenge.pw_throwntogether_s01_answers.main.body.getD i (.Pass ⟨0, 0, 0, 0⟩)
/-- a def that stands at its name and keeps its promise -/
structure Def (P : Program) (w : World) (K : PySem.W.Frag) (mg : Str → Option Value) (base : Heap) (k : Nat) (x : Str) (ps : List Str) (sp : Sp) (f : Addr) (fd : FuncData) : Prop where
  ok : FnOk P w K mg base CX0 k f fd ps sp
  mg : mg x = some (.ref f)
  kp : PySem.W.keepIn K (.ref f) = true
  b : Binds K fd ps []
theorem if_true_of {c : Bool} {A B : Prop} (hc : c = true) (h : A) : if c = true then A else B := by
  rw [if_pos hc]
  exact h
theorem if_false_of {c : Bool} {A B : Prop} (hc : c = false) (h : B) : if c = true then A else B := by
  rw [hc, if_neg Bool.false_ne_true]
  exact h
/-- no greater than the model's whole-number division bears -/
def Sm (b : Int) : Prop := b.natAbs < 2 ^ 8000
/-- the built-in names that stand -/
structure Blt (mg : Str → Option Value) : Prop where
  sum : mg "sum" = none
  len : mg "len" = none
  range : mg "range" = none
  min : mg "min" = none
  max : mg "max" = none
  zip : mg "zip" = none
  enumerate : mg "enumerate" = none
  list : mg "list" = none
  any : mg "any" = none
end TT

set_option Elab.async false
set_option maxRecDepth 100000
set_option maxHeartbeats 2000000
namespace TT
open PySem PySem.Spec PyProof.Rows L2
abbrev sGcd : Stmt := top 1
abbrev sLcm : Stmt := top 2
abbrev sTF : Stmt := top 3
abbrev sTFs : Stmt := top 4
section
variable {P : Program} {w : World} {K : PySem.W.Frag} {mg : Str → Option Value} {base : Heap}
/-! greatest_in_common -/
def spGcd : Sp := fun vs H Q _ => ∃ a b : Int, vs = [.int a, .int b] ∧ 0 < b ∧ Q (.int (Nat.gcd a.natAbs b.natAbs)) H
theorem scGcd : FnScope ["first", "second", "rest"] ["first", "second"] (defScope sGcd) := ⟨rfl, rfl, rfl, by decide +kernel, rfl, by decide +kernel, by decide +kernel⟩
theorem gcd_turn {a b : Int} (hb : 0 < b) : Nat.gcd b.natAbs (a.fmod b).natAbs = Nat.gcd a.natAbs b.natAbs := by
  rw [Int.fmod_eq_emod_of_nonneg a (by omega)]
  have e2 : b.gcd (a % b) = a.gcd b := by
    rw [Int.emod_def, Int.gcd_sub_mul_left_right, Int.gcd_comm]
  exact e2
theorem ok_gcd {f : Addr} {fd : FuncData} (F : Fun K "greatest_in_common" "greatest_in_common" sGcd f fd) : FnOk P w K mg base CX0 1 f fd ["first", "second"] spGcd := by
  refine F.ok scGcd (fun vs H Q E h => ?_) (fun cdv A outer s H vs Q E hr h => ⟨_, pss_cons (ps_while PassesOwn.never (pt_cmpR op_ne (pv 1) pe_int (nomark _))
      (pss_cons (ps_set (i := 2) scGcd.nd rfl (Or.inl rfl) (pe_op op_modN (pv 0) (pv 1)))
      (pss_cons (ps_set (i := 0) scGcd.nd rfl (Or.inl rfl) (pv 1))
      (pss_one (ps_set (i := 1) scGcd.nd rfl (Or.inl rfl) (pv 2))))))
      (pss_one (ps_ret (pv 0))), ?_⟩)
  · obtain ⟨a, b, rfl, _⟩ := h
    rfl
  · obtain ⟨a, b, rfl, hb, q⟩ := h
    refine while_by (fun σ H' => H' = H ∧ ∃ (x y : Int) (v : Option V), σ = [some (.int x), some (.int y), v] ∧ 0 ≤ y ∧ (0 < y ∨ 0 ≤ x) ∧ Nat.gcd x.natAbs y.natAbs = Nat.gcd a.natAbs b.natAbs)
      (fun σ _ => match σ with | [_, some (.int y), _] => y.toNat | _ => 0) ⟨rfl, a, b, none, rfl, by omega, by omega, rfl⟩ ?_ ?_
    · rintro σ H' ⟨rfl, x, y, v, rfl, h0, h1, hg⟩
      refine ⟨_, rfl, rfl, _, rfl, ?_⟩
      by_cases c : y = 0
      · subst c
        refine if_false_of (by simp) ?_
        refine ⟨_, rfl, ?_⟩
        have e : x = (Nat.gcd x.natAbs (0 : Int).natAbs : Nat) := by
          show x = ((Nat.gcd x.natAbs 0 : Nat) : Int)
          rw [Nat.gcd_zero_right]; omega
        rw [hg] at e
        rw [e]; exact q
      · refine if_true_of (by simp [c]) ?_
        have hy : 0 < y := by omega
        refine ⟨_, rfl, _, rfl, _, _, rfl, rfl, c, _, rfl, _, rfl, ⟨rfl, y, x.fmod y, _, rfl, ?_, Or.inr h0, ?_⟩, ?_⟩
        · rw [Int.fmod_eq_emod_of_nonneg x (by omega)]; exact Int.emod_nonneg _ c
        · rw [gcd_turn hy]; exact hg
        · show (x.fmod y).toNat < y.toNat
          rw [Int.fmod_eq_emod_of_nonneg x (by omega)]
          have := Int.emod_lt_of_pos x hy
          have := Int.emod_nonneg x c
          omega
    · rintro σ H' Q1 Q2 hq ⟨v, e, h1, k, e2, h2⟩
      exact ⟨v, e, h1, k, e2, hq _ _ h2⟩
/-! least_multiple -/
def spLcm : Sp := fun vs H Q _ => ∃ (a : Addr) (xs : List Int), vs = [.ref a] ∧ H a = some (.lst (xs.map V.int)) ∧ (∀ x ∈ xs, 0 < x ∧ x.natAbs < 2 ^ 600) ∧ xs.length ≤ 6 ∧ Q (.int (lcmF 1 xs)) H
theorem scLcm : FnScope ["numbers", "multiple", "number"] ["numbers"] (defScope sLcm) := ⟨rfl, rfl, rfl, by decide +kernel, rfl, by decide +kernel, by decide +kernel⟩
theorem int_at {ns : List Int} {i : Nat} {y : V} (h : (ns.map V.int)[i]? = some y) : ∃ z, ns[i]? = some z ∧ y = V.int z := by
  rw [List.getElem?_map] at h
  cases e : ns[i]? with
  | none => rw [e] at h; cases h
  | some z => rw [e] at h; exact ⟨z, rfl, (Option.some.inj h).symm⟩
theorem take_more {α : Type} {l : List α} {i : Nat} {x : α} (h : l[i]? = some x) : l.take (i + 1) = l.take i ++ [x] := by
  rw [List.take_add_one, h]; rfl
theorem ok_lcm {f g : Addr} {fd gd : FuncData} (F : Fun K "least_multiple" "least_multiple" sLcm f fd) (G : Def P w K mg base 1 "greatest_in_common" ["first", "second"] spGcd g gd) : FnOk P w K mg base CX0 2 f fd ["numbers"] spLcm := by
  refine F.ok scLcm (fun vs H Q E h => ?_) (fun cdv A outer s H vs Q E hr h => ⟨_, pss_cons (ps_set (i := 1) scLcm.nd rfl (Or.inl rfl) pe_int)
      (pss_cons (ps_for PassesOwn.never rfl (pi_list (pv 0)) (pg_name (i := 2) scLcm.nd rfl (Or.inl rfl))
        (pss_one (ps_set (i := 1) scLcm.nd rfl (Or.inl rfl) (pe_op op_mulW (pe_op op_fdivW (pv 1) (pe_call G.ok hr rfl G.mg G.kp G.b .nil pass0 (pa_cons (pv 1) (pa_cons (pv 2) pa_nil)))) (pv 2)))))
      (pss_one (ps_ret (pv 1)))), ?_⟩)
  · obtain ⟨a, b, rfl, _⟩ := h
    rfl
  · obtain ⟨a, xs, rfl, ha, hx, hl, q⟩ := h
    refine ⟨_, rfl, a, rfl, ⟨_, SqL.of ha⟩, for_list (K := K) (a := a) (xs := xs.map V.int) (fun i σ H' => H' = H ∧ ∃ v : Option V, σ = [some (.ref a), some (.int (lcmF 1 (xs.take i))), v])
      ⟨rfl, none, rfl⟩ (fun i σ H' _ ⟨e, _⟩ => by rw [e]; exact SqL.of ha) ?_ ?_⟩
    · rintro i y σ H' hi ⟨rfl, v, rfl⟩
      obtain ⟨z, hz, rfl⟩ := int_at hi
      have hzx := hx z (List.mem_of_getElem? hz)
      have ht : ∀ x ∈ xs.take i, 0 < x ∧ x.natAbs < 2 ^ 600 := fun x h => hx x (List.mem_of_mem_take h)
      have hlt := lcmF_lt ht (Nat.le_trans (List.length_take_le' i xs) hl)
      have hps := lcmF_pos (xs.take i) (m := 1) (by decide) fun x h => (ht x h).1
      rw [take_more hz, lcmF_snoc]
      generalize lcmF 1 (xs.take i) = m at *
      have hg : 0 < Nat.gcd m.natAbs z.natAbs := Nat.gcd_pos_of_pos_right _ (by omega)
      have hgl : Nat.gcd m.natAbs z.natAbs ≤ z.natAbs := Nat.gcd_le_right _ (by omega)
      have hq : m / ((Nat.gcd m.natAbs z.natAbs : Nat) : Int) ≤ m := Int.ediv_le_self _ (by omega)
      have hq0 : 0 ≤ m / ((Nat.gcd m.natAbs z.natAbs : Nat) : Int) := Int.ediv_nonneg (by omega) (by omega)
      refine ⟨_, rfl, _, rfl, _, rfl, m, z, rfl, hzx.1, _, _, rfl, rfl, ?_, _, rfl, _, _, rfl, rfl, ?_, rfl, _, rfl⟩
      · exact wide_div (by omega) (b := 600) (Nat.lt_of_le_of_lt (by omega) hzx.2) (by decide) (by decide)
      · exact wide_mul (wide_le hq0 hq hlt) hzx.2 (by decide) (by decide) (by decide)
    · rintro σ H' ⟨rfl, v, rfl⟩
      rw [List.length_map, List.take_length]
      exact ⟨_, rfl, q⟩
/-! told_fraction -/
/-- the two numbers -/
def tfr (a b : Int) : List Int := [a / (Nat.gcd a.natAbs b.natAbs : Nat), b / (Nat.gcd a.natAbs b.natAbs : Nat)]
def NewL (H : Hp) (Q : VK) (l : List Int) : Prop := ∀ H' p, Same H H' → H p = none → H' p = some (.lst (l.map V.int)) → Q (.ref p) H'
def spTF : Sp := fun vs H Q _ => ∃ a b : Int, vs = [.int a, .int b] ∧ 0 < b ∧ Sm b ∧ NewL H Q (tfr a b)
theorem scTF : FnScope ["upper", "lower", "common"] ["upper", "lower"] (defScope sTF) := ⟨rfl, rfl, rfl, by decide +kernel, rfl, by decide +kernel, by decide +kernel⟩
theorem same_new {H : Hp} {p : Addr} {o : HO} (h : H p = none) : Same H (upd H p o) := fun b u e => by
  rw [upd_ne (ne_of_none e h)]; exact e
theorem gcd_pos {a b : Int} (hb : 0 < b) : 0 < ((Nat.gcd a.natAbs b.natAbs : Nat) : Int) := by
  have : 0 < Nat.gcd a.natAbs b.natAbs := Nat.gcd_pos_of_pos_right _ (by omega)
  omega
theorem ok_tf {f g : Addr} {fd gd : FuncData} (F : Fun K "told_fraction" "told_fraction" sTF f fd) (G : Def P w K mg base 1 "greatest_in_common" ["first", "second"] spGcd g gd) : FnOk P w K mg base CX0 2 f fd ["upper", "lower"] spTF := by
  refine F.ok scTF (fun vs H Q E h => ?_) (fun cdv A outer s H vs Q E hr h => ⟨_, pss_cons (ps_set (i := 2) scTF.nd rfl (Or.inl rfl) (pe_call G.ok hr rfl G.mg G.kp G.b .nil pass0 (pa_cons (pv 0) (pa_cons (pv 1) pa_nil))))
      (pss_one (ps_ret (pe_lst (pa_cons (pe_op op_fdivW (pv 0) (pv 2)) (pa_cons (pe_op op_fdivW (pv 1) (pv 2)) pa_nil))))), ?_⟩)
  · obtain ⟨a, b, rfl, _⟩ := h
    rfl
  · obtain ⟨a, b, rfl, hb, hb2, q⟩ := h
    have hg := gcd_pos (a := a) hb
    have hle : (Nat.gcd a.natAbs b.natAbs) ≤ b.natAbs := Nat.gcd_le_right _ (by omega)
    have hw : ∀ z, CDivW z ((Nat.gcd a.natAbs b.natAbs : Nat) : Int) := fun z => wide_div hg (b := 8000) (Nat.lt_of_le_of_lt (by omega) hb2) (by decide) (by decide)
    refine ⟨_, rfl, _, rfl, a, b, rfl, hb, ?_⟩
    refine ⟨_, rfl, _, rfl, _, _, rfl, rfl, hw _, _, rfl, _, rfl, _, _, rfl, rfl, hw _, by show 2 ≤ sizeLine; decide, fun p hp => ?_⟩
    exact q _ p (same_new hp) hp upd_same
/-! told_fractions -/
def spTFs : Sp := fun vs H Q _ => ∃ (a : Addr) (xs : List Int) (b : Int), vs = [.ref a, .int b] ∧ H a = some (.lst (xs.map V.int)) ∧ 0 < b ∧ Sm b ∧ xs.length ≤ 100 ∧ NewL H Q (xs.flatMap fun x => tfr x b)
theorem scTFs : FnScope ["uppers", "lower", "numbers", "upper"] ["uppers", "lower"] (defScope sTFs) := ⟨rfl, rfl, rfl, by decide +kernel, rfl, by decide +kernel, by decide +kernel⟩
theorem flat_len (xs : List Int) (b : Int) : (xs.flatMap fun x => tfr x b).length = 2 * xs.length := by
  induction xs with
  | nil => rfl
  | cons x xs ih => rw [List.flatMap_cons, List.length_append, ih]; show 2 + _ = 2 * (xs.length + 1); omega
theorem ok_tfs {f g : Addr} {fd gd : FuncData} (F : Fun K "told_fractions" "told_fractions" sTFs f fd) (G : Def P w K mg base 2 "told_fraction" ["upper", "lower"] spTF g gd) : FnOk P w K mg base CX0 3 f fd ["uppers", "lower"] spTFs := by
  refine F.ok scTFs (fun vs H Q E h => ?_) (fun cdv A outer s H vs Q E hr h => ⟨_, pss_cons (ps_set (i := 2) scTFs.nd rfl (Or.inl rfl) (pe_lst pa_nil))
      (pss_cons (ps_for PassesOwn.never rfl (pi_list (pv 0)) (pg_name (i := 3) scTFs.nd rfl (Or.inl rfl))
        (pss_one (ps_expr (pe_bm PySem.F.plainAttrs_list PySem.F.slot_list_extend PySem.F.type_list_extend mt_extend (pv 2) (pa_cons (pe_call G.ok hr rfl G.mg G.kp G.b .nil pass0 (pa_cons (pv 3) (pa_cons (pv 1) pa_nil))) pa_nil)))))
      (pss_one (ps_ret (pv 2)))), ?_⟩)
  · obtain ⟨a, b, _, rfl, _⟩ := h
    rfl
  · obtain ⟨a, xs, b, rfl, ha, hb, hb2, hx, q⟩ := h
    refine ⟨by show 0 ≤ sizeLine; decide, fun p hp => ?_⟩
    have nap : a ≠ p := ne_of_none ha hp
    refine ⟨_, rfl, a, rfl, ⟨_, SqL.of (by rw [upd_ne nap]; exact ha)⟩, for_list (K := K) (a := a) (xs := xs.map V.int) (fun i σ H' => ∃ v : Option V, σ = [some (.ref a), some (.int b), some (.ref p), v] ∧ Same H H' ∧ H' p = some (.lst (((xs.take i).flatMap fun x => tfr x b).map V.int)))
      ⟨none, rfl, same_new hp, upd_same⟩ (fun i σ H' _ ⟨_, _, s5, _⟩ => SqL.of (s5 _ _ ha)) ?_ ?_⟩
    · rintro i y σ H' hi ⟨v, rfl, s5, hp5⟩
      obtain ⟨z, hz, rfl⟩ := int_at hi
      refine ⟨_, rfl, .inl ⟨rfl, _, SqL.of hp5⟩, _, rfl, _, rfl, z, b, rfl, hb, hb2, fun H2 p2 s2 n2 h2 => ?_⟩
      have hpp := s2 _ _ hp5
      have ne2 : p ≠ p2 := ne_of_none hp5 n2
      have hlen : ((xs.take i).flatMap fun x => tfr x b).length ≤ 200 := by rw [flat_len]; have := List.length_take_le' i xs; omega
      refine ⟨p, p2, _, _, rfl, rfl, hpp, h2, ?_, ?_⟩
      · rw [List.length_map, List.length_map]
        show _ + 2 ≤ sizeLine
        have : sizeLine = 2 ^ 24 := rfl
        omega
      · refine ⟨_, rfl, fun b' o e => ?_, ?_⟩
        · rw [upd_ne (ne_of_none e hp)]; exact s2 _ _ (s5 _ _ e)
        · rw [upd_same, take_more hz, List.flatMap_append, List.map_append]
          simp
    · rintro σ H' ⟨v, rfl, s5, hp5⟩
      rw [List.length_map, List.take_length] at hp5
      exact ⟨_, rfl, q _ p s5 hp hp5⟩
end
end TT

set_option Elab.async false
set_option maxRecDepth 100000
set_option maxHeartbeats 2000000
namespace TT
open PySem PySem.Spec PyProof.Rows L2
/-! comprehensions over zip and enumerate -/
theorem lc_zip {K : PySem.W.Frag} {a b : Addr} {xs ys : List V} {g : TG} {tt : TT} {te : TE} {vs : List Nat} {σ : L2.St} {H1 : Hp} {D : Addr} {Qd : Hp → Prop} (hl : xs.length = ys.length) (Pv : Nat → Hp → Prop) (h0 : Pv 0 (upd H1 D (.lst []))) (hq : ∀ i H, Pv i H → SqL K H a xs ∧ SqL K H b ys)
    (hs : ∀ i x y T H, xs[i]? = some x → ys[i]? = some y → Pv i H → H T = none → g (.ref T) (wipe σ vs) (upd H T (.tup [x, y])) fun σ2 H2 => wipe σ2 vs = wipe σ vs ∧ tt σ2 H2 fun b H3 =>
      if b = true then te σ2 H3 fun y H4 => ∃ acc, H4 D = some (.lst acc) ∧ acc.length < sizeLine ∧ Pv (i + 1) (upd H4 D (.lst (acc ++ [y]))) else Pv (i + 1) H3) (hd : ∀ H, Pv xs.length H → Qd H) :
    ∃ W : Nat → Nat → Hp → Prop, (∃ m, W 0 m (upd H1 D (.lst []))) ∧ ∀ i m H, W i m H →
      ((Itz K a b).stop i H ∧ Qd H) ∨ ((Itz K a b).go i H ∧ ∃ Nx : Hp → Prop, (∀ H', Nx H' → ∃ m', m' < m ∧ W (i + 1) m' H') ∧ ∀ x H', (Itz K a b).yld i H x H' → g x (wipe σ vs) H' fun σ2 H2 => wipe σ2 vs = wipe σ vs ∧ tt σ2 H2 fun b H3 =>
        if b = true then te σ2 H3 fun y H4 => ∃ acc, H4 D = some (.lst acc) ∧ acc.length < sizeLine ∧ Nx (upd H4 D (.lst (acc ++ [y]))) else Nx H3) := by
  refine ⟨fun i m H => m = xs.length - i ∧ i ≤ xs.length ∧ Pv i H, ⟨xs.length, by simp, Nat.zero_le _, h0⟩, ?_⟩
  rintro i m H ⟨rfl, hi, p⟩
  obtain ⟨qx, qy⟩ := hq i H p
  by_cases hlt : i < xs.length
  · have hx : xs[i]? = some xs[i] := List.getElem?_eq_getElem hlt
    have hlt2 : i < ys.length := by omega
    have hy : ys[i]? = some ys[i] := List.getElem?_eq_getElem hlt2
    refine .inr ⟨⟨xs, ys, _, _, qx, qy, hx, hy⟩, Pv (i + 1), fun H' p' => ⟨xs.length - (i + 1), by omega, rfl, hlt, p'⟩, fun v H' y => ?_⟩
    obtain ⟨T, x', y', rfl, hT, rfl, f1, f2⟩ := y
    exact hs i x' y' T H (f1 xs qx) (f2 ys qy) p hT
  · have e : i = xs.length := by omega
    subst e
    exact .inl ⟨⟨xs, ys, qx, qy, Or.inl (Nat.le_refl _)⟩, hd H p⟩
theorem lc_enum {K : PySem.W.Frag} {a : Addr} {xs : List V} {g : TG} {tt : TT} {te : TE} {vs : List Nat} {σ : L2.St} {H1 : Hp} {D : Addr} {Qd : Hp → Prop} (Pv : Nat → Hp → Prop) (h0 : Pv 0 (upd H1 D (.lst []))) (hq : ∀ i H, Pv i H → SqL K H a xs)
    (hs : ∀ i x T H, xs[i]? = some x → Pv i H → H T = none → g (.ref T) (wipe σ vs) (upd H T (.tup [.int (i : Nat), x])) fun σ2 H2 => wipe σ2 vs = wipe σ vs ∧ tt σ2 H2 fun b H3 =>
      if b = true then te σ2 H3 fun y H4 => ∃ acc, H4 D = some (.lst acc) ∧ acc.length < sizeLine ∧ Pv (i + 1) (upd H4 D (.lst (acc ++ [y]))) else Pv (i + 1) H3) (hd : ∀ H, Pv xs.length H → Qd H) :
    ∃ W : Nat → Nat → Hp → Prop, (∃ m, W 0 m (upd H1 D (.lst []))) ∧ ∀ i m H, W i m H →
      ((Ite K a).stop i H ∧ Qd H) ∨ ((Ite K a).go i H ∧ ∃ Nx : Hp → Prop, (∀ H', Nx H' → ∃ m', m' < m ∧ W (i + 1) m' H') ∧ ∀ x H', (Ite K a).yld i H x H' → g x (wipe σ vs) H' fun σ2 H2 => wipe σ2 vs = wipe σ vs ∧ tt σ2 H2 fun b H3 =>
        if b = true then te σ2 H3 fun y H4 => ∃ acc, H4 D = some (.lst acc) ∧ acc.length < sizeLine ∧ Nx (upd H4 D (.lst (acc ++ [y]))) else Nx H3) := by
  refine ⟨fun i m H => m = xs.length - i ∧ i ≤ xs.length ∧ Pv i H, ⟨xs.length, by simp, Nat.zero_le _, h0⟩, ?_⟩
  rintro i m H ⟨rfl, hi, p⟩
  have qx := hq i H p
  by_cases hlt : i < xs.length
  · have hx : xs[i]? = some xs[i] := List.getElem?_eq_getElem hlt
    refine .inr ⟨⟨xs, _, qx, hx⟩, Pv (i + 1), fun H' p' => ⟨xs.length - (i + 1), by omega, rfl, hlt, p'⟩, fun v H' y => ?_⟩
    obtain ⟨T, x', rfl, hT, rfl, f1⟩ := y
    exact hs i x' T H (f1 xs qx) p hT
  · have e : i = xs.length := by omega
    subst e
    exact .inl ⟨⟨xs, qx, Nat.le_refl _⟩, hd H p⟩
abbrev sTimes : Stmt := top 6
abbrev sPair : Stmt := inClass (top 7) 0
abbrev sSurplus : Stmt := top 8
abbrev sSetNo : Stmt := top 9
section
variable {P : Program} {w : World} {K : PySem.W.Frag} {mg : Str → Option Value} {base : Heap}
theorem sz : sizeLine = 2 ^ 24 := rfl
/-! times -/
def spTimes : Sp := fun vs H Q _ => ∃ (a : Addr) (xs : List Int) (k : Int), vs = [.ref a, .int k] ∧ H a = some (.lst (xs.map V.int)) ∧ (∀ x ∈ xs, CMulW x k) ∧ xs.length ≤ 100 ∧ NewL H Q (xs.map (· * k))
theorem scTimes : FnScope ["numbers", "factor", "number"] ["numbers", "factor"] (defScope sTimes) := ⟨rfl, rfl, rfl, by decide +kernel, rfl, by decide +kernel, by decide +kernel⟩
theorem ok_times {f : Addr} {fd : FuncData} (F : Fun K "times" "times" sTimes f fd) : FnOk P w K mg base CX0 1 f fd ["numbers", "factor"] spTimes := by
  refine F.ok scTimes (fun vs H Q E h => ?_) (fun cdv A outer s H vs Q E hr h => ⟨_, pss_one (ps_ret
      (pe_lc (own := [("number", 2)]) (g := gName 2) (tt := tYes) (by rfl) scTimes.nd (pi_list (pv 0)) (blkOk_by (own := [("number", 2)]) (N := ["numbers", "factor", "number"]) (sc := defScope sTimes) (by decide +kernel))
        (fun _ _ _ _ _ => pg_name (i := 2) scTimes.nd rfl (Or.inl rfl)) (fun _ _ _ _ _ => pts_nil) (fun _ _ _ _ _ => pe_op op_mulW (pv 2) (pv 1)))), ?_⟩)
  · obtain ⟨a, b, _, rfl, _⟩ := h
    rfl
  · obtain ⟨a, xs, k, rfl, ha, hm, hx, q⟩ := h
    refine ⟨_, rfl, a, rfl, ⟨_, SqL.of ha⟩, fun D hD => ?_⟩
    refine lc_list (K := K) (a := a) (xs := xs.map V.int) (fun i H' => Same H H' ∧ H' D = some (.lst (((xs.take i).map (· * k)).map V.int))) ⟨same_new hD, upd_same⟩ (fun i H' _ h => SqL.of (h.1 _ _ ha)) ?_ ?_
    · rintro i y H' hi ⟨s5, hD5⟩
      obtain ⟨z, hz, rfl⟩ := int_at hi
      refine ⟨rfl, ?_⟩
      refine ⟨_, rfl, _, rfl, _, _, rfl, rfl, hm z (List.mem_of_getElem? hz), _, hD5, ?_, fun b o e => ?_, ?_⟩
      · rw [List.length_map, List.length_map, sz]
        have := List.length_take_le' i xs
        omega
      · rw [upd_ne (ne_of_none e hD)]; exact s5 _ _ e
      · rw [upd_same, take_more hz]; simp
    · rintro H' ⟨s5, hD5⟩
      rw [List.length_map, List.take_length] at hD5
      exact q _ D s5 hD hD5
/-! Pair.__init__ -/
structure PairTxt (K : PySem.W.Frag) (mg : Str → Option Value) (C : Addr) : Prop where
  cl : Cls K C
  nT : NoAttr K C "total"
  nF : NoAttr K C "first"
  nS : NoAttr K C "second"
  gC : mg "Pair" = some (.ref C)
def pF (T : Int) (pa pb : Addr) : List (Str × V) := [("total", .int T), ("first", .ref pa), ("second", .ref pb)]
def PairAt (C : Addr) (H : Hp) (p : Addr) (T : Int) (A B : List Int) : Prop := ∃ dx pa pb, H p = some (.ins C dx (pF T pa pb)) ∧ H pa = some (.lst (A.map V.int)) ∧ H pb = some (.lst (B.map V.int))
theorem PairAt.same {C : Addr} {H H' : Hp} {p : Addr} {T : Int} {A B : List Int} (h : PairAt C H p T A B) (s : Same H H') : PairAt C H' p T A B := by
  obtain ⟨dx, pa, pb, h1, h2, h3⟩ := h
  exact ⟨dx, pa, pb, s _ _ h1, s _ _ h2, s _ _ h3⟩
theorem lk_here {k : Str} {v : V} {r : List (Str × V)} : List.lookup k ((k, v) :: r) = some v := by
  have e : (k == k) = true := beq_self_eq_true k
  simp only [List.lookup, e]
theorem lk_past {k g : Str} {v : V} {r : List (Str × V)} (h : (k == g) = false) : List.lookup k ((g, v) :: r) = List.lookup k r := by
  simp only [List.lookup, h]
theorem put_here {f : Str} {v x : V} {r : List (Str × V)} : putF f v ((f, x) :: r) = (f, v) :: r := if_pos rfl
theorem put_past {f g : Str} {v x : V} {r : List (Str × V)} (h : ¬ g = f) : putF f v ((g, x) :: r) = (g, x) :: putF f v r := if_neg h
theorem pF_total (T : Int) (pa pb : Addr) : (pF T pa pb).lookup ("total" : Str) = some (.int T) := lk_here
theorem pF_first (T : Int) (pa pb : Addr) : (pF T pa pb).lookup ("first" : Str) = some (.ref pa) := (lk_past (by decide +kernel)).trans lk_here
theorem pF_second (T : Int) (pa pb : Addr) : (pF T pa pb).lookup ("second" : Str) = some (.ref pb) := (lk_past (by decide +kernel)).trans ((lk_past (by decide +kernel)).trans lk_here)
theorem pF_new (T : Int) (pa pb : Addr) : putF "second" (.ref pb) (putF "first" (.ref pa) (putF "total" (.int T) [])) = pF T pa pb := by
  refine (congrArg (putF _ _) (put_past (by decide +kernel))).trans ?_
  refine (put_past (by decide +kernel)).trans (congrArg _ ?_)
  exact (put_past (by decide +kernel)).trans rfl
/-- two lists whose numbers and sums can be multiplied -/
def Mulable (A B : List Int) : Prop := CMulW A.sum B.sum ∧ (∀ x ∈ A, CMulW x B.sum) ∧ ∀ x ∈ B, CMulW x A.sum
def spPairI (C : Addr) : Sp := fun vs H Q _ => ∃ (p dx a b : Addr) (A B : List Int), vs = [.ref p, .ref a, .ref b] ∧ H p = some (.ins C dx []) ∧ H a = some (.lst (A.map V.int)) ∧ H b = some (.lst (B.map V.int)) ∧ A.length ≤ 100 ∧ B.length ≤ 100 ∧ Mulable A B ∧
  ∀ H' : Hp, PairAt C H' p (A.sum * B.sum) (A.map (· * B.sum)) (B.map (· * A.sum)) → (∀ b o, H b = some o → b ≠ p → H' b = some o) → Q .non H'
theorem scPair : FnScope ["self", "first", "second"] ["self", "first", "second"] (defScope sPair) := ⟨rfl, rfl, rfl, by decide +kernel, rfl, by decide +kernel, by decide +kernel⟩
theorem ok_pairI {C f g : Addr} {fd gd : FuncData} (F : Fun K "__init__" "Pair.__init__" sPair f fd) (T : PairTxt K mg C) (B : Blt mg) (G : Def P w K mg base 1 "times" ["numbers", "factor"] spTimes g gd) : FnOk P w K mg base CX0 2 f fd ["self", "first", "second"] (spPairI C) := by
  refine F.ok scPair (fun vs H Q E h => ?_) (fun cdv A outer s H vs Q E hr h => ⟨_, pss_cons (ps_fld (pv 0) (pe_op op_mulW (pe_callB (cr_sum rfl) (by rfl) B.sum (by decide +kernel) (pa_cons (pv 1) pa_nil)) (pe_callB (cr_sum rfl) (by rfl) B.sum (by decide +kernel) (pa_cons (pv 2) pa_nil))) rfl)
      (pss_cons (ps_fld (pv 0) (pe_call G.ok hr rfl G.mg G.kp G.b .nil pass0 (pa_cons (pv 1) (pa_cons (pe_callB (cr_sum rfl) (by rfl) B.sum (by decide +kernel) (pa_cons (pv 2) pa_nil)) pa_nil))) rfl)
      (pss_one (ps_fld (pv 0) (pe_call G.ok hr rfl G.mg G.kp G.b .nil pass0 (pa_cons (pv 2) (pa_cons (pe_callB (cr_sum rfl) (by rfl) B.sum (by decide +kernel) (pa_cons (pv 1) pa_nil)) pa_nil))) rfl))), ?_⟩)
  · obtain ⟨_, _, _, _, _, _, rfl, _⟩ := h
    rfl
  · obtain ⟨p, dx, a, b, A1, B1, rfl, hp, ha, hb, la, lb, ⟨m1, m2, m3⟩, q⟩ := h
    have nap : a ≠ p := ne_of ha hp (by intro z; cases z)
    have nbp : b ≠ p := ne_of hb hp (by intro z; cases z)
    refine ⟨_, rfl, a, A1, rfl, SqL.of ha, _, rfl, b, B1, rfl, SqL.of hb, _, _, rfl, rfl, m1, _, rfl, p, C, dx, _, rfl, hp, T.cl, T.nT, (by show 0 < 1000; decide), ?_⟩
    refine ⟨_, rfl, _, rfl, b, B1, rfl, SqL.of (by rw [upd_ne nbp]; exact hb), a, A1, B1.sum, rfl, (by rw [upd_ne nap]; exact ha), m2, la, fun H2 pa s2 n2 h2 => ?_⟩
    have hp2 := s2 p _ upd_same
    have npa : pa ≠ p := fun e => by rw [e] at n2; rw [upd_same] at n2; cases n2
    refine ⟨_, rfl, p, C, dx, _, rfl, hp2, T.cl, T.nF, (by show 1 < 1000; decide), ?_⟩
    have ha2 : H2 a = some (.lst (A1.map V.int)) := s2 _ _ (by rw [upd_ne nap]; exact ha)
    have hb2 : H2 b = some (.lst (B1.map V.int)) := s2 _ _ (by rw [upd_ne nbp]; exact hb)
    refine ⟨_, rfl, _, rfl, a, A1, rfl, SqL.of (by rw [upd_ne nap]; exact ha2), b, B1, A1.sum, rfl, (by rw [upd_ne nbp]; exact hb2), m3, lb, fun H3 pb s3 n3 h3 => ?_⟩
    have hp3 := s3 p _ upd_same
    have npb : pb ≠ p := fun e => by rw [e] at n3; rw [upd_same] at n3; cases n3
    refine ⟨_, rfl, p, C, dx, _, rfl, hp3, T.cl, T.nS, (by show 2 < 1000; decide), ?_⟩
    refine q _ ⟨dx, pa, pb, ?_, ?_, ?_⟩ fun c o e hc => ?_
    · rw [upd_same, pF_new]
    · rw [upd_ne npa]; exact s3 _ _ (by rw [upd_ne npa]; exact h2)
    · rw [upd_ne npb]; exact h3
    · rw [upd_ne hc]; refine s3 _ _ ?_
      rw [upd_ne hc]; refine s2 _ _ ?_
      rw [upd_ne hc]; exact e
/-! surplus -/
def spSurplus : Sp := fun vs H Q _ => ∃ (a b : Addr) (A B : List Int), vs = [.ref a, .ref b] ∧ H a = some (.lst (A.map V.int)) ∧ H b = some (.lst (B.map V.int)) ∧ A.length = B.length ∧ A.length ≤ 100 ∧ NewL H Q (surplus A B)
theorem scSurplus : FnScope ["ones", "others", "one", "other"] ["ones", "others"] (defScope sSurplus) := ⟨rfl, rfl, rfl, by decide +kernel, rfl, by decide +kernel, by decide +kernel⟩
theorem zipWith_take {α β γ : Type} (g : α → β → γ) {A : List α} {B : List β} {i : Nat} {x : α} {y : β} (hx : A[i]? = some x) (hy : B[i]? = some y) : List.zipWith g (A.take (i + 1)) (B.take (i + 1)) = List.zipWith g (A.take i) (B.take i) ++ [g x y] := by
  rw [take_more hx, take_more hy, List.zipWith_append (by
    have h1 := (List.getElem?_eq_some_iff.mp hx).1
    have h2 := (List.getElem?_eq_some_iff.mp hy).1
    rw [List.length_take, List.length_take]; omega)]
  rfl
theorem max_zero (d : Int) : (if (0 : Int) > d then 0 else d) = max d 0 := by
  by_cases c : (0 : Int) > d
  · rw [if_pos c]; omega
  · rw [if_neg c]; omega
theorem ok_surplus {f : Addr} {fd : FuncData} (F : Fun K "surplus" "surplus" sSurplus f fd) (B : Blt mg) : FnOk P w K mg base CX0 1 f fd ["ones", "others"] spSurplus := by
  refine F.ok scSurplus (fun vs H Q E h => ?_) (fun cdv A outer s H vs Q E hr h => ⟨_, pss_one (ps_ret
      (pe_lc (own := [("one", 2), ("other", 3)]) (g := gTup K 2 (gCons (gName 2) (gCons (gName 3) gNil))) (tt := tYes) (by rfl) scSurplus.nd (pi_zip (by rfl) B.zip (pa_cons (pv 0) (pa_cons (pv 1) pa_nil))) (blkOk_by (own := [("one", 2), ("other", 3)]) (N := ["ones", "others", "one", "other"]) (sc := defScope sSurplus) (by decide +kernel))
        (fun _ _ _ _ _ => pg_tup rfl (pgs_cons (pg_name (i := 2) scSurplus.nd rfl (Or.inl rfl)) (pgs_cons (pg_name (i := 3) scSurplus.nd rfl (Or.inl rfl)) pgs_nil))) (fun _ _ _ _ _ => pts_nil)
        (fun _ _ _ _ _ => pe_callB (call_max2 rfl) (by rfl) B.max (by decide +kernel) (pa_cons (pe_op op_sub (pv 2) (pv 3)) (pa_cons pe_int pa_nil))))), ?_⟩)
  · obtain ⟨a, b, _, _, rfl, _⟩ := h
    rfl
  · obtain ⟨a, b, A1, B1, rfl, ha, hb, hl, hx, q⟩ := h
    refine ⟨_, rfl, _, rfl, a, b, _, _, rfl, SqL.of ha, SqL.of hb, fun D hD => ?_⟩
    refine lc_zip (K := K) (a := a) (b := b) (xs := A1.map V.int) (ys := B1.map V.int) (by rw [List.length_map, List.length_map, hl]) (fun i H' => Same H H' ∧ H' D = some (.lst ((surplus (A1.take i) (B1.take i)).map V.int))) ⟨same_new hD, upd_same⟩ (fun i H' h => ⟨SqL.of (h.1 _ _ ha), SqL.of (h.1 _ _ hb)⟩) ?_ ?_
    · rintro i x y t H' hi hj ⟨s5, hD5⟩ ht
      obtain ⟨z, hz, rfl⟩ := int_at hi
      obtain ⟨u, hu, rfl⟩ := int_at hj
      refine ⟨t, _, rfl, SqT.of upd_same, rfl, _, _, rfl, _, _, rfl, rfl, rfl, ?_⟩
      refine ⟨_, rfl, _, rfl, _, _, rfl, rfl, _, _, rfl, _, same_new ht D _ hD5, ?_, fun b o e => ?_, ?_⟩
      · rw [List.length_map, sz, surplus, List.length_zipWith]
        have := List.length_take_le' i A1
        omega
      · rw [upd_ne (ne_of_none e hD), upd_ne (ne_of_none (s5 _ _ e) ht)]; exact s5 _ _ e
      · rw [upd_same]
        unfold surplus
        rw [zipWith_take _ hz hu, List.map_append]
        simp only [max_zero]
        rfl
    · rintro H' ⟨s5, hD5⟩
      rw [List.length_map, List.take_length, hl, List.take_length] at hD5
      exact q _ D s5 hD hD5
/-! set_number -/
def spSetNo : Sp := fun vs H Q _ => ∃ (a : Addr) (M : List Int), vs = [.ref a] ∧ H a = some (.lst (M.map V.int)) ∧ M.length ≤ 100 ∧ ∀ H', Same H H' → Q (.int (setNo M)) H'
theorem scSetNo : FnScope ["amounts", "point", "amount"] ["amounts"] (defScope sSetNo) := ⟨rfl, rfl, rfl, by decide +kernel, rfl, by decide +kernel, by decide +kernel⟩
theorem zipIdx_take {α : Type} {M : List α} {i : Nat} {x : α} (h : M[i]? = some x) : (M.take (i + 1)).zipIdx = (M.take i).zipIdx ++ [(x, i)] := by
  rw [take_more h, List.zipIdx_append]
  have := (List.getElem?_eq_some_iff.mp h).1
  have e : (M.take i).length = i := by rw [List.length_take]; omega
  rw [e]; simp
def pows (M : List Int) : List Int := (M.zipIdx.filter fun y => decide (y.1 > 0)).map fun y => (2 : Int) ^ y.2
theorem pows_len (M : List Int) : (pows M).length ≤ M.length := by
  unfold pows
  rw [List.length_map]
  exact Nat.le_trans (List.length_filter_le _ _) (by rw [List.length_zipIdx]; exact Nat.le_refl _)
theorem ok_setNo {f : Addr} {fd : FuncData} (F : Fun K "set_number" "set_number" sSetNo f fd) (B : Blt mg) : FnOk P w K mg base CX0 1 f fd ["amounts"] spSetNo := by
  refine F.ok scSetNo (fun vs H Q E h => ?_) (fun cdv A outer s H vs Q E hr h => ⟨_, pss_one (ps_ret (pe_callB (cr_sum rfl) (by rfl) B.sum (by decide +kernel) (pa_cons
      (pe_lc (own := [("point", 1), ("amount", 2)]) (g := gTup K 2 (gCons (gName 1) (gCons (gName 2) gNil))) (by rfl) scSetNo.nd (pi_enum (by rfl) B.enumerate (pa_cons (pv 0) pa_nil)) (blkOk_by (own := [("point", 1), ("amount", 2)]) (N := ["amounts", "point", "amount"]) (sc := defScope sSetNo) (by decide +kernel))
        (fun _ _ _ _ _ => pg_tup rfl (pgs_cons (pg_name (i := 1) scSetNo.nd rfl (Or.inl rfl)) (pgs_cons (pg_name (i := 2) scSetNo.nd rfl (Or.inl rfl)) pgs_nil))) (fun _ _ _ _ _ => pts_one (pt_cmpR op_gt (pv 2) pe_int (nomark _)))
        (fun _ _ _ _ _ => pe_op op_shl pe_int (pv 1))) pa_nil))), ?_⟩)
  · obtain ⟨a, b, rfl, _⟩ := h
    rfl
  · obtain ⟨a, M, rfl, ha, hx, q⟩ := h
    refine ⟨_, rfl, a, _, rfl, SqL.of ha, fun D hD => ?_⟩
    refine lc_enum (K := K) (a := a) (xs := M.map V.int) (fun i H' => Same H H' ∧ H' D = some (.lst ((pows (M.take i)).map V.int))) ⟨same_new hD, upd_same⟩ (fun i H' h => SqL.of (h.1 _ _ ha)) ?_ ?_
    · rintro i x t H' hi ⟨s5, hD5⟩ ht
      obtain ⟨z, hz, rfl⟩ := int_at hi
      have hlt := (List.getElem?_eq_some_iff.mp hz).1
      refine ⟨t, _, rfl, SqT.of upd_same, rfl, _, _, rfl, _, _, rfl, rfl, rfl, ?_⟩
      refine ⟨_, rfl, _, _, rfl, rfl, _, rfl, ?_⟩
      by_cases c : z > 0
      · refine if_true_of (decide_eq_true c) ?_
        refine ⟨_, rfl, _, _, rfl, rfl, ⟨by omega, by omega, by decide⟩, _, same_new ht D _ hD5, ?_, fun b o e => ?_, ?_⟩
        · rw [List.length_map, sz]
          have := pows_len (M.take i)
          have := List.length_take_le' i M
          omega
        · rw [upd_ne (ne_of_none e hD), upd_ne (ne_of_none (s5 _ _ e) ht)]; exact s5 _ _ e
        · rw [upd_same]
          have e : pows (M.take (i + 1)) = pows (M.take i) ++ [(2 : Int) ^ i] := by
            unfold pows
            rw [zipIdx_take hz, List.filter_append, List.map_append]
            have : ([(z, i)].filter fun y => decide (y.1 > 0)) = [(z, i)] := by simp [c]
            rw [this]; rfl
          rw [e, List.map_append]
          simp
      · refine if_false_of (decide_eq_false c) ⟨s5.trans (same_new ht), ?_⟩
        have e : pows (M.take (i + 1)) = pows (M.take i) := by
          unfold pows
          rw [zipIdx_take hz, List.filter_append]
          have : ([(z, i)].filter fun y => decide (y.1 > 0)) = [] := by simp [c]
          rw [this, List.append_nil]
        rw [e]
        exact same_new ht D _ hD5
    · rintro H' ⟨s5, hD5⟩
      rw [List.length_map, List.take_length] at hD5
      exact ⟨D, _, rfl, SqL.of hD5, q H' s5⟩
end
end TT

set_option Elab.async false
set_option maxRecDepth 100000
set_option maxHeartbeats 2000000
namespace TT
open PySem PySem.Spec PyProof.Rows L2
abbrev sPBP : Stmt := top 10
abbrev sBest : Stmt := top 11
abbrev sDiff : Stmt := top 12
abbrev sInRows : Stmt := top 13
abbrev sInOne : Stmt := top 14
abbrev sCol : Stmt := top 15
abbrev sIsPlan : Stmt := top 16
/-- rows of whole numbers, each a list at its address -/
def RowsAt (H : Hp) (as : List Addr) (P : List (List Int)) : Prop := as.length = P.length ∧ ∀ (i : Nat) (a : Addr) (r : List Int), as[i]? = some a → P[i]? = some r → H a = some (.lst (r.map V.int))
theorem RowsAt.same {H H' : Hp} {as : List Addr} {P : List (List Int)} (h : RowsAt H as P) (s : ∀ a ∈ as, ∀ o, H a = some o → H' a = some o) : RowsAt H' as P :=
  ⟨h.1, fun i a r e1 e2 => s a (List.mem_of_getElem? e1) _ (h.2 i a r e1 e2)⟩
theorem RowsAt.there {H : Hp} {as : List Addr} {P : List (List Int)} (h : RowsAt H as P) {c : Addr} (hc : c ∈ as) : ∃ r : List Int, H c = some (.lst (r.map V.int)) := by
  obtain ⟨k, hk, e2⟩ := List.getElem_of_mem hc
  have h1 : as[k]? = some c := by rw [List.getElem?_eq_getElem hk, e2]
  have hk2 : k < P.length := by rw [← h.1]; exact hk
  exact ⟨P[k], h.2 k c _ h1 (List.getElem?_eq_getElem hk2)⟩
theorem RowsAt.nil (H : Hp) : RowsAt H [] [] := ⟨rfl, fun i a r e => by simp at e⟩
theorem RowsAt.snoc {H : Hp} {as : List Addr} {P : List (List Int)} {a : Addr} {r : List Int} (h : RowsAt H as P) (ha : H a = some (.lst (r.map V.int))) : RowsAt H (as ++ [a]) (P ++ [r]) := by
  refine ⟨by rw [List.length_append, List.length_append, h.1]; rfl, fun i b t e1 e2 => ?_⟩
  by_cases c : i < as.length
  · rw [List.getElem?_append_left c] at e1
    rw [List.getElem?_append_left (by rw [← h.1]; exact c)] at e2
    exact h.2 i b t e1 e2
  · rw [List.getElem?_append_right (by omega)] at e1
    rw [List.getElem?_append_right (by have := h.1; omega)] at e2
    have hh := h.1
    have : i - as.length = 0 := by
      have := (List.getElem?_eq_some_iff.mp e1).1
      simp at this
      omega
    rw [this] at e1
    rw [← hh, this] at e2
    simp at e1 e2
    rw [← e1, ← e2]; exact ha
/-- a new list of new rows -/
structure NewM (H H' : Hp) (p : Addr) (as : List Addr) (P : List (List Int)) : Prop where
  same : Same H H'
  np : H p = none
  na : ∀ a ∈ as, H a = none
  nd : as.Nodup
  pn : p ∉ as
  at_p : H' p = some (.lst (as.map V.ref))
  rows : RowsAt H' as P
theorem nodup_snoc {as : List Addr} {a : Addr} (h : as.Nodup) (n : a ∉ as) : (as ++ [a]).Nodup := by
  rw [List.nodup_append]
  refine ⟨h, by simp, fun x hx y hy => ?_⟩
  simp at hy
  subst hy
  intro e
  exact n (e ▸ hx)
section
variable {P : Program} {w : World} {K : PySem.W.Frag} {mg : Str → Option Value} {base : Heap}
def spPBP : Sp := fun vs H Q _ => ∃ (a b : Addr) (A B : List Int), vs = [.ref a, .ref b] ∧ H a = some (.lst (A.map V.int)) ∧ H b = some (.lst (B.map V.int)) ∧ A.length ≤ 100 ∧ B.length ≤ 100 ∧ ∀ H' p as, NewM H H' p as (planNW A B) → Q (.ref p) H'
theorem scPBP : FnScope ["first", "second", "left", "plan", "amount", "row", "point", "given"] ["first", "second"] (defScope sPBP) := ⟨rfl, rfl, rfl, by decide +kernel, rfl, by decide +kernel, by decide +kernel⟩
theorem min_py (x y : Int) : (if y < x then y else x) = min x y := by
  by_cases c : y < x
  · rw [if_pos c]; omega
  · rw [if_neg c]; omega
theorem ixN_nat {n k : Nat} (h : k < n) : ixN n (k : Int) = some k := by
  unfold ixN
  rw [if_pos (by omega), if_pos (by omega)]; rfl
theorem ok_pbp {f : Addr} {fd : FuncData} (F : Fun K "pair_by_pair" "pair_by_pair" sPBP f fd) (B : Blt mg) : FnOk P w K mg base CX0 1 f fd ["first", "second"] spPBP := by
  refine F.ok scPBP (fun vs H Q E h => ?_) (fun cdv A outer s H vs Q E hr h => ⟨_,
    pss_cons (ps_set (i := 2) scPBP.nd rfl (Or.inl rfl) (pe_callTy call_list_of (by rfl) B.list (by decide +kernel) (pa_cons (pv 1) pa_nil)))
    (pss_cons (ps_set (i := 3) scPBP.nd rfl (Or.inl rfl) (pe_lst pa_nil))
    (pss_cons (ps_for PassesOwn.never rfl (pi_list (pv 0)) (pg_name (i := 4) scPBP.nd rfl (Or.inl rfl))
      (pss_cons (ps_set (i := 5) scPBP.nd rfl (Or.inl rfl) (pe_lst pa_nil))
      (pss_cons (ps_for PassesOwn.never rfl (pi_range1 (by rfl) B.range (pa_cons (pe_callB call_len_seq (by rfl) B.len PySem.boot_len (pa_cons (pv 1) pa_nil)) pa_nil)) (pg_name (i := 6) scPBP.nd rfl (Or.inl rfl))
        (pss_cons (ps_set (i := 7) scPBP.nd rfl (Or.inl rfl) (pe_callB (call_min2 rfl) (by rfl) B.min (by decide +kernel) (pa_cons (pe_op op_sub (pv 4) (pe_callB (cr_sum rfl) (by rfl) B.sum (by decide +kernel) (pa_cons (pv 5) pa_nil))) (pa_cons (pe_ix ix_list (pv 2) (pv 6) (fun _ _ => rfl)) pa_nil))))
        (pss_cons (ps_expr (pe_bm PySem.F.plainAttrs_list PySem.F.slot_list_append PySem.F.type_list_append mt_append (pv 5) (pa_cons (pv 7) pa_nil)))
        (pss_one (ps_asg (pe_op op_sub (pe_ix ix_list (pv 2) (pv 6) (fun _ _ => rfl)) (pv 7)) (pg_sub (pv 2) (pv 6) set_list))))))
      (pss_one (ps_expr (pe_bm PySem.F.plainAttrs_list PySem.F.slot_list_append PySem.F.type_list_append mt_append (pv 3) (pa_cons (pv 5) pa_nil))))))
    )
    (pss_one (ps_ret (pv 3))))), ?_⟩)
  · obtain ⟨a, b, _, _, rfl, _⟩ := h
    rfl
  · obtain ⟨a, b, A1, B1, rfl, ha, hb, la, lb, q⟩ := h
    refine ⟨_, rfl, b, _, rfl, .inl (SqL.of hb), fun l hl => ?_⟩
    refine ⟨by show 0 ≤ sizeLine; decide, fun p hp => ?_⟩
    have hlp : l ≠ p := fun e => by rw [← e, upd_same] at hp; cases hp
    have hp0 : H p = none := by rw [upd_ne (Ne.symm hlp)] at hp; exact hp
    have s1 : Same H (upd (upd H l (.lst (B1.map V.int))) p (.lst [])) := (same_new hl).trans (same_new hp)
    refine ⟨_, rfl, a, rfl, ⟨_, SqL.of (s1 _ _ ha)⟩, for_list (K := K) (a := a) (xs := A1.map V.int) (fun i σ H' => ∃ (v5 v6 v7 v8 : Option V) (as : List Addr), σ = [some (.ref a), some (.ref b), some (.ref l), some (.ref p), v5, v6, v7, v8] ∧ NewM H H' p as (planNW (A1.take i) B1) ∧ l ∉ as ∧ H' l = some (.lst ((leftNW (A1.take i) B1).map V.int)))
      ⟨none, none, none, none, [], rfl, ⟨s1, hp0, by simp, by simp, by simp, upd_same, RowsAt.nil _⟩, by simp, by rw [upd_ne hlp, upd_same]; rfl⟩ (fun i σ H' _ ⟨_, _, _, _, _, _, n5, _⟩ => SqL.of (n5.same _ _ ha)) ?_ ?_⟩
    · rintro i y σ H' hi ⟨v5, v6, v7, v8, as, rfl, M, lna, hL⟩
      obtain ⟨x, hx, rfl⟩ := int_at hi
      have hLlen : (leftNW (A1.take i) B1).length = B1.length := leftNW_len _ _
      generalize hLg : leftNW (A1.take i) B1 = L at hL hLlen
      refine ⟨by show 0 ≤ sizeLine; decide, fun r hr0 => ?_⟩
      have hlr : l ≠ r := ne_of_none hL hr0
      have hpr : p ≠ r := ne_of_none M.at_p hr0
      have hrH : H r = none := M.same.free hr0
      have hnr : ∀ c ∈ as, c ≠ r := fun c hc e => by
        obtain ⟨t, ht⟩ := M.rows.there hc
        rw [e, hr0] at ht
        cases ht
      have s2 := same_new (o := .lst []) hr0
      refine ⟨_, rfl, b, _, rfl, .inl (SqL.of (s2 _ _ (M.same _ _ hb))), _, rfl, ?_, ?_, ?_⟩
      · rw [List.length_map]; omega
      · rw [List.length_map]; omega
      refine for_range (lo := 0) (n := ((B1.map V.int).length : Int).toNat) (fun j σ H2 => ∃ (v7 v8 : Option V), σ = [some (.ref a), some (.ref b), some (.ref l), some (.ref p), some (.int x), some (.ref r), v7, v8] ∧
          (∀ c o, H' c = some o → c ≠ l → H2 c = some o) ∧ H2 r = some (.lst ((rowNW x (L.take j)).1.map V.int)) ∧ H2 l = some (.lst (((rowNW x (L.take j)).2 ++ L.drop j).map V.int)))
        ⟨v7, v8, rfl, fun c o e _ => s2 _ _ e, by rw [upd_same]; rfl, by rw [upd_ne hlr, hL]; rfl⟩ ?_ ?_
      · rintro j σ H2 hj ⟨v7, v8, rfl, k2, hr2, hl2⟩
        have hj : j < L.length := by rw [hLlen]; simpa using hj
        have hLj : L[j]? = some L[j] := List.getElem?_eq_getElem hj
        have hdrop : L.drop j = L[j] :: L.drop (j + 1) := List.drop_eq_getElem_cons hj
        have htk : L.take (j + 1) = L.take j ++ [L[j]] := take_more hLj
        have hlen2 : ((rowNW x (L.take j)).2).length = j := by rw [rowNW_len2, List.length_take]; omega
        have hlen1 : ((rowNW x (L.take j)).1).length = j := by rw [rowNW_len1, List.length_take]; omega
        have hat : ((((rowNW x (L.take j)).2 ++ L.drop j).map V.int))[j]? = some (V.int L[j]) := by
          rw [List.getElem?_map, List.getElem?_append_right (by omega), hlen2, hdrop]
          simp
        have hsn := rowNW_snoc (L.take j) x L[j]
        rw [← htk] at hsn
        have hrl : r ≠ l := Ne.symm hlr
        refine ⟨_, rfl, _, rfl, r, _, rfl, SqL.of hr2, _, _, rfl, rfl, _, rfl, _, rfl, l, _, _, _, rfl, by rw [Int.zero_add], SqL.of hl2, atI_nat hat, _, _, rfl, ?_⟩
        rw [min_py]
        refine ⟨_, rfl, .inl ⟨rfl, _, SqL.of hr2⟩, _, rfl, r, _, _, rfl, rfl, hr2, ?_, ?_⟩
        · rw [List.length_map, hlen1, sz]; omega
        have hl3 : upd H2 r (.lst ((rowNW x (L.take j)).1.map V.int ++ [V.int (min (x - (rowNW x (L.take j)).1.sum) L[j])])) l = some (.lst (((rowNW x (L.take j)).2 ++ L.drop j).map V.int)) := by rw [upd_ne hlr]; exact hl2
        refine ⟨_, rfl, _, rfl, l, _, _, _, rfl, by rw [Int.zero_add], SqL.of hl3, atI_nat hat, _, rfl, _, _, rfl, rfl, _, rfl, _, rfl, l, _, _, j, rfl, by rw [Int.zero_add], hl3, ixN_nat (by rw [List.length_map, List.length_append, List.length_drop, hlen2]; omega), ?_⟩
        refine ⟨_, _, rfl, fun c o e hc => ?_, ?_, ?_⟩
        · rw [upd_ne hc, upd_ne (ne_of_none e hr0)]; exact k2 c o e hc
        · rw [upd_ne hrl, upd_same, hsn, List.map_append]; rfl
        · rw [upd_same, hsn, List.map_append, List.set_append_right _ _ (by rw [List.length_map, hlen2]; exact Nat.le_refl _), List.length_map, hlen2, Nat.sub_self, hdrop, List.map_cons, List.set_cons_zero]
          rw [List.map_append, List.map_append, List.append_assoc]; rfl
      · rintro σ H2 ⟨v7, v8, rfl, k2, hr2, hl2⟩
        have hn : ((B1.map V.int).length : Int).toNat = L.length := by rw [List.length_map, hLlen]; rfl
        rw [hn, List.take_length, List.drop_length, List.append_nil] at hl2
        rw [hn, List.take_length] at hr2
        have hpl : p ≠ l := Ne.symm hlp
        have hp2 := k2 p _ M.at_p hpl
        refine ⟨_, rfl, .inl ⟨rfl, _, SqL.of hp2⟩, _, rfl, p, _, _, rfl, rfl, hp2, ?_, ?_⟩
        · rw [List.length_map, M.rows.1, planNW_len, sz]
          have := List.length_take_le' i A1
          omega
        have hr_nas : r ∉ as := fun hc => hnr r hc rfl
        refine ⟨_, _, _, _, as ++ [r], rfl, ⟨fun c o e => ?_, hp0, ?_, nodup_snoc M.nd hr_nas, ?_, ?_, ?_⟩, ?_, ?_⟩
        · rw [upd_ne (ne_of_none e hp0)]
          exact k2 c o (M.same c o e) (ne_of_none e hl)
        · intro c hc
          rcases List.mem_append.mp hc with hc | hc
          · exact M.na c hc
          · rw [List.mem_singleton.mp hc]; exact hrH
        · intro hc
          rcases List.mem_append.mp hc with hc | hc
          · exact M.pn hc
          · exact hpr (List.mem_singleton.mp hc)
        · rw [upd_same, List.map_append]; rfl
        · rw [take_more hx, planNW_snoc, hLg]
          refine RowsAt.snoc (M.rows.same fun c hc o e => ?_) (by rw [upd_ne (Ne.symm hpr)]; exact hr2)
          have hcp : c ≠ p := fun z => M.pn (z ▸ hc)
          rw [upd_ne hcp]
          exact k2 c o e (fun z => lna (z ▸ hc))
        · intro hc
          rcases List.mem_append.mp hc with hc | hc
          · exact lna hc
          · exact hlr (List.mem_singleton.mp hc)
        · rw [upd_ne hlp, take_more hx, leftNW_snoc, hLg]; exact hl2
    · rintro σ H' ⟨v5, v6, v7, v8, as, rfl, M, _, _⟩
      rw [List.length_map, List.take_length] at M
      exact ⟨_, rfl, q _ p as M⟩
end
end TT

set_option Elab.async false
set_option maxRecDepth 100000
set_option maxHeartbeats 2000000
namespace TT
open PySem PySem.Spec PyProof.Rows L2
theorem nodup_at {as : List Addr} (h : as.Nodup) {i j : Nat} {a : Addr} (h1 : as[i]? = some a) (h2 : as[j]? = some a) : i = j := by
  obtain ⟨l1, e1⟩ := List.getElem?_eq_some_iff.mp h1
  obtain ⟨l2, e2⟩ := List.getElem?_eq_some_iff.mp h2
  rw [List.nodup_iff_pairwise_ne, List.pairwise_iff_getElem] at h
  rcases Nat.lt_trichotomy i j with c | c | c
  · exact absurd (e1.trans e2.symm) (h i j l1 l2 c)
  · exact c
  · exact absurd (e2.trans e1.symm) (h j i l2 l1 c)
theorem RowsAt.set {H : Hp} {as : List Addr} {P : List (List Int)} (h : RowsAt H as P) (nd : as.Nodup) {k : Nat} {a : Addr} {r : List Int} (hk : as[k]? = some a) : RowsAt (upd H a (.lst (r.map V.int))) as (P.set k r) := by
  refine ⟨by rw [List.length_set]; exact h.1, fun i b t e1 e2 => ?_⟩
  by_cases c : k = i
  · subst c
    rw [hk] at e1
    cases e1
    have hlt : k < P.length := by rw [← h.1]; exact (List.getElem?_eq_some_iff.mp hk).1
    rw [List.getElem?_set_self hlt] at e2
    cases e2
    exact upd_same
  · rw [List.getElem?_set_ne c] at e2
    have hne : b ≠ a := fun e => c (nodup_at nd hk (by rw [← e]; exact e1))
    rw [upd_ne hne]
    exact h.2 i b t e1 e2
theorem RowsAt.at {H : Hp} {as : List Addr} {P : List (List Int)} (h : RowsAt H as P) {k : Nat} (hk : k < P.length) : ∃ a, as[k]? = some a ∧ a ∈ as ∧ H a = some (.lst ((P.getD k []).map V.int)) := by
  have hk2 : k < as.length := by rw [h.1]; exact hk
  have e1 : as[k]? = some as[k] := List.getElem?_eq_getElem hk2
  have e2 : P[k]? = some P[k] := List.getElem?_eq_getElem hk
  refine ⟨as[k], e1, List.getElem_mem hk2, ?_⟩
  rw [h.2 k _ _ e1 e2, List.getD_eq_getElem?_getD, e2]
  rfl
theorem getD_at {r : List Int} {k : Nat} (h : k < r.length) : (r.map V.int)[k]? = some (V.int (r.getD k 0)) := by
  rw [List.getElem?_map, List.getElem?_eq_getElem h, List.getD_eq_getElem?_getD, List.getElem?_eq_getElem h]; rfl
section
variable {P : Program} {w : World} {K : PySem.W.Frag} {mg : Str → Option Value} {base : Heap}
/-! best_plan -/
def spBest (C : Addr) : Sp := fun vs H Q _ => ∃ (p : Addr) (T : Int) (A B : List Int), vs = [.ref p] ∧ PairAt C H p T A B ∧ A.length = B.length ∧ A.length ≤ 100 ∧ ∀ H' p as, NewM H H' p as (bestZ A B) → Q (.ref p) H'
theorem scBest : FnScope ["pair", "plan", "point"] ["pair"] (defScope sBest) := ⟨rfl, rfl, rfl, by decide +kernel, rfl, by decide +kernel, by decide +kernel⟩
theorem ok_best {C f g1 g2 : Addr} {fd gd1 gd2 : FuncData} (F : Fun K "best_plan" "best_plan" sBest f fd) (T : PairTxt K mg C) (B : Blt mg) (GS : Def P w K mg base 1 "surplus" ["ones", "others"] spSurplus g1 gd1) (GP : Def P w K mg base 1 "pair_by_pair" ["first", "second"] spPBP g2 gd2) :
    FnOk P w K mg base CX0 2 f fd ["pair"] (spBest C) := by
  refine F.ok scBest (fun vs H Q E h => ?_) (fun cdv A outer s H vs Q E hr h => ⟨_,
    pss_cons (ps_set (i := 1) scBest.nd rfl (Or.inl rfl) (pe_call GP.ok hr rfl GP.mg GP.kp GP.b .nil pass0 (pa_cons
        (pe_call GS.ok hr rfl GS.mg GS.kp GS.b .nil pass0 (pa_cons (pe_fld (pv 0) rfl) (pa_cons (pe_fld (pv 0) rfl) pa_nil)))
        (pa_cons (pe_call GS.ok hr rfl GS.mg GS.kp GS.b .nil pass0 (pa_cons (pe_fld (pv 0) rfl) (pa_cons (pe_fld (pv 0) rfl) pa_nil))) pa_nil))))
    (pss_cons (ps_for PassesOwn.never rfl (pi_range1 (by rfl) B.range (pa_cons (pe_callB call_len_seq (by rfl) B.len PySem.boot_len (pa_cons (pe_fld (pv 0) rfl) pa_nil)) pa_nil)) (pg_name (i := 2) scBest.nd rfl (Or.inl rfl))
      (pss_one (ps_asg (pe_op op_add (pe_ix ix_list (pe_ix ix_list (pv 1) (pv 2) (fun _ _ => rfl)) (pv 2) (fun _ _ => rfl))
          (pe_callB (call_min2 rfl) (by rfl) B.min (by decide +kernel) (pa_cons (pe_ix ix_list (pe_fld (pv 0) rfl) (pv 2) (fun _ _ => rfl)) (pa_cons (pe_ix ix_list (pe_fld (pv 0) rfl) (pv 2) (fun _ _ => rfl)) pa_nil))))
        (pg_sub (pe_ix ix_list (pv 1) (pv 2) (fun _ _ => rfl)) (pv 2) set_list))))
    (pss_one (ps_ret (pv 1)))), ?_⟩)
  · obtain ⟨a, _, _, _, rfl, _⟩ := h
    rfl
  · obtain ⟨p, t, A1, B1, rfl, ⟨dx, pa, pb, hp, ha, hb⟩, hl, hn, q⟩ := h
    have l1 := pF_first t pa pb
    have l2 := pF_second t pa pb
    refine ⟨_, rfl, p, C, dx, _, _, rfl, hp, T.cl, T.nF, l1, _, rfl, p, C, dx, _, _, rfl, hp, T.cl, T.nS, l2, pa, pb, A1, B1, rfl, ha, hb, hl, hn, fun H1 u1 s1 n1 h1 => ?_⟩
    refine ⟨_, rfl, p, C, dx, _, _, rfl, s1 _ _ hp, T.cl, T.nS, l2, _, rfl, p, C, dx, _, _, rfl, s1 _ _ hp, T.cl, T.nF, l1, pb, pa, B1, A1, rfl, s1 _ _ hb, s1 _ _ ha, hl.symm, by omega, fun H2 u2 s2 n2 h2 => ?_⟩
    refine ⟨u1, u2, surplus A1 B1, surplus B1 A1, rfl, s2 _ _ h1, h2, by rw [surplus_len rfl hl.symm]; exact hn, by rw [surplus_len hl.symm rfl]; exact hn, fun H3 m as M => ?_⟩
    have hs : Same H H3 := (s1.trans s2).trans M.same
    have N0 : NewM H H3 m as (planNW (surplus A1 B1) (surplus B1 A1)) := ⟨hs, (s1.trans s2).free M.np, fun a h => (s1.trans s2).free (M.na a h), M.nd, M.pn, M.at_p, M.rows⟩
    refine ⟨_, rfl, p, C, dx, _, _, rfl, hs _ _ hp, T.cl, T.nF, l1, pa, _, rfl, .inl (SqL.of (hs _ _ ha)), _, rfl, ?_, ?_, ?_⟩
    · rw [List.length_map]; omega
    · rw [List.length_map]; omega
    have hsq := bestZ_sq (n := A1.length) (A := A1) (B := B1) rfl hl.symm
    have hsq0 := planNW_sq (n := A1.length) (surplus_len (A := A1) (B := B1) rfl hl.symm) (surplus_len (A := B1) (B := A1) hl.symm rfl)
    refine for_range (lo := 0) (n := ((A1.map V.int).length : Int).toNat) (fun k σ H4 => ∃ v : Option V, σ = [some (.ref p), some (.ref m), v] ∧ NewM H H4 m as (diag A1 B1 k (planNW (surplus A1 B1) (surplus B1 A1)))) ⟨none, rfl, N0⟩ ?_ ?_
    · rintro k σ H4 hk ⟨v, rfl, M4⟩
      have hk : k < A1.length := by simpa using hk
      have hsqk := diag_sq (n := A1.length) A1 B1 k _ hsq0
      obtain ⟨c, hc, hcm, hcr⟩ := M4.rows.at (k := k) (by rw [hsqk.1]; exact hk)
      have hmat : (as.map V.ref)[k]? = some (V.ref c) := by rw [List.getElem?_map, hc]; rfl
      have hrow := getD_at (r := (diag A1 B1 k (planNW (surplus A1 B1) (surplus B1 A1))).getD k []) (k := k) (by rw [hsqk.2 k hk]; exact hk)
      have hA := getD_at (r := A1) hk
      have hB := getD_at (r := B1) (by rw [← hl]; exact hk)
      have z0 : V.int (0 + (k : Int)) = V.int (k : Int) := by rw [Int.zero_add]
      have hs4 := M4.same
      refine ⟨_, rfl, _, rfl, m, _, _, _, rfl, z0, SqL.of M4.at_p, atI_nat hmat, _, rfl, c, _, _, _, rfl, z0, SqL.of hcr, atI_nat hrow, ?_⟩
      refine ⟨_, rfl, p, C, dx, _, _, rfl, hs4 _ _ hp, T.cl, T.nF, l1, _, rfl, pa, _, _, _, rfl, z0, SqL.of (hs4 _ _ ha), atI_nat hA, ?_⟩
      refine ⟨_, rfl, p, C, dx, _, _, rfl, hs4 _ _ hp, T.cl, T.nS, l2, _, rfl, pb, _, _, _, rfl, z0, SqL.of (hs4 _ _ hb), atI_nat hB, _, _, rfl, _, _, rfl, rfl, ?_⟩
      refine ⟨_, rfl, _, rfl, m, _, _, _, rfl, z0, SqL.of M4.at_p, atI_nat hmat, _, rfl, c, _, _, k, rfl, z0, hcr, ixN_nat (by rw [List.length_map, hsqk.2 k hk]; exact hk), ?_⟩
      rw [min_py]
      have hcm' : m ≠ c := fun e => M4.pn (e ▸ hcm)
      refine ⟨_, rfl, ⟨fun b o e => ?_, M4.np, M4.na, M4.nd, M4.pn, ?_, ?_⟩⟩
      · rw [upd_ne (ne_of_none e (M4.na c hcm))]; exact hs4 _ _ e
      · rw [upd_ne hcm']; exact M4.at_p
      · rw [diag_succ]
        have := M4.rows.set (r := ((diag A1 B1 k (planNW (surplus A1 B1) (surplus B1 A1))).getD k []).set k (((diag A1 B1 k (planNW (surplus A1 B1) (surplus B1 A1))).getD k []).getD k 0 + min (A1.getD k 0) (B1.getD k 0))) M4.nd hc
        rw [List.map_set] at this
        exact this
    · rintro σ H4 ⟨v, rfl, M4⟩
      have e : ((A1.map V.int).length : Int).toNat = A1.length := by rw [List.length_map]; rfl
      rw [e] at M4
      exact ⟨_, rfl, q _ m as M4⟩
/-! differing -/
def MatAt (H : Hp) (p : Addr) (P : List (List Int)) : Prop := ∃ as : List Addr, H p = some (.lst (as.map V.ref)) ∧ RowsAt H as P
theorem NewM.mat {H H' : Hp} {p : Addr} {as : List Addr} {P : List (List Int)} (M : NewM H H' p as P) : MatAt H' p P := ⟨as, M.at_p, M.rows⟩
theorem MatAt.same {H H' : Hp} {p : Addr} {P : List (List Int)} (h : MatAt H p P) (s : Same H H') : MatAt H' p P := by
  obtain ⟨as, h1, h2⟩ := h
  exact ⟨as, s _ _ h1, h2.same fun a _ o e => s _ _ e⟩
def spDiff : Sp := fun vs H Q _ => ∃ (p : Addr) (n : Nat) (P : List (List Int)), vs = [.ref p] ∧ MatAt H p P ∧ Sq n P ∧ n ≤ 100 ∧ ∀ H', Same H H' → Q (.int (differZ P)) H'
theorem scDiff : FnScope ["plan", "point", "row"] ["plan"] (defScope sDiff) := ⟨rfl, rfl, rfl, by decide +kernel, rfl, by decide +kernel, by decide +kernel⟩
def difs (P : List (List Int)) : List Int := P.zipIdx.map fun y => y.1.sum - y.1.getD y.2 0
theorem ref_at {as : List Addr} {i : Nat} {y : V} (h : (as.map V.ref)[i]? = some y) : ∃ z, as[i]? = some z ∧ y = V.ref z := by
  rw [List.getElem?_map] at h
  cases e : as[i]? with
  | none => rw [e] at h; cases h
  | some z => rw [e] at h; exact ⟨z, rfl, (Option.some.inj h).symm⟩
theorem ok_diff {f : Addr} {fd : FuncData} (F : Fun K "differing" "differing" sDiff f fd) (B : Blt mg) : FnOk P w K mg base CX0 1 f fd ["plan"] spDiff := by
  refine F.ok scDiff (fun vs H Q E h => ?_) (fun cdv A outer s H vs Q E hr h => ⟨_, pss_one (ps_ret (pe_callB (cr_sum rfl) (by rfl) B.sum (by decide +kernel) (pa_cons
      (pe_lc (own := [("point", 1), ("row", 2)]) (g := gTup K 2 (gCons (gName 1) (gCons (gName 2) gNil))) (tt := tYes) (te := tOp (rI0 fun i j => .int (i - j)) (tCB (rSum K) (tCons (tVar 2) tNil)) (tOp (rIxL K) (tVar 2) (tVar 1))) (by rfl) scDiff.nd (pi_enum (by rfl) B.enumerate (pa_cons (pv 0) pa_nil)) (blkOk_by (own := [("point", 1), ("row", 2)]) (N := ["plan", "point", "row"]) (sc := defScope sDiff) (by decide +kernel))
        (fun _ _ _ _ _ => pg_tup rfl (pgs_cons (pg_name (i := 1) scDiff.nd rfl (Or.inl rfl)) (pgs_cons (pg_name (i := 2) scDiff.nd rfl (Or.inl rfl)) pgs_nil))) (fun _ _ _ _ _ => pts_nil)
        (fun _ _ _ _ _ => pe_op op_sub (pe_callB (cr_sum rfl) (by rfl) B.sum (by decide +kernel) (pa_cons (pv 2) pa_nil)) (pe_ix ix_list (pv 2) (pv 1) (fun _ _ => rfl)))) pa_nil))), ?_⟩)
  · obtain ⟨a, _, b, rfl, _⟩ := h
    rfl
  · obtain ⟨a, n, M, rfl, ⟨as, ha, hR⟩, hsq, hn, q⟩ := h
    refine ⟨_, rfl, a, _, rfl, SqL.of ha, fun D hD => ?_⟩
    refine lc_enum (K := K) (a := a) (xs := as.map V.ref) (fun i H' => Same H H' ∧ H' D = some (.lst ((difs (M.take i)).map V.int))) ⟨same_new hD, upd_same⟩ (fun i H' h => SqL.of (h.1 _ _ ha)) ?_ ?_
    · rintro i x t H' hi ⟨s5, hD5⟩ ht
      obtain ⟨c, hc, rfl⟩ := ref_at hi
      have hlt : i < M.length := by rw [← hR.1]; exact (List.getElem?_eq_some_iff.mp hc).1
      have hM : M[i]? = some M[i] := List.getElem?_eq_getElem hlt
      have hrow := hR.2 i c _ hc hM
      have hrl : M[i].length = n := by
        have := hsq.2 i (by rw [← hsq.1]; exact hlt)
        rw [List.getD_eq_getElem?_getD, hM] at this; exact this
      have hat := getD_at (r := M[i]) (k := i) (by rw [hrl, ← hsq.1]; exact hlt)
      have s6 : Same H (upd H' t (.tup [V.int i, V.ref c])) := s5.trans (same_new ht)
      refine ⟨t, _, rfl, SqT.of upd_same, rfl, _, _, rfl, _, _, rfl, rfl, rfl, ?_⟩
      refine ⟨_, rfl, c, _, rfl, SqL.of (s6 _ _ hrow), _, rfl, _, rfl, c, _, _, _, rfl, rfl, SqL.of (s6 _ _ hrow), atI_nat hat, _, _, rfl, rfl, _, same_new ht D _ hD5, ?_, fun b o e => ?_, ?_⟩
      · rw [List.length_map, sz, difs, List.length_map, List.length_zipIdx]
        have := List.length_take_le' i M
        have := hsq.1
        omega
      · rw [upd_ne (ne_of_none e hD)]; exact s6 _ _ e
      · rw [upd_same]
        have e : difs (M.take (i + 1)) = difs (M.take i) ++ [M[i].sum - M[i].getD i 0] := by
          unfold difs
          rw [zipIdx_take hM, List.map_append]; rfl
        rw [e, List.map_append]; rfl
    · rintro H' ⟨s5, hD5⟩
      rw [List.length_map, hR.1, List.take_length] at hD5
      exact ⟨D, _, rfl, SqL.of hD5, q H' s5⟩
/-! in_one_row -/
def spInOne : Sp := fun vs H Q _ => ∃ (p : Addr) (P : List (List Int)), vs = [.ref p] ∧ MatAt H p P ∧ P.flatten.length ≤ 10000 ∧ NewL H Q P.flatten
theorem scInOne : FnScope ["plan", "numbers", "row"] ["plan"] (defScope sInOne) := ⟨rfl, rfl, rfl, by decide +kernel, rfl, by decide +kernel, by decide +kernel⟩
theorem flatten_take_le (M : List (List Int)) (i : Nat) : (M.take i).flatten.length ≤ M.flatten.length := by
  conv => rhs; rw [← List.take_append_drop i M]
  rw [List.flatten_append, List.length_append]; omega
theorem ok_inOne {f : Addr} {fd : FuncData} (F : Fun K "in_one_row" "in_one_row" sInOne f fd) : FnOk P w K mg base CX0 1 f fd ["plan"] spInOne := by
  refine F.ok scInOne (fun vs H Q E h => ?_) (fun cdv A outer s H vs Q E hr h => ⟨_, pss_cons (ps_set (i := 1) scInOne.nd rfl (Or.inl rfl) (pe_lst pa_nil))
      (pss_cons (ps_for PassesOwn.never rfl (pi_list (pv 0)) (pg_name (i := 2) scInOne.nd rfl (Or.inl rfl))
        (pss_one (ps_expr (pe_bm PySem.F.plainAttrs_list PySem.F.slot_list_extend PySem.F.type_list_extend mt_extend (pv 1) (pa_cons (pv 2) pa_nil)))))
      (pss_one (ps_ret (pv 1)))), ?_⟩)
  · obtain ⟨a, b, rfl, _⟩ := h
    rfl
  · obtain ⟨a, M, rfl, ⟨as, ha, hR⟩, hx, q⟩ := h
    refine ⟨by show 0 ≤ sizeLine; decide, fun p hp => ?_⟩
    refine ⟨_, rfl, a, rfl, ⟨_, SqL.of (same_new hp _ _ ha)⟩, for_list (K := K) (a := a) (xs := as.map V.ref) (fun i σ H' => ∃ v : Option V, σ = [some (.ref a), some (.ref p), v] ∧ Same H H' ∧ H' p = some (.lst ((M.take i).flatten.map V.int)))
      ⟨none, rfl, same_new hp, upd_same⟩ (fun i σ H' _ ⟨_, _, s5, _⟩ => SqL.of (s5 _ _ ha)) ?_ ?_⟩
    · rintro i y σ H' hi ⟨v, rfl, s5, hp5⟩
      obtain ⟨c, hc, rfl⟩ := ref_at hi
      have hlt : i < M.length := by rw [← hR.1]; exact (List.getElem?_eq_some_iff.mp hc).1
      have hM : M[i]? = some M[i] := List.getElem?_eq_getElem hlt
      have hrow := hR.2 i c _ hc hM
      have e : (M.take (i + 1)).flatten = (M.take i).flatten ++ M[i] := by rw [take_more hM, List.flatten_append]; simp
      refine ⟨_, rfl, .inl ⟨rfl, _, SqL.of hp5⟩, _, rfl, p, c, _, _, rfl, rfl, hp5, s5 _ _ hrow, ?_, ?_⟩
      · rw [List.length_map, List.length_map, ← List.length_append, ← e, sz]
        have := flatten_take_le M (i + 1)
        omega
      · refine ⟨_, rfl, fun b' o e => ?_, ?_⟩
        · rw [upd_ne (ne_of_none e hp)]; exact s5 _ _ e
        · rw [upd_same, e, List.map_append]
    · rintro σ H' ⟨v, rfl, s5, hp5⟩
      rw [List.length_map, hR.1, List.take_length] at hp5
      exact ⟨_, rfl, q _ p s5 hp hp5⟩
end
end TT

set_option Elab.async false
set_option maxRecDepth 100000
set_option maxHeartbeats 2000000
namespace TT
open PySem PySem.Spec PyProof.Rows L2
theorem lc_rangeC {lo c : Int} {n : Nat} {g : TG} {tt : TT} {te : TE} {vs : List Nat} {σ : L2.St} {H1 : Hp} {D : Addr} {Qd : Hp → Prop} (Pv : Nat → Hp → Prop) (h0 : Pv 0 (upd H1 D (.lst [])))
    (hs : ∀ i H, i < n → Pv i H → g (.int (lo + (i : Nat) * c)) (wipe σ vs) H fun σ2 H2 => wipe σ2 vs = wipe σ vs ∧ tt σ2 H2 fun b H3 =>
      if b = true then te σ2 H3 fun y H4 => ∃ acc, H4 D = some (.lst acc) ∧ acc.length < sizeLine ∧ Pv (i + 1) (upd H4 D (.lst (acc ++ [y]))) else Pv (i + 1) H3) (hd : ∀ H, Pv n H → Qd H) :
    ∃ W : Nat → Nat → Hp → Prop, (∃ m, W 0 m (upd H1 D (.lst []))) ∧ ∀ i m H, W i m H →
      ((Itc lo c n).stop i H ∧ Qd H) ∨ ((Itc lo c n).go i H ∧ ∃ Nx : Hp → Prop, (∀ H', Nx H' → ∃ m', m' < m ∧ W (i + 1) m' H') ∧ ∀ x H', (Itc lo c n).yld i H x H' → g x (wipe σ vs) H' fun σ2 H2 => wipe σ2 vs = wipe σ vs ∧ tt σ2 H2 fun b H3 =>
        if b = true then te σ2 H3 fun y H4 => ∃ acc, H4 D = some (.lst acc) ∧ acc.length < sizeLine ∧ Nx (upd H4 D (.lst (acc ++ [y]))) else Nx H3) := by
  refine ⟨fun i m H => m = n - i ∧ i ≤ n ∧ Pv i H, ⟨n, by simp, Nat.zero_le _, h0⟩, ?_⟩
  rintro i m H ⟨rfl, hi, p⟩
  by_cases hlt : i < n
  · refine .inr ⟨hlt, Pv (i + 1), fun H' p' => ⟨n - (i + 1), by omega, rfl, hlt, p'⟩, fun x H' y => ?_⟩
    obtain ⟨e, y⟩ := y
    subst e y
    exact hs i _ hlt p
  · have e : i = n := by omega
    subst e
    exact .inl ⟨Nat.le_refl _, hd H p⟩
theorem dp_ints {K : PySem.W.Frag} {H : Hp} : ∀ (l : List Int), DpAll K H (l.map V.int) (l.map PyData.int)
  | [] => .nil
  | x :: l => .cons (.int x) (dp_ints l)
theorem eqv_ints : ∀ (a b : List Int), PyData.eqv (.list (a.map PyData.int)) (.list (b.map PyData.int)) = decide (a = b)
  | [], [] => by simp [PyData.eqv, PyData.eqvAll]
  | [], _ :: _ => by simp [PyData.eqv, PyData.eqvAll]
  | _ :: _, [] => by simp [PyData.eqv, PyData.eqvAll]
  | x :: a, y :: b => by
    have ih := eqv_ints a b
    simp only [PyData.eqv] at ih
    simp only [PyData.eqv, List.map_cons, PyData.eqvAll, ih]
    by_cases c : x = y
    · subst c; simp
    · simp [c]
theorem canLay_ints : ∀ (l : List Int), PyData.canLayAll0 (l.map PyData.int) = true
  | [] => rfl
  | x :: l => by
    show (true && PyData.canLayAll0 (l.map PyData.int)) = true
    rw [canLay_ints l]; rfl
theorem depth_ints : ∀ (l : List Int), PyData.depthAll (l.map PyData.int) = 0
  | [] => rfl
  | x :: l => by
    show max 0 (PyData.depthAll (l.map PyData.int)) = 0
    rw [depth_ints l]; rfl
theorem shaped_ints (l : List Int) : SeqAt.shaped (.list (l.map PyData.int)) = true := by
  show (PyData.canLayAll0 (l.map PyData.int) && decide (PyData.depthAll (l.map PyData.int) + 1 ≤ 64)) = true
  rw [canLay_ints, depth_ints]; rfl
section
variable {P : Program} {w : World} {K : PySem.W.Frag} {mg : Str → Option Value} {base : Heap}
/-! in_rows -/
def spInRows : Sp := fun vs H Q _ => ∃ (a : Addr) (xs : List Int) (n : Nat), vs = [.ref a, .int n] ∧ H a = some (.lst (xs.map V.int)) ∧ 1 ≤ n ∧ n ≤ 6 ∧ xs.length = n * n ∧ ∀ H' p as, NewM H H' p as (rowsZ n xs) → Q (.ref p) H'
theorem scInRows : FnScope ["numbers", "length", "start"] ["numbers", "length"] (defScope sInRows) := ⟨rfl, rfl, rfl, by decide +kernel, rfl, by decide +kernel, by decide +kernel⟩
theorem rgc_n {n : Nat} (h1 : 1 ≤ n) (h6 : n ≤ 6) : RgC 0 ((n * n : Nat) : Int) (n : Int) n := by
  have : n = 1 ∨ n = 2 ∨ n = 3 ∨ n = 4 ∨ n = 5 ∨ n = 6 := by omega
  rcases this with rfl | rfl | rfl | rfl | rfl | rfl <;> exact ⟨by decide, by decide, by decide, by decide⟩
theorem cut_row {n i : Nat} {p : List Int} (hp : p.length = n * n) (hi : i < n) : cutV (p.map V.int) (some (0 + (i : Int) * (n : Int))) (some (0 + (i : Int) * (n : Int) + (n : Int))) = ((List.range n).map fun j => p.getD (i * n + j) 0).map V.int := by
  have hle : i * n + n ≤ n * n := by
    have : (i + 1) * n ≤ n * n := Nat.mul_le_mul_right n hi
    rw [Nat.add_mul, Nat.one_mul] at this
    exact this
  unfold cutV
  have e1 : (0 + (i : Int) * (n : Int)) = ((i * n : Nat) : Int) := by rw [Int.zero_add]; rfl
  have e2 : (0 + (i : Int) * (n : Int) + (n : Int)) = ((i * n + n : Nat) : Int) := by rw [Int.zero_add]; rfl
  rw [e2, e1, HT.sIx_nat, HT.sIx_nat, List.length_map, hp, Nat.min_eq_left (by omega), Nat.min_eq_left (by omega), ← List.map_drop, ← List.map_take]
  congr 1
  apply ext_getD 0 (n := n)
  · rw [List.length_take, List.length_drop]; omega
  · rw [List.length_map, List.length_range]
  · intro j hj
    rw [getD_range _ _ hj, List.getD_eq_getElem?_getD, List.getElem?_take_of_lt (by omega), List.getElem?_drop, ← List.getD_eq_getElem?_getD]
theorem rowsZ_take {n i : Nat} (p : List Int) (hi : i < n) : (rowsZ n p).take (i + 1) = (rowsZ n p).take i ++ [(List.range n).map fun j => p.getD (i * n + j) 0] := by
  apply take_more
  unfold rowsZ
  rw [List.getElem?_map, List.getElem?_range hi]; rfl
theorem NewM.snoc {H H' H2 : Hp} {D r : Addr} {as : List Addr} {M : List (List Int)} {row : List Int} (h : NewM H H' D as M) (s : Same H' H2) (hr : H' r = none) (h2 : H2 r = some (.lst (row.map V.int))) : NewM H (upd H2 D (.lst (as.map V.ref ++ [V.ref r]))) D (as ++ [r]) (M ++ [row]) := by
  have hrD : r ≠ D := Ne.symm (ne_of_none h.at_p hr)
  have hras : r ∉ as := fun hc => by
    obtain ⟨t, ht⟩ := h.rows.there hc
    rw [hr] at ht; cases ht
  refine ⟨fun c o e => ?_, h.np, ?_, nodup_snoc h.nd hras, ?_, ?_, ?_⟩
  · rw [upd_ne (ne_of_none e h.np)]; exact s _ _ (h.same _ _ e)
  · intro c hc
    rcases List.mem_append.mp hc with hc | hc
    · exact h.na c hc
    · rw [List.mem_singleton.mp hc]; exact h.same.free hr
  · intro hc
    rcases List.mem_append.mp hc with hc | hc
    · exact h.pn hc
    · exact hrD (List.mem_singleton.mp hc).symm
  · rw [upd_same, List.map_append]; rfl
  · refine RowsAt.snoc (h.rows.same fun c hc o e => ?_) (by rw [upd_ne hrD]; exact h2)
    have hcp : c ≠ D := fun z => h.pn (z ▸ hc)
    rw [upd_ne hcp]
    exact s _ _ e
theorem ok_inRows {f : Addr} {fd : FuncData} (F : Fun K "in_rows" "in_rows" sInRows f fd) (B : Blt mg) : FnOk P w K mg base CX0 1 f fd ["numbers", "length"] spInRows := by
  refine F.ok scInRows (fun vs H Q E h => ?_) (fun cdv A outer s H vs Q E hr h => ⟨_, pss_one (ps_ret
      (pe_lc (own := [("start", 2)]) (g := gName 2) (tt := tYes) (te := tSl (rSlL K) (tVar 0) (tPart (tVar 2)) (tPart (tOp (rI0 fun i j => .int (i + j)) (tVar 2) (tVar 1)))) (by rfl) scInRows.nd (pi_range3 (by rfl) B.range (pa_cons pe_int (pa_cons (pe_callB call_len_seq (by rfl) B.len PySem.boot_len (pa_cons (pv 0) pa_nil)) (pa_cons (pv 1) pa_nil)))) (blkOk_by (own := [("start", 2)]) (N := ["numbers", "length", "start"]) (sc := defScope sInRows) (by decide +kernel))
        (fun _ _ _ _ _ => pg_name (i := 2) scInRows.nd rfl (Or.inl rfl)) (fun _ _ _ _ _ => pts_nil)
        (fun _ _ _ _ _ => pe_slice sl_list (pv 0) (po_some (pv 2)) (po_some (pe_op op_add (pv 2) (pv 1)))))), ?_⟩)
  · obtain ⟨a, b, _, rfl, _⟩ := h
    rfl
  · obtain ⟨a, xs, n, rfl, ha, h1, h6, hx, q⟩ := h
    refine ⟨_, rfl, a, _, rfl, .inl (SqL.of ha), _, rfl, 0, ((n * n : Nat) : Int), (n : Int), n, by rw [List.length_map, hx], rgc_n h1 h6, fun D hD => ?_⟩
    refine lc_rangeC (lo := 0) (c := (n : Int)) (n := n) (fun i H' => ∃ as, NewM H H' D as ((rowsZ n xs).take i)) ⟨[], ⟨same_new hD, hD, by simp, by simp, by simp, upd_same, RowsAt.nil _⟩⟩ ?_ ?_
    · rintro i H' hi ⟨as, M⟩
      refine ⟨rfl, ?_⟩
      refine ⟨_, rfl, _, rfl, _, rfl, _, rfl, _, rfl, _, _, rfl, rfl, _, rfl, a, _, rfl, SqL.of (M.same _ _ ha), fun r hr0 => ?_⟩
      rw [cut_row hx hi]
      refine ⟨_, same_new hr0 D _ M.at_p, ?_, as ++ [r], ?_⟩
      · rw [List.length_map, M.rows.1, List.length_take, sz]; omega
      · rw [rowsZ_take xs hi]
        exact M.snoc (same_new hr0) hr0 upd_same
    · rintro H' ⟨as, M⟩
      have e : (rowsZ n xs).take n = rowsZ n xs := by rw [List.take_of_length_le (by rw [(rowsZ_sq n xs).1]; exact Nat.le_refl _)]
      rw [e] at M
      exact q _ D as M
/-! column_sum -/
def spCol : Sp := fun vs H Q _ => ∃ (p : Addr) (n j : Nat) (P : List (List Int)), vs = [.ref p, .int j] ∧ MatAt H p P ∧ Sq n P ∧ j < n ∧ n ≤ 100 ∧ ∀ H', Same H H' → Q (.int (colZ P j)) H'
theorem scCol : FnScope ["plan", "point", "row"] ["plan", "point"] (defScope sCol) := ⟨rfl, rfl, rfl, by decide +kernel, rfl, by decide +kernel, by decide +kernel⟩
theorem ok_col {f : Addr} {fd : FuncData} (F : Fun K "column_sum" "column_sum" sCol f fd) (B : Blt mg) : FnOk P w K mg base CX0 1 f fd ["plan", "point"] spCol := by
  refine F.ok scCol (fun vs H Q E h => ?_) (fun cdv A outer s H vs Q E hr h => ⟨_, pss_one (ps_ret (pe_callB (cr_sum rfl) (by rfl) B.sum (by decide +kernel) (pa_cons
      (pe_lc (own := [("row", 2)]) (g := gName 2) (tt := tYes) (te := tOp (rIxL K) (tVar 2) (tVar 1)) (by rfl) scCol.nd (pi_list (pv 0)) (blkOk_by (own := [("row", 2)]) (N := ["plan", "point", "row"]) (sc := defScope sCol) (by decide +kernel))
        (fun _ _ _ _ _ => pg_name (i := 2) scCol.nd rfl (Or.inl rfl)) (fun _ _ _ _ _ => pts_nil)
        (fun _ _ _ _ _ => pe_ix ix_list (pv 2) (pv 1) (fun _ _ => rfl))) pa_nil))), ?_⟩)
  · obtain ⟨a, _, _, b, rfl, _⟩ := h
    rfl
  · obtain ⟨a, n, j, M, rfl, ⟨as, ha, hR⟩, hsq, hj, hn, q⟩ := h
    refine ⟨_, rfl, a, rfl, ⟨_, SqL.of ha⟩, fun D hD => ?_⟩
    refine lc_list (K := K) (a := a) (xs := as.map V.ref) (fun i H' => Same H H' ∧ H' D = some (.lst (((M.take i).map fun r => r.getD j 0).map V.int))) ⟨same_new hD, upd_same⟩ (fun i H' _ h => SqL.of (h.1 _ _ ha)) ?_ ?_
    · rintro i x H' hi ⟨s5, hD5⟩
      obtain ⟨c, hc, rfl⟩ := ref_at hi
      have hlt : i < M.length := by rw [← hR.1]; exact (List.getElem?_eq_some_iff.mp hc).1
      have hM : M[i]? = some M[i] := List.getElem?_eq_getElem hlt
      have hrow := hR.2 i c _ hc hM
      have hrl : M[i].length = n := by
        have := hsq.2 i (by rw [← hsq.1]; exact hlt)
        rw [List.getD_eq_getElem?_getD, hM] at this; exact this
      have hat := getD_at (r := M[i]) (k := j) (by rw [hrl]; exact hj)
      refine ⟨rfl, _, rfl, _, rfl, c, _, _, _, rfl, rfl, SqL.of (s5 _ _ hrow), atI_nat hat, _, hD5, ?_, fun b o e => ?_, ?_⟩
      · rw [List.length_map, sz, List.length_map]
        have := List.length_take_le' i M
        have := hsq.1
        omega
      · rw [upd_ne (ne_of_none e hD)]; exact s5 _ _ e
      · rw [upd_same, take_more hM, List.map_append, List.map_append]; rfl
    · rintro H' ⟨s5, hD5⟩
      rw [List.length_map, hR.1, List.take_length] at hD5
      exact ⟨D, _, rfl, SqL.of hD5, q H' s5⟩
/-! is_plan -/
def isPlanI (n : Nat) (T E : Int) (A B : List Int) (P : List (List Int)) : Bool := !decide (∃ x ∈ P.flatten, x < 0) && (decide ((P.map fun r => r.sum).map (· * T) = A.map (· * E)) && decide (((List.range n).map (colZ P)).map (· * T) = B.map (· * E)))
def spIsPlan (C : Addr) : Sp := fun vs H Q _ => ∃ (p u : Addr) (n : Nat) (M : List (List Int)) (T E : Int) (A B : List Int), vs = [.ref p, .int E, .ref u] ∧ MatAt H p M ∧ Sq n M ∧ 1 ≤ n ∧ n ≤ 6 ∧ PairAt C H u T A B ∧ A.length ≤ 100 ∧ B.length ≤ 100 ∧
  (∀ r ∈ M, CMulW r.sum T) ∧ (∀ j, j < n → CMulW (colZ M j) T) ∧ (∀ x ∈ A, CMulW x E) ∧ (∀ x ∈ B, CMulW x E) ∧ ∀ H', Same H H' → Q (.bl (isPlanI n T E A B M)) H'
theorem scIsPlan : FnScope ["plan", "lower", "pair", "row_sums", "column_sums", "row", "point"] ["plan", "lower", "pair"] (defScope sIsPlan) := ⟨rfl, rfl, rfl, by decide +kernel, rfl, by decide +kernel, by decide +kernel⟩
theorem flatten_len {n : Nat} {M : List (List Int)} (h : Sq n M) : M.flatten.length = n * n := by
  have : ∀ (l : List (List Int)), (∀ r ∈ l, r.length = n) → l.flatten.length = l.length * n := by
    intro l
    induction l with
    | nil => intro _; simp
    | cons r l ih =>
      intro hl
      rw [List.flatten_cons, List.length_append, hl r List.mem_cons_self, ih fun r hr => hl r (List.mem_cons_of_mem _ hr), List.length_cons, Nat.add_mul]; omega
  rw [this M, h.1]
  intro r hr
  obtain ⟨i, hi, e⟩ := List.getElem_of_mem hr
  have := h.2 i (by rw [← h.1]; exact hi)
  rw [List.getD_eq_getElem?_getD, List.getElem?_eq_getElem hi] at this
  rw [← e]; exact this
theorem ok_isPlan {C f g1 g2 g3 : Addr} {fd gd1 gd2 gd3 : FuncData} (F : Fun K "is_plan" "is_plan" sIsPlan f fd) (T : PairTxt K mg C) (B : Blt mg) (GI : Def P w K mg base 1 "in_one_row" ["plan"] spInOne g1 gd1) (GC : Def P w K mg base 1 "column_sum" ["plan", "point"] spCol g2 gd2) (GT : Def P w K mg base 1 "times" ["numbers", "factor"] spTimes g3 gd3) :
    FnOk P w K mg base CX0 2 f fd ["plan", "lower", "pair"] (spIsPlan C) := by
  refine F.ok scIsPlan (fun vs H Q E h => ?_) (fun cdv A outer s H vs Q E hr h => ⟨_,
    pss_cons (ps_if (pt_cmpR op_lt (pe_callB (cr_min rfl) (by rfl) B.min (by decide +kernel) (pa_cons (pe_call GI.ok hr rfl GI.mg GI.kp GI.b .nil pass0 (pa_cons (pv 0) pa_nil)) pa_nil)) pe_int (nomark _)) (pss_one (ps_ret pe_bl)) pss_nil)
    (pss_cons (ps_setLc (i := 3) (own := [("row", 5)]) (g := gName 5) (tt := tYes) (te := tCB (rSum K) (tCons (tVar 5) tNil)) (by rfl) scIsPlan.nd rfl rfl (sw_true rfl rfl rfl (by decide +kernel)) (pi_list (pv 0)) (blkOk_by (own := [("row", 5)]) (N := ["plan", "lower", "pair", "row_sums", "column_sums", "row", "point"]) (sc := defScope sIsPlan) (by decide +kernel))
        (fun _ _ _ _ _ => pg_name (i := 5) scIsPlan.nd rfl (Or.inl rfl)) (fun _ _ _ _ _ => pts_nil) (fun _ _ _ _ _ => pe_callB (cr_sum rfl) (by rfl) B.sum (by decide +kernel) (pa_cons (pv 5) pa_nil)))
    (pss_cons (ps_setLc (i := 4) (own := [("point", 6)]) (g := gName 6) (tt := tYes) (te := tCall spCol [] E0 (tCons (tVar 0) (tCons (tVar 6) tNil))) (by rfl) scIsPlan.nd rfl rfl (sw_true rfl rfl rfl (by decide +kernel)) (pi_range1 (by rfl) B.range (pa_cons (pe_callB call_len_seq (by rfl) B.len PySem.boot_len (pa_cons (pv 0) pa_nil)) pa_nil)) (blkOk_by (own := [("point", 6)]) (N := ["plan", "lower", "pair", "row_sums", "column_sums", "row", "point"]) (sc := defScope sIsPlan) (by decide +kernel))
        (fun _ _ _ _ _ => pg_name (i := 6) scIsPlan.nd rfl (Or.inl rfl)) (fun _ _ _ _ _ => pts_nil) (fun _ _ _ _ _ => pe_call GC.ok hr rfl GC.mg GC.kp GC.b .nil pass0 (pa_cons (pv 0) (pa_cons (pv 6) pa_nil))))
    (pss_cons (ps_if (pt_cmpR (op_neD hr.units) (pe_call GT.ok hr rfl GT.mg GT.kp GT.b .nil pass0 (pa_cons (pv 3) (pa_cons (pe_fld (pv 2) rfl) pa_nil))) (pe_call GT.ok hr rfl GT.mg GT.kp GT.b .nil pass0 (pa_cons (pe_fld (pv 2) rfl) (pa_cons (pv 1) pa_nil))) (nomark _)) (pss_one (ps_ret pe_bl)) pss_nil)
    (pss_one (ps_ret (pe_cmpR (op_eqD hr.units) (pe_call GT.ok hr rfl GT.mg GT.kp GT.b .nil pass0 (pa_cons (pv 4) (pa_cons (pe_fld (pv 2) rfl) pa_nil))) (pe_call GT.ok hr rfl GT.mg GT.kp GT.b .nil pass0 (pa_cons (pe_fld (pv 2) rfl) (pa_cons (pv 1) pa_nil))) (nomark _))))))), ?_⟩)
  · obtain ⟨_, _, _, _, _, _, _, _, rfl, _⟩ := h
    rfl
  · obtain ⟨a, u, n, M, t, e, A1, B1, rfl, hM, hsq, h1, h6, hu, lA, lB, m1, m2, m3, m4, q⟩ := h
    obtain ⟨as, ha, hR⟩ := id hM
    obtain ⟨dx, pa, pb, hu1, hpa, hpb⟩ := hu
    have hfl := flatten_len hsq
    have hn2 : n * n ≤ 36 := Nat.mul_le_mul h6 h6
    refine ⟨_, rfl, a, M, rfl, hM, by omega, fun H1 p1 s1 n1 h1' => ?_⟩
    refine ⟨p1, _, rfl, SqL.of h1', ?_, fun m hm hle => ⟨_, _, rfl, rfl, _, rfl, ?_⟩⟩
    · rw [hfl]; exact Nat.mul_pos (by omega) (by omega)
    by_cases c : m < 0
    · refine if_true_of (decide_eq_true c) ?_
      have e0 : isPlanI n t e A1 B1 M = false := by
        unfold isPlanI
        rw [decide_eq_true (⟨m, hm, c⟩ : ∃ x ∈ M.flatten, x < 0)]; rfl
      have := q H1 s1
      rw [e0] at this
      exact this
    · refine if_false_of (decide_eq_false c) ?_
      have e0 : isPlanI n t e A1 B1 M = (decide ((M.map fun r => r.sum).map (· * t) = A1.map (· * e)) && decide (((List.range n).map (colZ M)).map (· * t) = B1.map (· * e))) := by
        unfold isPlanI
        rw [decide_eq_false (fun ⟨x, hx, hx0⟩ => c (by have := hle x hx; omega) : ¬ ∃ x ∈ M.flatten, x < 0)]; rfl
      rw [e0] at q
      refine ⟨_, rfl, a, rfl, ⟨_, SqL.of (s1 _ _ ha)⟩, fun D hD => ?_⟩
      refine lc_list (K := K) (a := a) (xs := as.map V.ref) (fun i H' => Same H1 H' ∧ H' D = some (.lst (((M.take i).map fun r => r.sum).map V.int))) ⟨same_new hD, upd_same⟩ (fun i H' _ h => SqL.of (h.1 _ _ (s1 _ _ ha))) ?_ ?_
      · rintro i x H' hi ⟨s5, hD5⟩
        obtain ⟨b, hb, rfl⟩ := ref_at hi
        have hlt : i < M.length := by rw [← hR.1]; exact (List.getElem?_eq_some_iff.mp hb).1
        have hMi : M[i]? = some M[i] := List.getElem?_eq_getElem hlt
        have hrow := hR.2 i b _ hb hMi
        refine ⟨rfl, _, rfl, b, _, rfl, SqL.of (s5 _ _ (s1 _ _ hrow)), _, hD5, ?_, fun b o e => ?_, ?_⟩
        · rw [List.length_map, sz, List.length_map]
          have := List.length_take_le' i M
          have := hsq.1
          omega
        · rw [upd_ne (ne_of_none e hD)]; exact s5 _ _ e
        · rw [upd_same, take_more hMi, List.map_append, List.map_append]; rfl
      · rintro H2 ⟨s2, hD2⟩
        rw [List.length_map, hR.1, List.take_length] at hD2
        have s02 := s1.trans s2
        refine ⟨_, rfl, a, _, rfl, .inl (SqL.of (s02 _ _ ha)), _, rfl, ?_, ?_, fun D2 hN2 => ?_⟩
        · rw [List.length_map]; omega
        · rw [List.length_map, hR.1, hsq.1]; omega
        have hlen : ((as.map V.ref).length : Int).toNat = n := by rw [List.length_map, hR.1, hsq.1]; rfl
        rw [hlen]
        refine lc_range (lo := 0) (n := n) (fun i H' => Same H2 H' ∧ H' D2 = some (.lst (((List.range i).map (colZ M)).map V.int))) ⟨same_new hN2, upd_same⟩ ?_ ?_
        · rintro i H' hi ⟨s5, hD5⟩
          refine ⟨rfl, _, rfl, _, rfl, a, n, i, M, by rw [Int.zero_add]; rfl, hM.same (s02.trans s5), hsq, hi, by omega, fun H6 s6 => ⟨_, s6 _ _ hD5, ?_, fun b o e => ?_, ?_⟩⟩
          · rw [List.length_map, List.length_map, List.length_range, sz]; omega
          · rw [upd_ne (ne_of_none e hN2)]; exact s6 _ _ (s5 _ _ e)
          · rw [upd_same, List.range_succ, List.map_append, List.map_append]; rfl
        · rintro H3 ⟨s3, hD3⟩
          have s03 := s02.trans s3
          have lT := pF_total t pa pb
          have lF := pF_first t pa pb
          have lS := pF_second t pa pb
          refine ⟨_, rfl, _, rfl, u, C, dx, _, _, rfl, s03 _ _ hu1, T.cl, T.nT, lT, D, _, t, rfl, s3 _ _ hD2, ?_, ?_, fun H4 p4 s4 n4 h4 => ?_⟩
          · intro x hx
            obtain ⟨r, hr, rfl⟩ := List.mem_map.mp hx
            exact m1 r hr
          · rw [List.length_map, hsq.1]; omega
          have s04 := s03.trans s4
          refine ⟨_, rfl, u, C, dx, _, _, rfl, s04 _ _ hu1, T.cl, T.nF, lF, _, rfl, pa, A1, e, rfl, s04 _ _ hpa, m3, lA, fun H5 p5 s5 n5 h5 => ?_⟩
          have s05 := s04.trans s5
          refine ⟨_, _, .lst (SqL.of (s5 _ _ h4)) (dp_ints _), .lst (SqL.of h5) (dp_ints _), shaped_ints _, shaped_ints _, _, rfl, ?_⟩
          rw [eqv_ints]
          by_cases c1 : (M.map fun r => r.sum).map (· * t) = A1.map (· * e)
          · refine if_false_of (by simp [c1]) ?_
            refine ⟨_, rfl, _, rfl, u, C, dx, _, _, rfl, s05 _ _ hu1, T.cl, T.nT, lT, D2, _, t, rfl, (s4.trans s5) _ _ hD3, ?_, ?_, fun H6 p6 s6 n6 h6 => ?_⟩
            · intro x hx
              obtain ⟨j, hj, rfl⟩ := List.mem_map.mp hx
              exact m2 j (List.mem_range.mp hj)
            · rw [List.length_map, List.length_range]; omega
            have s06 := s05.trans s6
            refine ⟨_, rfl, u, C, dx, _, _, rfl, s06 _ _ hu1, T.cl, T.nS, lS, _, rfl, pb, B1, e, rfl, s06 _ _ hpb, m4, lB, fun H7 p7 s7 n7 h7 => ?_⟩
            refine ⟨_, _, .lst (SqL.of (s7 _ _ h6)) (dp_ints _), .lst (SqL.of h7) (dp_ints _), shaped_ints _, shaped_ints _, ?_⟩
            rw [eqv_ints]
            have := q H7 (s06.trans s7)
            rw [decide_eq_true c1, Bool.true_and] at this
            exact this
          · refine if_true_of (by rw [decide_eq_false c1]; rfl) ?_
            have := q H5 s05
            rw [decide_eq_false c1, Bool.false_and] at this
            exact this
end
end TT

set_option Elab.async false
set_option maxRecDepth 100000
set_option maxHeartbeats 2000000
namespace TT
open PySem PySem.Spec PyProof.Rows L2
abbrev sFac : Stmt := top 17
abbrev sRowsB : Stmt := top 18
theorem flat_rep (n : Nat) : (List.replicate n [V.int 0]).flatten = (List.replicate n (0 : Int)).map V.int := by
  induction n with
  | zero => rfl
  | succ n ih => rw [List.replicate_succ, List.flatten_cons, ih, List.replicate_succ, List.map_cons]; rfl
theorem zipWith_getD {f : Int → Int → Int} : ∀ {A B : List Int} {i : Nat}, i < A.length → i < B.length → (List.zipWith f A B).getD i 0 = f (A.getD i 0) (B.getD i 0)
  | a :: A, b :: B, 0, _, _ => rfl
  | a :: A, b :: B, i + 1, h1, h2 => zipWith_getD (A := A) (B := B) (i := i) (by simpa using h1) (by simpa using h2)
theorem behRow_len (n j : Nat) (r fac : List Int) (Q : List (List Int)) : (behRow n j r fac Q).length = n := by
  unfold behRow; rw [List.length_map, List.length_range]
theorem behRow_zero (n : Nat) (r fac : List Int) (Q : List (List Int)) : behRow n 0 r fac Q = List.replicate n 0 := by
  unfold behRow
  apply List.ext_getElem
  · rw [List.length_map, List.length_range, List.length_replicate]
  · intro i h1 h2
    rw [List.getElem_map, List.getElem_replicate]; rfl
theorem behRow_succ {n j : Nat} {r fac : List Int} {Q : List (List Int)} (hq : (Q.getD j []).length = n) : List.zipWith (fun h a => h + r.getD j 0 * fac.getD j 0 * a) (behRow n j r fac Q) (Q.getD j []) = behRow n (j + 1) r fac Q := by
  apply ext_getD (0 : Int) (n := n) (by rw [List.length_zipWith, behRow_len, hq, Nat.min_self]) (behRow_len _ _ _ _ _)
  intro k hk
  rw [zipWith_getD (by rw [behRow_len]; exact hk) (by rw [hq]; exact hk)]
  unfold behRow
  rw [getD_range _ _ hk, getD_range _ _ hk, rs_succ]
section
variable {P : Program} {w : World} {K : PySem.W.Frag} {mg : Str → Option Value} {base : Heap}
/-! factors_behind -/
def spFac : Sp := fun vs H Q _ => ∃ (b : Addr) (B : List Int) (M : Int), vs = [.ref b, .int M] ∧ H b = some (.lst (B.map V.int)) ∧ (∀ x ∈ B, x.natAbs < 2 ^ 600) ∧ B.length ≤ 100 ∧ NewL H Q (facZ M B)
theorem scFac : FnScope ["between", "multiple", "weight"] ["between", "multiple"] (defScope sFac) := ⟨rfl, rfl, rfl, by decide +kernel, rfl, by decide +kernel, by decide +kernel⟩
theorem ok_fac {f : Addr} {fd : FuncData} (F : Fun K "factors_behind" "factors_behind" sFac f fd) : FnOk P w K mg base CX0 1 f fd ["between", "multiple"] spFac := by
  refine F.ok scFac (fun vs H Q E h => ?_) (fun cdv A outer s H vs Q E hr h => ⟨_, pss_one (ps_ret
      (pe_lc (own := [("weight", 2)]) (g := gName 2) (tt := tYes) (by rfl) scFac.nd (pi_list (pv 0)) (blkOk_by (own := [("weight", 2)]) (N := ["between", "multiple", "weight"]) (sc := defScope sFac) (by decide +kernel))
        (fun _ _ _ _ _ => pg_name (i := 2) scFac.nd rfl (Or.inl rfl)) (fun _ _ _ _ _ => pts_nil) (fun _ _ _ _ _ => pe_ifExp (pt_cmpR op_gt (pv 2) pe_int (nomark _)) (pe_op op_fdivW (pv 1) (pv 2)) pe_int))), ?_⟩)
  · obtain ⟨a, b, _, rfl, _⟩ := h
    rfl
  · obtain ⟨a, xs, k, rfl, ha, hm, hx, q⟩ := h
    refine ⟨_, rfl, a, rfl, ⟨_, SqL.of ha⟩, fun D hD => ?_⟩
    refine lc_list (K := K) (a := a) (xs := xs.map V.int) (fun i H' => Same H H' ∧ H' D = some (.lst ((facZ k (xs.take i)).map V.int))) ⟨same_new hD, upd_same⟩ (fun i H' _ h => SqL.of (h.1 _ _ ha)) ?_ ?_
    · rintro i y H' hi ⟨s5, hD5⟩
      obtain ⟨z, hz, rfl⟩ := int_at hi
      have hzm := hm z (List.mem_of_getElem? hz)
      have fin : ∀ t, t = (if z > 0 then k / z else 0) → ∃ acc, H' D = some (.lst acc) ∧ acc.length < sizeLine ∧ (Same H (upd H' D (.lst (acc ++ [V.int t]))) ∧ upd H' D (.lst (acc ++ [V.int t])) D = some (.lst ((facZ k (xs.take (i + 1))).map V.int))) := fun t ht => by
        refine ⟨_, hD5, ?_, fun b o e => ?_, ?_⟩
        · rw [List.length_map, facZ, List.length_map, sz]
          have := List.length_take_le' i xs
          omega
        · rw [upd_ne (ne_of_none e hD)]; exact s5 _ _ e
        · rw [upd_same, take_more hz, ht]
          unfold facZ
          rw [List.map_append, List.map_append]; rfl
      refine ⟨rfl, ?_⟩
      refine ⟨_, rfl, _, _, rfl, rfl, _, rfl, ?_⟩
      by_cases c : z > 0
      · refine if_true_of (decide_eq_true c) ?_
        refine ⟨_, rfl, _, rfl, _, _, rfl, rfl, wide_div c (b := 600) hzm (by decide) (by decide), fin _ ?_⟩
        rw [if_pos c]
      · refine if_false_of (decide_eq_false c) (fin _ ?_)
        rw [if_neg c]
    · rintro H' ⟨s5, hD5⟩
      rw [List.length_map, List.take_length] at hD5
      exact q _ D s5 hD hD5
/-! rows_behind -/
def spRowsB : Sp := fun vs H Q _ => ∃ (p q b : Addr) (n : Nat) (Fm Qm : List (List Int)) (fac : List Int), vs = [.ref p, .ref q, .ref b] ∧ MatAt H p Fm ∧ MatAt H q Qm ∧ H b = some (.lst (fac.map V.int)) ∧ Sq n Fm ∧ Sq n Qm ∧ fac.length = n ∧ n ≤ 6 ∧
  (∀ r ∈ Fm, ∀ x ∈ r, x.natAbs < 2 ^ 2000) ∧ (∀ x ∈ fac, x.natAbs < 2 ^ 4000) ∧ (∀ r ∈ Qm, ∀ x ∈ r, x.natAbs < 2 ^ 2000) ∧ ∀ H' p as, NewM H H' p as (behZ n Fm Qm fac) → Q (.ref p) H'
abbrev nmRB : List Str := ["front", "back", "factors", "rows", "front_row", "ways", "row", "way", "back_row", "amount", "factor", "had"]
theorem scRowsB : FnScope nmRB ["front", "back", "factors"] (defScope sRowsB) := ⟨rfl, rfl, rfl, by decide +kernel, rfl, by decide +kernel, by decide +kernel⟩
theorem ok_rowsB {f : Addr} {fd : FuncData} (F : Fun K "rows_behind" "rows_behind" sRowsB f fd) (B : Blt mg) : FnOk P w K mg base CX0 1 f fd ["front", "back", "factors"] spRowsB := by
  refine F.ok scRowsB (fun vs H Q E h => ?_) (fun cdv A outer s H vs Q E hr h => ⟨_,
    pss_cons (ps_set (i := 3) scRowsB.nd rfl (Or.inl rfl) (pe_lst pa_nil))
    (pss_cons (ps_for PassesOwn.never rfl (pi_list (pv 0)) (pg_name (i := 4) scRowsB.nd rfl (Or.inl rfl))
      (pss_cons (ps_setLc (i := 5) (own := [("amount", 9), ("factor", 10)]) (g := gTup K 2 (gCons (gName 9) (gCons (gName 10) gNil))) (tt := tYes) (by rfl) scRowsB.nd rfl rfl (sw_true rfl rfl rfl (by decide +kernel)) (pi_zip (by rfl) B.zip (pa_cons (pv 4) (pa_cons (pv 2) pa_nil))) (blkOk_by (own := [("amount", 9), ("factor", 10)]) (N := nmRB) (sc := defScope sRowsB) (by decide +kernel))
        (fun _ _ _ _ _ => pg_tup rfl (pgs_cons (pg_name (i := 9) scRowsB.nd rfl (Or.inl rfl)) (pgs_cons (pg_name (i := 10) scRowsB.nd rfl (Or.inl rfl)) pgs_nil))) (fun _ _ _ _ _ => pts_nil) (fun _ _ _ _ _ => pe_op op_mulW (pv 9) (pv 10)))
      (pss_cons (ps_set (i := 6) scRowsB.nd rfl (Or.inl rfl) (pe_op op_rep (pe_lst (pa_cons pe_int pa_nil)) (pe_callB call_len_seq (by rfl) B.len PySem.boot_len (pa_cons (pv 4) pa_nil))))
      (pss_cons (ps_for PassesOwn.never rfl (pi_zip (by rfl) B.zip (pa_cons (pv 5) (pa_cons (pv 1) pa_nil))) (pg_tup rfl (pgs_cons (pg_name (i := 7) scRowsB.nd rfl (Or.inr rfl)) (pgs_cons (pg_name (i := 8) scRowsB.nd rfl (Or.inl rfl)) pgs_nil)))
        (pss_one (ps_setLc (i := 6) (own := [("had", 11), ("amount", 9)]) (g := gTup K 2 (gCons (gName 11) (gCons (gName 9) gNil))) (tt := tYes) (by rfl) scRowsB.nd rfl rfl (sw_true rfl rfl rfl (by decide +kernel)) (pi_zip (by rfl) B.zip (pa_cons (pv 6) (pa_cons (pv 8) pa_nil))) (blkOk_by (own := [("had", 11), ("amount", 9)]) (N := nmRB) (sc := defScope sRowsB) (by decide +kernel))
          (fun _ _ _ _ _ => pg_tup rfl (pgs_cons (pg_name (i := 11) scRowsB.nd rfl (Or.inl rfl)) (pgs_cons (pg_name (i := 9) scRowsB.nd rfl (Or.inl rfl)) pgs_nil))) (fun _ _ _ _ _ => pts_nil) (fun _ _ _ _ _ => pe_op op_add (pv 11) (pe_op op_mulW (pv 7) (pv 9))))))
      (pss_one (ps_expr (pe_bm PySem.F.plainAttrs_list PySem.F.slot_list_append PySem.F.type_list_append mt_append (pv 3) (pa_cons (pv 6) pa_nil))))))))
    (pss_one (ps_ret (pv 3)))), ?_⟩)
  · obtain ⟨_, _, _, _, _, _, _, rfl, _⟩ := h
    rfl
  · obtain ⟨p, q, b, n, Fm, Qm, fac, rfl, ⟨as, hp, hF⟩, ⟨bs, hq, hQ⟩, hb, sqF, sqQ, lf, h6, bF, bf, bQ, qq⟩ := h
    refine ⟨by show 0 ≤ sizeLine; decide, fun d hd => ?_⟩
    refine ⟨_, rfl, p, rfl, ⟨_, SqL.of (same_new hd _ _ hp)⟩, for_list (K := K) (a := p) (xs := as.map V.ref) (fun i σ H' => ∃ (v4 v5 v6 v7 v8 v9 v10 v11 : Option V) (rs : List Addr), σ = [some (.ref p), some (.ref q), some (.ref b), some (.ref d), v4, v5, v6, v7, v8, v9, v10, v11] ∧ NewM H H' d rs (behZ n (Fm.take i) Qm fac))
      ⟨none, none, none, none, none, none, none, none, [], rfl, ⟨same_new hd, hd, by simp, by simp, by simp, upd_same, RowsAt.nil _⟩⟩ (fun i σ H' _ ⟨_, _, _, _, _, _, _, _, _, _, M⟩ => SqL.of (M.same _ _ hp)) ?_ ?_⟩
    · rintro i y σ H' hi ⟨v4, v5, v6, v7, v8, v9, v10, v11, rs, rfl, M⟩
      obtain ⟨c, hc, rfl⟩ := ref_at hi
      have hlt : i < Fm.length := by rw [← hF.1]; exact (List.getElem?_eq_some_iff.mp hc).1
      have hFi : Fm[i]? = some Fm[i] := List.getElem?_eq_getElem hlt
      have hrow := M.same _ _ (hF.2 i c _ hc hFi)
      have hrl : Fm[i].length = n := by
        have := sqF.2 i (by rw [← sqF.1]; exact hlt)
        rw [List.getD_eq_getElem?_getD, hFi] at this; exact this
      have bR := bF _ (List.mem_of_getElem? hFi)
      have hb' := M.same _ _ hb
      generalize hr0 : Fm[i] = r at *
      refine ⟨_, rfl, _, rfl, c, b, _, _, rfl, SqL.of hrow, SqL.of hb', fun D hD => ?_⟩
      refine lc_zip (K := K) (a := c) (b := b) (xs := r.map V.int) (ys := fac.map V.int) (by rw [List.length_map, List.length_map, hrl, lf]) (fun j H2 => Same H' H2 ∧ H2 D = some (.lst ((List.zipWith (fun x y => x * y) (r.take j) (fac.take j)).map V.int))) ⟨same_new hD, upd_same⟩ (fun j H2 h => ⟨SqL.of (h.1 _ _ hrow), SqL.of (h.1 _ _ hb')⟩) ?_ ?_
      · rintro j x y t H2 hi1 hj1 ⟨s5, hD5⟩ ht
        obtain ⟨z, hz, rfl⟩ := int_at hi1
        obtain ⟨u, hu, rfl⟩ := int_at hj1
        refine ⟨t, _, rfl, SqT.of upd_same, rfl, _, _, rfl, _, _, rfl, rfl, rfl, ?_⟩
        refine ⟨_, rfl, _, rfl, _, _, rfl, rfl, wide_mul (bR z (List.mem_of_getElem? hz)) (bf u (List.mem_of_getElem? hu)) (by decide) (by decide) (by decide), _, same_new ht D _ hD5, ?_, fun b o e => ?_, ?_⟩
        · rw [List.length_map, sz, List.length_zipWith]
          have := List.length_take_le' j r
          omega
        · rw [upd_ne (ne_of_none e hD), upd_ne (ne_of_none (s5 _ _ e) ht)]; exact s5 _ _ e
        · rw [upd_same, zipWith_take _ hz hu, List.map_append]; rfl
      · rintro H1 ⟨s1, hD1⟩
        rw [List.length_map, List.take_length, hrl, ← lf, List.take_length] at hD1
        refine ⟨by show 1 ≤ sizeLine; decide, fun p2 n2 => ?_⟩
        have s2 := same_new (o := .lst [V.int 0]) n2
        have hk : ((r.map V.int).length : Int) = (n : Int) := by rw [List.length_map, hrl]
        refine ⟨_, rfl, c, _, rfl, .inl (SqL.of (s2 _ _ (s1 _ _ hrow))), p2, _, _, rfl, rfl, upd_same, by rw [hk]; omega, by rw [hk]; omega, ?_, fun p3 n3 => ?_⟩
        · rw [hk, sz]
          show 1 * _ ≤ _
          omega
        have s3 := same_new (o := .lst (List.replicate ((r.map V.int).length : Int).toNat [V.int 0]).flatten) n3
        have s13 := s2.trans s3
        have np3 : H' p3 = none := s1.free (s2.free n3)
        refine ⟨_, rfl, _, rfl, D, q, _, _, rfl, SqL.of (s13 _ _ hD1), SqL.of (s13 _ _ (s1 _ _ (M.same _ _ hq))), ?_⟩
        refine RZ.for_zipL (K := K) (a := D) (b := q) (xs := (List.zipWith (fun x y => x * y) r fac).map V.int) (ys := bs.map V.ref) (by rw [List.length_map, List.length_map, List.length_zipWith, hrl, lf, Nat.min_self, hQ.1, sqQ.1])
          (fun j σ H2 => ∃ (v7 v8 : Option V) (ra : Addr), σ = [some (.ref p), some (.ref q), some (.ref b), some (.ref d), some (.ref c), some (.ref D), some (.ref ra), v7, v8, v9, v10, v11] ∧ Same H1 H2 ∧ H' ra = none ∧ H2 ra = some (.lst ((behRow n j r fac Qm).map V.int)))
          ⟨v7, v8, p3, rfl, s13, np3, ?_⟩ (fun j σ H2 h => by obtain ⟨_, _, _, _, s, _⟩ := h; exact ⟨SqL.of (s _ _ hD1), SqL.of (s _ _ (s1 _ _ (M.same _ _ hq)))⟩) ?_ ?_
        · rw [upd_same, flat_rep, hk, Int.toNat_natCast, behRow_zero]
        · rintro j x y t σ H2 hx hy ⟨v7, v8, ra, rfl, s5, nra, hra⟩ ht
          obtain ⟨wy, hwy, rfl⟩ := int_at hx
          obtain ⟨cb, hcb, rfl⟩ := ref_at hy
          have hjQ : j < Qm.length := by rw [← hQ.1]; exact (List.getElem?_eq_some_iff.mp hcb).1
          have hjn : j < n := by rw [← sqQ.1]; exact hjQ
          have hQj : Qm[j]? = some Qm[j] := List.getElem?_eq_getElem hjQ
          have hQd : Qm.getD j [] = Qm[j] := by rw [List.getD_eq_getElem?_getD, hQj]; rfl
          have hqrow := s5 _ _ (s1 _ _ (M.same _ _ (hQ.2 j cb _ hcb hQj)))
          have hql : Qm[j].length = n := by rw [← hQd]; exact sqQ.2 j hjn
          have bq := bQ _ (List.mem_of_getElem? hQj)
          have ewy : wy = r.getD j 0 * fac.getD j 0 := by
            have e := zipWith_getD (f := fun x y => x * y) (A := r) (B := fac) (i := j) (by omega) (by omega)
            rw [List.getD_eq_getElem?_getD, hwy] at e
            exact e
          have bwy : wy.natAbs < 2 ^ 6000 := by
            rw [ewy]
            have h1 : r.getD j 0 ∈ r := by rw [List.getD_eq_getElem?_getD, List.getElem?_eq_getElem (by omega)]; exact List.getElem_mem _
            have h2 : fac.getD j 0 ∈ fac := by rw [List.getD_eq_getElem?_getD, List.getElem?_eq_getElem (by omega)]; exact List.getElem_mem _
            exact wide_lt (bR _ h1) (bf _ h2)
          have hsu := behRow_succ (n := n) (j := j) (r := r) (fac := fac) (Q := Qm) (by rw [hQd]; exact hql)
          rw [hQd, ← ewy] at hsu
          generalize Qm[j] = qr at *
          have sT := same_new (o := .tup [V.int wy, V.ref cb]) ht
          refine ⟨t, _, rfl, SqT.of upd_same, rfl, _, _, rfl, _, _, rfl, rfl, ?_⟩
          have hra' := sT _ _ hra
          have hqr' := sT _ _ hqrow
          refine ⟨_, rfl, _, rfl, ra, cb, _, _, rfl, SqL.of hra', SqL.of hqr', fun D2 hD2 => ?_⟩
          refine lc_zip (K := K) (a := ra) (b := cb) (xs := (behRow n j r fac Qm).map V.int) (ys := qr.map V.int) (by rw [List.length_map, List.length_map, behRow_len, hql]) (fun k H3 => Same (upd H2 t (.tup [V.int wy, V.ref cb])) H3 ∧ H3 D2 = some (.lst ((List.zipWith (fun h a => h + wy * a) ((behRow n j r fac Qm).take k) (qr.take k)).map V.int))) ⟨same_new hD2, upd_same⟩ (fun k H3 h => ⟨SqL.of (h.1 _ _ hra'), SqL.of (h.1 _ _ hqr')⟩) ?_ ?_
          · rintro k x y t2 H3 hi1 hj1 ⟨s6, hD6⟩ ht2
            obtain ⟨z, hz, rfl⟩ := int_at hi1
            obtain ⟨u, hu, rfl⟩ := int_at hj1
            refine ⟨t2, _, rfl, SqT.of upd_same, rfl, _, _, rfl, _, _, rfl, rfl, rfl, ?_⟩
            refine ⟨_, rfl, _, rfl, _, rfl, _, _, rfl, rfl, wide_mul bwy (bq u (List.mem_of_getElem? hu)) (by decide) (by decide) (by decide), _, _, rfl, rfl, _, same_new ht2 D2 _ hD6, ?_, fun b o e => ?_, ?_⟩
            · rw [List.length_map, sz, List.length_zipWith]
              have := List.length_take_le' k qr
              omega
            · rw [upd_ne (ne_of_none e hD2), upd_ne (ne_of_none (s6 _ _ e) ht2)]; exact s6 _ _ e
            · rw [upd_same, zipWith_take _ hz hu, List.map_append]; rfl
          · rintro H3 ⟨s6, hD6⟩
            have eL : (behRow n j r fac Qm).take ((behRow n j r fac Qm).map V.int).length = behRow n j r fac Qm := by rw [List.length_map, List.take_length]
            have eR : qr.take ((behRow n j r fac Qm).map V.int).length = qr := by rw [List.length_map, behRow_len, ← hql, List.take_length]
            rw [eL, eR, hsu] at hD6
            exact ⟨_, _, D2, rfl, (s5.trans sT).trans s6, s1.free ((s5.trans sT).free hD2), hD6⟩
        · rintro σ H2 ⟨v7, v8, ra, rfl, s5, nra, hra⟩
          have eN : ((List.zipWith (fun x y => x * y) r fac).map V.int).length = n := by rw [List.length_map, List.length_zipWith, hrl, lf, Nat.min_self]
          rw [eN] at hra
          have s15 := s1.trans s5
          have hd2 := s15 _ _ M.at_p
          refine ⟨_, rfl, .inl ⟨rfl, _, SqL.of hd2⟩, _, rfl, d, _, _, rfl, rfl, hd2, ?_, ?_⟩
          · rw [List.length_map, M.rows.1, behZ, List.length_map, sz]
            have := List.length_take_le' i Fm
            have := sqF.1
            omega
          refine ⟨_, _, _, _, _, _, _, _, rs ++ [ra], rfl, ?_⟩
          have e : behZ n (Fm.take (i + 1)) Qm fac = behZ n (Fm.take i) Qm fac ++ [behRow n n r fac Qm] := by
            unfold behZ
            rw [take_more hFi, List.map_append]; rfl
          rw [e]
          exact M.snoc s15 nra hra
    · rintro σ H' ⟨v4, v5, v6, v7, v8, v9, v10, v11, rs, rfl, M⟩
      rw [List.length_map, hF.1, List.take_length] at M
      exact ⟨_, rfl, qq _ d rs M⟩
end
end TT

set_option Elab.async false
set_option maxRecDepth 100000
set_option maxHeartbeats 2000000
namespace TT
open PySem PySem.Spec PyProof.Rows L2
abbrev sBehI : Stmt := inClass (top 19) 0
theorem Wt.le {n : Nat} {w : List Int} (h : Wt n w) : ∀ x ∈ w, x ≤ w.sum := by
  have : ∀ (l : List Int), (∀ x ∈ l, 0 ≤ x) → 0 ≤ l.sum ∧ ∀ x ∈ l, x ≤ l.sum := by
    intro l
    induction l with
    | nil => intro _; exact ⟨Int.le_refl _, fun x h => by cases h⟩
    | cons y l ih =>
      intro hl
      have ⟨i1, i2⟩ := ih fun x hx => hl x (List.mem_cons_of_mem _ hx)
      have hy := hl y List.mem_cons_self
      rw [List.sum_cons]
      refine ⟨by omega, fun x hx => ?_⟩
      rcases List.mem_cons.mp hx with rfl | hx
      · omega
      · have := i2 x hx; omega
  exact (this w h.2.1).2
theorem Wt.small {n : Nat} {w : List Int} (h : Wt n w) : ∀ x ∈ w, x.natAbs < 2 ^ 600 := fun x hx => by
  have h1 := h.le x hx
  have h2 := h.2.1 x hx
  exact wide_le h2 h1 h.2.2.2
theorem Wt.mul {n : Nat} {a b : List Int} (ha : Wt n a) (hb : Wt n b) : Mulable a b :=
  ⟨wide_mul ha.2.2.2 hb.2.2.2 (by decide) (by decide) (by decide), fun x hx => wide_mul (ha.small x hx) hb.2.2.2 (by decide) (by decide) (by decide), fun x hx => wide_mul (hb.small x hx) ha.2.2.2 (by decide) (by decide) (by decide)⟩
theorem Wt.sm {n : Nat} {a : List Int} (ha : Wt n a) : Sm a.sum := Nat.lt_of_lt_of_le ha.2.2.2 (Nat.pow_le_pow_right (by decide) (by decide))
theorem Wt.smm {n : Nat} {a b : List Int} (ha : Wt n a) (hb : Wt n b) : Sm (a.sum * b.sum) := Nat.lt_of_lt_of_le (wide_lt ha.2.2.2 hb.2.2.2) (Nat.pow_le_pow_right (by decide) (by decide))
theorem pow_lt_of {x a b : Nat} (h : x < 2 ^ a) (hab : a ≤ b) : x < 2 ^ b := Nat.lt_of_lt_of_le h (Nat.pow_le_pow_right (by decide) hab)
theorem best_small {n : Nat} {A B : List Int} (hA : Wt n A) (hB : Wt n B) : ∀ r ∈ bestZ (A.map (· * B.sum)) (B.map (· * A.sum)), ∀ x ∈ r, x.natAbs < 2 ^ 2000 := by
  intro r hr x hx
  have hm := Int.mul_pos hA.2.2.1 hB.2.2.1
  have h2m : (2 * (A.sum * B.sum)).natAbs < 2 ^ (2 + (600 + 600)) := wide_lt (by decide) (wide_lt hA.2.2.2 hB.2.2.2)
  have bA : ∀ y ∈ A.map (· * B.sum), 0 ≤ y ∧ y ≤ A.sum * B.sum := by
    intro y hy
    obtain ⟨z, hz, rfl⟩ := List.mem_map.mp hy
    exact ⟨Int.mul_nonneg (hA.2.1 z hz) (by have := hB.2.2.1; omega), Int.mul_le_mul_of_nonneg_right (hA.le z hz) (by have := hB.2.2.1; omega)⟩
  have bB : ∀ y ∈ B.map (· * A.sum), 0 ≤ y ∧ y ≤ A.sum * B.sum := by
    intro y hy
    obtain ⟨z, hz, rfl⟩ := List.mem_map.mp hy
    rw [Int.mul_comm A.sum B.sum]
    exact ⟨Int.mul_nonneg (hB.2.1 z hz) (by have := hA.2.2.1; omega), Int.mul_le_mul_of_nonneg_right (hB.le z hz) (by have := hA.2.2.1; omega)⟩
  obtain ⟨i, hi, e1⟩ := List.getElem_of_mem hr
  obtain ⟨j, hj, e2⟩ := List.getElem_of_mem hx
  have b := bestZ_bound (n := n) (m := A.sum * B.sum) (by omega) (by rw [List.length_map, hA.1]) (by rw [List.length_map, hB.1]) bA bB i j
  have e3 : (bestZ (A.map (· * B.sum)) (B.map (· * A.sum))).getD i [] = r := by rw [List.getD_eq_getElem?_getD, List.getElem?_eq_getElem hi, e1]; rfl
  have e4 : r.getD j 0 = x := by rw [List.getD_eq_getElem?_getD, List.getElem?_eq_getElem hj, e2]; rfl
  rw [e3, e4] at b
  exact pow_lt_of (wide_le b.1 b.2 h2m) (by decide)
theorem fac_small {n : Nat} {B : List Int} (hB : Wt n B) (h6 : n ≤ 6) : ∀ x ∈ facZ (mulOf B) B, x.natAbs < 2 ^ 4000 := by
  intro x hx
  obtain ⟨z, hz, rfl⟩ := List.mem_map.mp hx
  have hM := mulOf_pos B
  have hl := pow_lt_of (b := 4000) (mulOf_lt hB h6 hB.small) (by decide)
  show (if z > 0 then mulOf B / z else 0).natAbs < 2 ^ 4000
  by_cases c : z > 0
  · rw [if_pos c]
    exact wide_le (Int.ediv_nonneg (by omega) (by omega)) (Int.ediv_le_self _ (by omega)) hl
  · rw [if_neg c]
    exact Nat.two_pow_pos 4000
structure BehTxt (K : PySem.W.Frag) (mg : Str → Option Value) (C : Addr) : Prop where
  cl : Cls K C
  nR : NoAttr K C "rows"
  nT : NoAttr K C "total"
  gC : mg "Behind" = some (.ref C)
def bF (r : Addr) (T : Int) : List (Str × V) := [("rows", .ref r), ("total", .int T)]
theorem bF_rows (r : Addr) (T : Int) : (bF r T).lookup ("rows" : Str) = some (.ref r) := lk_here
theorem bF_total (r : Addr) (T : Int) : (bF r T).lookup ("total" : Str) = some (.int T) := (lk_past (by decide +kernel)).trans lk_here
theorem bF_new (r : Addr) (T : Int) : putF "total" (.int T) (putF "rows" (.ref r) []) = bF r T := (put_past (by decide +kernel)).trans rfl
def behM (n : Nat) (A B C : List Int) : List (List Int) := behZ n (bestZ (A.map (· * B.sum)) (B.map (· * A.sum))) (bestZ (B.map (· * C.sum)) (C.map (· * B.sum))) (facZ (mulOf B) B)
def behT (A B C : List Int) : Int := A.sum * B.sum * C.sum * mulOf B
theorem behT_pos {n : Nat} {A B C : List Int} (hA : Wt n A) (hB : Wt n B) (hC : Wt n C) : 0 < behT A B C :=
  Int.mul_pos (Int.mul_pos (Int.mul_pos hA.2.2.1 hB.2.2.1) hC.2.2.1) (mulOf_pos B)
theorem behT_sm {n : Nat} {A B C : List Int} (hA : Wt n A) (hB : Wt n B) (hC : Wt n C) (h6 : n ≤ 6) : Sm (behT A B C) :=
  pow_lt_of (wide_lt (wide_lt (wide_lt hA.2.2.2 hB.2.2.2) hC.2.2.2) (mulOf_lt hB h6 hB.small)) (by decide)
section
variable {P : Program} {w : World} {K : PySem.W.Frag} {mg : Str → Option Value} {base : Heap}
def spBehI (CB : Addr) : Sp := fun vs H Q _ => ∃ (p dx a b c : Addr) (n : Nat) (A B C : List Int), vs = [.ref p, .ref a, .ref b, .ref c] ∧ H p = some (.ins CB dx []) ∧ H a = some (.lst (A.map V.int)) ∧ H b = some (.lst (B.map V.int)) ∧ H c = some (.lst (C.map V.int)) ∧ Wt n A ∧ Wt n B ∧ Wt n C ∧ n ≤ 6 ∧
  ∀ (H' : Hp) (r : Addr), H' p = some (.ins CB dx (bF r (behT A B C))) → MatAt H' r (behM n A B C) → (∀ b o, H b = some o → b ≠ p → H' b = some o) → Q .non H'
abbrev nmBI : List Str := ["self", "first", "between", "third", "front", "back", "multiple", "weight"]
theorem scBehI : FnScope nmBI ["self", "first", "between", "third"] (defScope sBehI) := ⟨rfl, rfl, rfl, by decide +kernel, rfl, by decide +kernel, by decide +kernel⟩
theorem ok_behI {CB CP f fI gB gL gR gF : Addr} {fd fdI dB dL dR dF : FuncData} (F : Fun K "__init__" "Behind.__init__" sBehI f fd) (T : BehTxt K mg CB) (TP : PairTxt K mg CP) (BL : Blt mg) (M : Mk K CP fI) (GI : FnOk P w K mg base CX0 2 fI fdI ["self", "first", "second"] (spPairI CP)) (bI : Binds K fdI ["self", "first", "second"] [])
    (GB : Def P w K mg base 2 "best_plan" ["pair"] (spBest CP) gB dB) (GL : Def P w K mg base 2 "least_multiple" ["numbers"] spLcm gL dL) (GR : Def P w K mg base 1 "rows_behind" ["front", "back", "factors"] spRowsB gR dR) (GF : Def P w K mg base 1 "factors_behind" ["between", "multiple"] spFac gF dF) :
    FnOk P w K mg base CX0 4 f fd ["self", "first", "between", "third"] (spBehI CB) := by
  refine F.ok scBehI (fun vs H Q E h => ?_) (fun cdv A outer s H vs Q E hr h => ⟨_,
    pss_cons (ps_set (i := 4) scBehI.nd rfl (Or.inl rfl) (pe_call GB.ok (hr.mono (by decide)) rfl GB.mg GB.kp GB.b .nil pass0 (pa_cons (pe_make M GI hr rfl TP.gC bI .nil pass0 (pa_cons (pv 1) (pa_cons (pv 2) pa_nil))) pa_nil)))
    (pss_cons (ps_set (i := 5) scBehI.nd rfl (Or.inl rfl) (pe_call GB.ok (hr.mono (by decide)) rfl GB.mg GB.kp GB.b .nil pass0 (pa_cons (pe_make M GI hr rfl TP.gC bI .nil pass0 (pa_cons (pv 2) (pa_cons (pv 3) pa_nil))) pa_nil)))
    (pss_cons (ps_set (i := 6) scBehI.nd rfl (Or.inl rfl) (pe_call GL.ok (hr.mono (by decide)) rfl GL.mg GL.kp GL.b .nil pass0 (pa_cons
      (pe_lc (own := [("weight", 7)]) (g := gName 7) (te := tVar 7) (by rfl) scBehI.nd (pi_list (pv 2)) (blkOk_by (own := [("weight", 7)]) (N := nmBI) (sc := defScope sBehI) (by decide +kernel))
        (fun _ _ _ _ _ => pg_name (i := 7) scBehI.nd rfl (Or.inl rfl)) (fun _ _ _ _ _ => pts_one (pt_cmpR op_gt (pv 7) pe_int (nomark _))) (fun _ _ _ _ _ => pv 7)) pa_nil)))
    (pss_cons (ps_fld (pv 0) (pe_call GR.ok (hr.mono (by decide)) rfl GR.mg GR.kp GR.b .nil pass0 (pa_cons (pv 4) (pa_cons (pv 5) (pa_cons (pe_call GF.ok (hr.mono (by decide)) rfl GF.mg GF.kp GF.b .nil pass0 (pa_cons (pv 2) (pa_cons (pv 6) pa_nil))) pa_nil)))) rfl)
    (pss_one (ps_fld (pv 0) (pe_op op_mulW (pe_op op_mulW (pe_op op_mulW (pe_callB (cr_sum rfl) (by rfl) BL.sum (by decide +kernel) (pa_cons (pv 1) pa_nil)) (pe_callB (cr_sum rfl) (by rfl) BL.sum (by decide +kernel) (pa_cons (pv 2) pa_nil))) (pe_callB (cr_sum rfl) (by rfl) BL.sum (by decide +kernel) (pa_cons (pv 3) pa_nil))) (pv 6)) rfl))))), ?_⟩)
  · obtain ⟨_, _, _, _, _, _, _, _, _, rfl, _⟩ := h
    rfl
  · obtain ⟨p, dx, a, b, c, n, A1, B1, C1, rfl, hp, ha, hb, hc, wA, wB, wC, h6, q⟩ := h
    refine ⟨_, rfl, _, rfl, ?_⟩
    intro x dx2 nx nd ne
    have hs0 : Same H (upd (upd H dx2 (.own x)) x (.ins CP dx2 [])) := fun c o e => by
      rw [upd_ne (ne_of_none e nx), upd_ne (ne_of_none e nd)]; exact e
    refine ⟨x, dx2, a, b, _, _, rfl, upd_same, hs0 _ _ ha, hs0 _ _ hb, by rw [wA.1]; omega, by rw [wB.1]; omega, wA.mul wB, fun H1 PA kp => ⟨rfl, ?_⟩⟩
    have s1 := Same.made nx nd kp
    refine ⟨x, _, _, _, rfl, PA, by rw [List.length_map, List.length_map, wA.1, wB.1], by rw [List.length_map, wA.1]; omega, fun H2 m1 as1 M1 => ?_⟩
    have s2 := s1.trans M1.same
    refine ⟨_, rfl, _, rfl, ?_⟩
    intro x3 dx3 nx3 nd3 ne3
    have hs3 : Same H2 (upd (upd H2 dx3 (.own x3)) x3 (.ins CP dx3 [])) := fun c o e => by
      rw [upd_ne (ne_of_none e nx3), upd_ne (ne_of_none e nd3)]; exact e
    refine ⟨x3, dx3, b, c, _, _, rfl, upd_same, hs3 _ _ (s2 _ _ hb), hs3 _ _ (s2 _ _ hc), by rw [wB.1]; omega, by rw [wC.1]; omega, wB.mul wC, fun H3 PA3 kp3 => ⟨rfl, ?_⟩⟩
    have s3 := Same.made nx3 nd3 kp3
    refine ⟨x3, _, _, _, rfl, PA3, by rw [List.length_map, List.length_map, wB.1, wC.1], by rw [List.length_map, wB.1]; omega, fun H4 m2 as2 M2 => ?_⟩
    have s24 := s3.trans M2.same
    have s4 := s2.trans s24
    have mat1 := M1.mat.same s24
    have mat2 := M2.mat
    refine ⟨_, rfl, b, rfl, ⟨_, SqL.of (s4 _ _ hb)⟩, fun D hD => ?_⟩
    refine lc_list (K := K) (a := b) (xs := B1.map V.int) (fun i H' => Same H4 H' ∧ H' D = some (.lst ((posW (B1.take i)).map V.int))) ⟨same_new hD, upd_same⟩ (fun i H' _ h => SqL.of (h.1 _ _ (s4 _ _ hb))) ?_ ?_
    · rintro i y H' hi ⟨s5, hD5⟩
      obtain ⟨z, hz, rfl⟩ := int_at hi
      refine ⟨rfl, _, rfl, _, _, rfl, rfl, _, rfl, ?_⟩
      by_cases cz : z > 0
      · refine if_true_of (decide_eq_true cz) ?_
        refine ⟨_, rfl, _, hD5, ?_, fun b o e => ?_, ?_⟩
        · rw [List.length_map, sz]
          have h1 : (posW (B1.take i)).length ≤ (B1.take i).length := List.length_filter_le _ _
          have h2 := List.length_take_le' i B1
          have h3 := wB.1
          omega
        · rw [upd_ne (ne_of_none e hD)]; exact s5 _ _ e
        · rw [upd_same]
          have e : posW (B1.take (i + 1)) = posW (B1.take i) ++ [z] := by
            unfold posW
            rw [take_more hz, List.filter_append]
            have : ([z].filter fun x => decide (x > 0)) = [z] := by simp [cz]
            rw [this]
          rw [e, List.map_append]; rfl
      · refine if_false_of (decide_eq_false cz) ⟨s5, ?_⟩
        have e : posW (B1.take (i + 1)) = posW (B1.take i) := by
          unfold posW
          rw [take_more hz, List.filter_append]
          have : ([z].filter fun x => decide (x > 0)) = [] := by simp [cz]
          rw [this, List.append_nil]
        rw [e]; exact hD5
    · rintro H5 ⟨s5, hD5⟩
      rw [List.length_map, List.take_length] at hD5
      refine ⟨D, posW B1, rfl, hD5, fun z hz => ⟨posW_pos B1 z hz, wB.small z (List.mem_filter.mp hz).1⟩, Nat.le_trans (List.length_filter_le _ _) (by rw [wB.1]; exact h6), ?_⟩
      have s05 := s4.trans s5
      refine ⟨_, rfl, _, rfl, _, rfl, _, rfl, b, B1, _, rfl, s05 _ _ hb, wB.small, by rw [wB.1]; omega, fun H6 pf s6 n6 h6' => ?_⟩
      have s06 := s05.trans s6
      have sq1 := bestZ_sq (n := n) (A := A1.map (· * B1.sum)) (B := B1.map (· * A1.sum)) (by rw [List.length_map, wA.1]) (by rw [List.length_map, wB.1])
      have sq2 := bestZ_sq (n := n) (A := B1.map (· * C1.sum)) (B := C1.map (· * B1.sum)) (by rw [List.length_map, wB.1]) (by rw [List.length_map, wC.1])
      refine ⟨m1, m2, pf, n, _, _, _, rfl, (mat1.same s5).same s6, (mat2.same s5).same s6, h6', sq1, sq2, by unfold facZ; rw [List.length_map, wB.1], h6, best_small wA wB, fac_small wB h6, best_small wB wC, fun H7 r as7 M7 => ?_⟩
      have s07 := s06.trans M7.same
      have hp6 := s06 _ _ hp
      have npr : r ≠ p := Ne.symm (ne_of_none hp6 M7.np)
      have npa : ∀ z ∈ as7, z ≠ p := fun z hz => Ne.symm (ne_of_none hp6 (M7.na z hz))
      have nap : a ≠ p := ne_of ha hp (by intro z; cases z)
      have nbp : b ≠ p := ne_of hb hp (by intro z; cases z)
      have ncp : c ≠ p := ne_of hc hp (by intro z; cases z)
      refine ⟨_, rfl, p, CB, dx, _, rfl, s07 _ _ hp, T.cl, T.nR, by show 0 < 1000; decide, ?_⟩
      refine ⟨_, rfl, a, A1, rfl, SqL.of (by rw [upd_ne nap]; exact s07 _ _ ha), _, rfl, b, B1, rfl, SqL.of (by rw [upd_ne nbp]; exact s07 _ _ hb), _, _, rfl, rfl, wide_mul wA.2.2.2 wB.2.2.2 (by decide) (by decide) (by decide), _, rfl, c, C1, rfl, SqL.of (by rw [upd_ne ncp]; exact s07 _ _ hc), _, _, rfl, rfl, wide_mul (wide_lt wA.2.2.2 wB.2.2.2) wC.2.2.2 (by decide) (by decide) (by decide), _, rfl, _, _, rfl, rfl,
        wide_mul (wide_lt (wide_lt wA.2.2.2 wB.2.2.2) wC.2.2.2) (mulOf_lt wB h6 wB.small) (by decide) (by decide) (by decide), _, rfl, p, CB, dx, _, rfl, upd_same, T.cl, T.nT, by show 1 < 1000; decide, ?_⟩
      refine q _ r ?_ ⟨as7, ?_, ?_⟩ fun z o e hz => ?_
      · rw [upd_same, bF_new]; rfl
      · rw [upd_ne npr, upd_ne npr]; exact M7.at_p
      · refine M7.rows.same fun z hz o e => ?_
        rw [upd_ne (npa z hz), upd_ne (npa z hz)]; exact e
      · rw [upd_ne hz, upd_ne hz]; exact s07 _ _ e
end
end TT

set_option Elab.async false
set_option maxRecDepth 100000
set_option maxHeartbeats 2000000
namespace TT
open PySem PySem.Spec PyProof.Rows L2
open Sr80 (inSet)
abbrev sLeast : Stmt := top 21
abbrev sImage : Stmt := top 22
abbrev sMixt : Stmt := top 23
abbrev sGLow : Stmt := top 24
abbrev sWSet : Stmt := top 25
section
variable {P : Program} {w : World} {K : PySem.W.Frag} {mg : Str → Option Value} {base : Heap}
/-! least_weights -/
def spLeast : Sp := fun vs H Q _ => ∃ (a : Addr) (W : List Int), vs = [.ref a] ∧ H a = some (.lst (W.map V.int)) ∧ 0 < W.sum ∧ Sm W.sum ∧ W.length ≤ 100 ∧ NewL H Q (leastZ W)
theorem scLeast : FnScope ["weights", "common", "weight"] ["weights"] (defScope sLeast) := ⟨rfl, rfl, rfl, by decide +kernel, rfl, by decide +kernel, by decide +kernel⟩
theorem ok_least {f g : Addr} {fd gd : FuncData} (F : Fun K "least_weights" "least_weights" sLeast f fd) (B : Blt mg) (G : Def P w K mg base 1 "greatest_in_common" ["first", "second"] spGcd g gd) : FnOk P w K mg base CX0 2 f fd ["weights"] spLeast := by
  refine F.ok scLeast (fun vs H Q E h => ?_) (fun cdv A outer s H vs Q E hr h => ⟨_,
    pss_cons (ps_set (i := 1) scLeast.nd rfl (Or.inr rfl) (pe_callB (cr_sum rfl) (by rfl) B.sum (by decide +kernel) (pa_cons (pv 0) pa_nil)))
    (pss_cons (ps_for PassesOwn.never rfl (pi_list (pv 0)) (pg_name (i := 2) scLeast.nd rfl (Or.inl rfl))
      (pss_one (ps_set (i := 1) scLeast.nd rfl (Or.inr rfl) (pe_call G.ok hr rfl G.mg G.kp G.b .nil pass0 (pa_cons (pv 2) (pa_cons (pv 1) pa_nil))))))
    (pss_one (ps_ret (pe_lc (own := [("weight", 2)]) (g := gName 2) (tt := tYes) (by rfl) scLeast.nd (pi_list (pv 0)) (blkOk_by (own := [("weight", 2)]) (N := ["weights", "common", "weight"]) (sc := defScope sLeast) (by decide +kernel))
        (fun _ _ _ _ _ => pg_name (i := 2) scLeast.nd rfl (Or.inl rfl)) (fun _ _ _ _ _ => pts_nil) (fun _ _ _ _ _ => pe_op op_fdivW (pv 2) (pv 1)))))), ?_⟩)
  · obtain ⟨a, b, rfl, _⟩ := h
    rfl
  · obtain ⟨a, W, rfl, ha, hs, hsm, hl, q⟩ := h
    refine ⟨_, rfl, a, W, rfl, SqL.of ha, ?_⟩
    have e0 : W.sum = ((gAll W.sum.toNat (W.take 0) : Nat) : Int) := by
      show W.sum = ((W.sum.toNat : Nat) : Int)
      omega
    refine ⟨_, rfl, a, rfl, ⟨_, SqL.of ha⟩, for_list (K := K) (a := a) (xs := W.map V.int) (fun i σ H' => H' = H ∧ ∃ v : Option V, σ = [some (.ref a), some (.int ((gAll W.sum.toNat (W.take i) : Nat) : Int)), v])
      ⟨rfl, none, by rw [← e0]; rfl⟩ (fun i σ H' _ ⟨e, _⟩ => by rw [e]; exact SqL.of ha) ?_ ?_⟩
    · rintro i y σ H' hi ⟨rfl, v, rfl⟩
      obtain ⟨z, hz, rfl⟩ := int_at hi
      have hg : 0 < gAll W.sum.toNat (W.take i) := gAll_pos _ (by omega)
      refine ⟨_, rfl, _, rfl, z, _, rfl, by omega, rfl, some (.int z), ?_⟩
      rw [take_more hz, gAll_snoc]
      rfl
    · rintro σ H1 ⟨rfl, v, rfl⟩
      rw [List.length_map, List.take_length]
      have hgp := gOf_pos hs
      have hgl : gAll W.sum.toNat W ≤ W.sum.toNat := gAll_le W (by omega)
      have hd : ∀ z, CDivW z ((gAll W.sum.toNat W : Nat) : Int) := fun z => wide_div (b := 8000) hgp (Nat.lt_of_le_of_lt (by
        show gAll W.sum.toNat W ≤ W.sum.natAbs
        omega) hsm) (by decide) (by decide)
      refine ⟨_, rfl, a, rfl, ⟨_, SqL.of ha⟩, fun D hD => ?_⟩
      refine lc_list (K := K) (a := a) (xs := W.map V.int) (fun i H' => Same H1 H' ∧ H' D = some (.lst (((W.take i).map (· / gOf W)).map V.int))) ⟨same_new hD, upd_same⟩ (fun i H' _ h => SqL.of (h.1 _ _ ha)) ?_ ?_
      · rintro i y H' hi ⟨s5, hD5⟩
        obtain ⟨z, hz, rfl⟩ := int_at hi
        refine ⟨rfl, ?_⟩
        refine ⟨_, rfl, _, rfl, _, _, rfl, rfl, hd _, _, hD5, ?_, fun b o e => ?_, ?_⟩
        · rw [List.length_map, List.length_map, sz]
          have := List.length_take_le' i W
          omega
        · rw [upd_ne (ne_of_none e hD)]; exact s5 _ _ e
        · rw [upd_same, take_more hz, List.map_append, List.map_append]; rfl
      · rintro H' ⟨s5, hD5⟩
        rw [List.length_map, List.take_length] at hD5
        exact q _ D s5 hD hD5
/-! image -/
def spImage : Sp := fun vs H Q _ => ∃ (a b : Addr) (n : Nat) (W f : List Int), vs = [.ref a, .ref b] ∧ H a = some (.lst (W.map V.int)) ∧ H b = some (.lst (f.map V.int)) ∧ W.length = n ∧ f.length = n ∧ n ≤ 6 ∧ (∀ x ∈ f, 0 ≤ x ∧ x < (n : Int)) ∧ 0 < W.sum ∧ Sm W.sum ∧ NewL H Q (leastZ (imageZ n W (f.map fun x => x.toNat)))
theorem scImage : FnScope ["weights", "targets", "found", "weight", "target"] ["weights", "targets"] (defScope sImage) := ⟨rfl, rfl, rfl, by decide +kernel, rfl, by decide +kernel, by decide +kernel⟩
theorem toNat_getD (f : List Int) (i : Nat) : (f.map fun x => x.toNat).getD i 0 = (f.getD i 0).toNat := getD_map (fun x : Int => x.toNat) 0 f i
theorem tgt_lt {n : Nat} {f : List Int} (h : ∀ x ∈ f, 0 ≤ x ∧ x < (n : Int)) (hl : f.length = n) : ∀ i, i < n → (f.map fun x => x.toNat).getD i 0 < n := fun i hi => by
  rw [toNat_getD, List.getD_eq_getElem?_getD, List.getElem?_eq_getElem (by omega)]
  have := h _ (List.getElem_mem (l := f) (n := i) (by omega))
  show (f[i]).toNat < n
  omega
theorem ok_image {f g : Addr} {fd gd : FuncData} (F : Fun K "image" "image" sImage f fd) (B : Blt mg) (G : Def P w K mg base 2 "least_weights" ["weights"] spLeast g gd) : FnOk P w K mg base CX0 3 f fd ["weights", "targets"] spImage := by
  refine F.ok scImage (fun vs H Q E h => ?_) (fun cdv A outer s H vs Q E hr h => ⟨_,
    pss_cons (ps_set (i := 2) scImage.nd rfl (Or.inl rfl) (pe_op op_rep (pe_lst (pa_cons pe_int pa_nil)) (pe_callB call_len_seq (by rfl) B.len PySem.boot_len (pa_cons (pv 0) pa_nil))))
    (pss_cons (ps_for PassesOwn.never rfl (pi_zip (by rfl) B.zip (pa_cons (pv 0) (pa_cons (pv 1) pa_nil))) (pg_tup rfl (pgs_cons (pg_name (i := 3) scImage.nd rfl (Or.inl rfl)) (pgs_cons (pg_name (i := 4) scImage.nd rfl (Or.inl rfl)) pgs_nil)))
      (pss_one (ps_asg (pe_op op_add (pe_ix ix_list (pv 2) (pv 4) (fun _ _ => rfl)) (pv 3)) (pg_sub (pv 2) (pv 4) set_list))))
    (pss_one (ps_ret (pe_call G.ok hr rfl G.mg G.kp G.b .nil pass0 (pa_cons (pv 2) pa_nil))))), ?_⟩)
  · obtain ⟨_, _, _, _, _, rfl, _⟩ := h
    rfl
  · obtain ⟨a, b, n, W, f, rfl, ha, hb, lW, lf, h6, hf, hs, hsm, q⟩ := h
    refine ⟨by show 1 ≤ sizeLine; decide, fun p2 n2 => ?_⟩
    have s2 := same_new (o := .lst [V.int 0]) n2
    have hk : ((W.map V.int).length : Int) = (n : Int) := by rw [List.length_map, lW]
    refine ⟨_, rfl, a, _, rfl, .inl (SqL.of (s2 _ _ ha)), p2, _, _, rfl, rfl, upd_same, by rw [hk]; omega, by rw [hk]; omega, ?_, fun p3 n3 => ?_⟩
    · rw [hk, sz]
      show 1 * _ ≤ _
      omega
    have s3 := same_new (o := .lst (List.replicate ((W.map V.int).length : Int).toNat [V.int 0]).flatten) n3
    have s13 := s2.trans s3
    have np3 : H p3 = none := s2.free n3
    have htg := tgt_lt hf lf
    refine ⟨_, rfl, _, rfl, a, b, _, _, rfl, SqL.of (s13 _ _ ha), SqL.of (s13 _ _ hb), ?_⟩
    refine RZ.for_zipL (K := K) (a := a) (b := b) (xs := W.map V.int) (ys := f.map V.int) (by rw [List.length_map, List.length_map, lW, lf])
      (fun i σ H' => ∃ (v3 v4 : Option V), σ = [some (.ref a), some (.ref b), some (.ref p3), v3, v4] ∧ Same H H' ∧ H' p3 = some (.lst ((imgZ n i W (f.map fun x => x.toNat)).map V.int)))
      ⟨none, none, rfl, s13, ?_⟩ (fun i σ H' h => by obtain ⟨_, _, _, s, _⟩ := h; exact ⟨SqL.of (s _ _ ha), SqL.of (s _ _ hb)⟩) ?_ ?_
    · rw [upd_same, flat_rep, hk, Int.toNat_natCast, imgZ_zero]
    · rintro i x y t σ H' hx hy ⟨v3, v4, rfl, s5, h5⟩ ht
      obtain ⟨z, hz, rfl⟩ := int_at hx
      obtain ⟨u, hu, rfl⟩ := int_at hy
      have hif : i < f.length := (List.getElem?_eq_some_iff.mp hu).1
      have hin : i < n := by omega
      have huf := hf u (List.mem_of_getElem? hu)
      have eu : (f.map fun x => x.toNat).getD i 0 = u.toNat := by rw [toNat_getD, List.getD_eq_getElem?_getD, hu]; rfl
      have ez : W.getD i 0 = z := by rw [List.getD_eq_getElem?_getD, hz]; rfl
      have hst := imgZ_succ (n := n) (i := i) (W := W) (f := f.map fun x => x.toNat) (htg i hin)
      rw [eu, ez] at hst
      have hlen := imgZ_len n i W (f.map fun x => x.toNat)
      generalize imgZ n i W (f.map fun x => x.toNat) = L at *
      have hun : u = ((u.toNat : Nat) : Int) := by omega
      have hat := getD_at (r := L) (k := u.toNat) (by omega)
      have hat2 : atI (L.map V.int) u = some (V.int (L.getD u.toNat 0)) := by rw [hun]; exact atI_nat hat
      have hix : ixN (L.map V.int).length u = some u.toNat := by
        rw [List.length_map, hun, Int.toNat_natCast]
        exact ixN_nat (by omega)
      have sT := same_new (o := .tup [V.int z, V.int u]) ht
      refine ⟨t, _, rfl, SqT.of upd_same, rfl, _, _, rfl, _, _, rfl, rfl, ?_⟩
      refine ⟨_, rfl, _, rfl, p3, _, _, _, rfl, rfl, SqL.of (sT _ _ h5), hat2, _, rfl, _, _, rfl, rfl, _, rfl, _, rfl, p3, _, _, u.toNat, rfl, rfl, sT _ _ h5, hix, ?_⟩
      refine ⟨_, _, rfl, fun c o e => ?_, ?_⟩
      · rw [upd_ne (ne_of_none e np3)]; exact sT _ _ (s5 _ _ e)
      · rw [upd_same, hst, List.map_set]
    · rintro σ H' ⟨v3, v4, rfl, s5, h5⟩
      rw [List.length_map, lW] at h5
      have hsum := imageZ_sum (W := W) lW htg
      have h5 : H' p3 = some (.lst ((imageZ n W (f.map fun x : Int => x.toNat)).map V.int)) := h5
      refine ⟨_, rfl, p3, imageZ n W (f.map fun x : Int => x.toNat), rfl, h5, by rw [hsum]; exact hs, by rw [hsum]; exact hsm, by rw [imageZ_len]; omega, fun H2 p4 s6 n4 h4 => ?_⟩
      exact q _ p4 (s5.trans s6) (s5.free n4) h4
/-! mixture -/
def spMixt (C : Addr) : Sp := fun vs H Q _ => ∃ (p : Addr) (T : Int) (A B : List Int) (x y : Int), vs = [.ref p, .int x, .int y] ∧ PairAt C H p T A B ∧ A.length = B.length ∧ A.length ≤ 100 ∧ (∀ z ∈ A, z.natAbs < 2 ^ 2000) ∧ (∀ z ∈ B, z.natAbs < 2 ^ 2000) ∧ x.natAbs < 2 ^ 10 ∧ (y - x).natAbs < 2 ^ 10 ∧
  0 < (mixW x y A B).sum ∧ Sm (mixW x y A B).sum ∧ NewL H Q (leastZ (mixW x y A B))
theorem scMixt : FnScope ["pair", "part", "whole", "rest", "one", "other"] ["pair", "part", "whole"] (defScope sMixt) := ⟨rfl, rfl, rfl, by decide +kernel, rfl, by decide +kernel, by decide +kernel⟩
theorem ok_mixt {C f g : Addr} {fd gd : FuncData} (F : Fun K "mixture" "mixture" sMixt f fd) (T : PairTxt K mg C) (B : Blt mg) (G : Def P w K mg base 2 "least_weights" ["weights"] spLeast g gd) : FnOk P w K mg base CX0 3 f fd ["pair", "part", "whole"] (spMixt C) := by
  refine F.ok scMixt (fun vs H Q E h => ?_) (fun cdv A outer s H vs Q E hr h => ⟨_,
    pss_cons (ps_set (i := 3) scMixt.nd rfl (Or.inr rfl) (pe_op op_sub (pv 2) (pv 1)))
    (pss_one (ps_ret (pe_call G.ok hr rfl G.mg G.kp G.b .nil pass0 (pa_cons
      (pe_lc (own := [("one", 4), ("other", 5)]) (g := gTup K 2 (gCons (gName 4) (gCons (gName 5) gNil))) (tt := tYes) (by rfl) scMixt.nd (pi_zip (by rfl) B.zip (pa_cons (pe_fld (pv 0) rfl) (pa_cons (pe_fld (pv 0) rfl) pa_nil))) (blkOk_by (own := [("one", 4), ("other", 5)]) (N := ["pair", "part", "whole", "rest", "one", "other"]) (sc := defScope sMixt) (by decide +kernel))
        (fun _ _ _ _ _ => pg_tup rfl (pgs_cons (pg_name (i := 4) scMixt.nd rfl (Or.inl rfl)) (pgs_cons (pg_name (i := 5) scMixt.nd rfl (Or.inl rfl)) pgs_nil))) (fun _ _ _ _ _ => pts_nil)
        (fun _ _ _ _ _ => pe_op op_add (pe_op op_mulW (pv 1) (pv 4)) (pe_op op_mulW (pv 3) (pv 5)))) pa_nil)))), ?_⟩)
  · obtain ⟨_, _, _, _, _, _, rfl, _⟩ := h
    rfl
  · obtain ⟨p, t, A1, B1, x, y, rfl, ⟨dx, pa, pb, hp, hpa, hpb⟩, hl, hn, bA, bB, bx, by_, hs, hsm, q⟩ := h
    refine ⟨_, rfl, _, rfl, _, _, rfl, rfl, ?_⟩
    refine ⟨_, rfl, p, C, dx, _, _, rfl, hp, T.cl, T.nF, pF_first _ _ _, _, rfl, p, C, dx, _, _, rfl, hp, T.cl, T.nS, pF_second _ _ _, pa, pb, _, _, rfl, SqL.of hpa, SqL.of hpb, fun D hD => ?_⟩
    refine lc_zip (K := K) (a := pa) (b := pb) (xs := A1.map V.int) (ys := B1.map V.int) (by rw [List.length_map, List.length_map, hl]) (fun i H' => Same H H' ∧ H' D = some (.lst ((mixW x y (A1.take i) (B1.take i)).map V.int))) ⟨same_new hD, upd_same⟩ (fun i H' h => ⟨SqL.of (h.1 _ _ hpa), SqL.of (h.1 _ _ hpb)⟩) ?_ ?_
    · rintro i u v t H' hi hj ⟨s5, hD5⟩ ht
      obtain ⟨z, hz, rfl⟩ := int_at hi
      obtain ⟨o, ho, rfl⟩ := int_at hj
      refine ⟨t, _, rfl, SqT.of upd_same, rfl, _, _, rfl, _, _, rfl, rfl, rfl, ?_⟩
      refine ⟨_, rfl, _, rfl, _, _, rfl, rfl, wide_mul bx (bA z (List.mem_of_getElem? hz)) (by decide) (by decide) (by decide), _, rfl, _, rfl, _, _, rfl, rfl, wide_mul by_ (bB o (List.mem_of_getElem? ho)) (by decide) (by decide) (by decide), _, _, rfl, rfl, _, same_new ht D _ hD5, ?_, fun b o e => ?_, ?_⟩
      · rw [List.length_map, sz, mixW, List.length_zipWith]
        have := List.length_take_le' i A1
        omega
      · rw [upd_ne (ne_of_none e hD), upd_ne (ne_of_none (s5 _ _ e) ht)]; exact s5 _ _ e
      · rw [upd_same]
        unfold mixW
        rw [zipWith_take _ hz ho, List.map_append]; rfl
    · rintro H' ⟨s5, hD5⟩
      rw [List.length_map, List.take_length, hl, List.take_length] at hD5
      refine ⟨D, mixW x y A1 B1, rfl, hD5, hs, hsm, by rw [mixW_len rfl hl.symm]; exact hn, fun H2 p2 s2 n2 h2 => ?_⟩
      exact q _ p2 (s5.trans s2) (s5.free n2) h2
/-! greatest_lower -/
def spGLow : Sp := fun vs H Q _ => ∃ (a : Addr) (W : List Int), vs = [.ref a] ∧ H a = some (.lst (W.map V.int)) ∧ 0 < W.length ∧ W.length ≤ 100 ∧ 0 < W.sum ∧ Sm W.sum ∧ ∀ H' m, Same H H' → m ∈ W.map (low W.sum) → (∀ y ∈ W.map (low W.sum), y ≤ m) → Q (.int m) H'
theorem scGLow : FnScope ["weights", "total", "weight"] ["weights"] (defScope sGLow) := ⟨rfl, rfl, rfl, by decide +kernel, rfl, by decide +kernel, by decide +kernel⟩
theorem ok_gLow {f g : Addr} {fd gd : FuncData} (F : Fun K "greatest_lower" "greatest_lower" sGLow f fd) (B : Blt mg) (G : Def P w K mg base 2 "told_fraction" ["upper", "lower"] spTF g gd) : FnOk P w K mg base CX0 3 f fd ["weights"] spGLow := by
  refine F.ok scGLow (fun vs H Q E h => ?_) (fun cdv A outer s H vs Q E hr h => ⟨_,
    pss_cons (ps_set (i := 1) scGLow.nd rfl (Or.inr rfl) (pe_callB (cr_sum rfl) (by rfl) B.sum (by decide +kernel) (pa_cons (pv 0) pa_nil)))
    (pss_one (ps_ret (pe_callB (cr_max rfl) (by rfl) B.max (by decide +kernel) (pa_cons
      (pe_lc (own := [("weight", 2)]) (g := gName 2) (tt := tYes) (te := tOp (rIxL K) (tCall spTF [] E0 (tCons (tVar 2) (tCons (tVar 1) tNil))) (tC (.int 1))) (by rfl) scGLow.nd (pi_list (pv 0)) (blkOk_by (own := [("weight", 2)]) (N := ["weights", "total", "weight"]) (sc := defScope sGLow) (by decide +kernel))
        (fun _ _ _ _ _ => pg_name (i := 2) scGLow.nd rfl (Or.inl rfl)) (fun _ _ _ _ _ => pts_nil)
        (fun _ _ _ _ _ => pe_ix ix_list (pe_call G.ok hr rfl G.mg G.kp G.b .nil pass0 (pa_cons (pv 2) (pa_cons (pv 1) pa_nil))) pe_int (fun _ _ => rfl))) pa_nil)))), ?_⟩)
  · obtain ⟨_, _, rfl, _⟩ := h
    rfl
  · obtain ⟨a, W, rfl, ha, h0, hl, hs, hsm, q⟩ := h
    refine ⟨_, rfl, a, W, rfl, SqL.of ha, ?_⟩
    refine ⟨_, rfl, a, rfl, ⟨_, SqL.of ha⟩, fun D hD => ?_⟩
    refine lc_list (K := K) (a := a) (xs := W.map V.int) (fun i H' => Same H H' ∧ H' D = some (.lst (((W.take i).map (low W.sum)).map V.int))) ⟨same_new hD, upd_same⟩ (fun i H' _ h => SqL.of (h.1 _ _ ha)) ?_ ?_
    · rintro i y H' hi ⟨s5, hD5⟩
      obtain ⟨z, hz, rfl⟩ := int_at hi
      refine ⟨rfl, _, rfl, _, rfl, z, W.sum, rfl, hs, hsm, fun H2 p2 s2 n2 h2 => ?_⟩
      refine ⟨p2, _, _, _, rfl, rfl, SqL.of h2, atI_nat (j := 1) rfl, _, s2 _ _ hD5, ?_, fun b o e => ?_, ?_⟩
      · rw [List.length_map, List.length_map, sz]
        have := List.length_take_le' i W
        omega
      · rw [upd_ne (ne_of_none e hD)]; exact s2 _ _ (s5 _ _ e)
      · rw [upd_same, take_more hz, List.map_append, List.map_append]; rfl
    · rintro H' ⟨s5, hD5⟩
      rw [List.length_map, List.take_length] at hD5
      exact ⟨D, _, rfl, SqL.of hD5, by rw [List.length_map]; exact h0, fun m hm hle => q H' m s5 hm hle⟩
/-! weight_in_set -/
def spWSet : Sp := fun vs H Q _ => ∃ (a : Addr) (W : List Int) (s : Nat), vs = [.ref a, .int (s : Int)] ∧ H a = some (.lst (W.map V.int)) ∧ W.length ≤ 100 ∧ ∀ H', Same H H' → Q (.int (pick s W).sum) H'
theorem scWSet : FnScope ["weights", "number", "point", "weight"] ["weights", "number"] (defScope sWSet) := ⟨rfl, rfl, rfl, by decide +kernel, rfl, by decide +kernel, by decide +kernel⟩
theorem pick_len (s : Nat) (W : List Int) : (pick s W).length ≤ W.length := by
  unfold pick
  rw [List.length_map]
  exact Nat.le_trans (List.length_filter_le _ _) (by rw [List.length_zipIdx]; exact Nat.le_refl _)
theorem ok_wset {f : Addr} {fd : FuncData} (F : Fun K "weight_in_set" "weight_in_set" sWSet f fd) (B : Blt mg) : FnOk P w K mg base CX0 1 f fd ["weights", "number"] spWSet := by
  refine F.ok scWSet (fun vs H Q E h => ?_) (fun cdv A outer s H vs Q E hr h => ⟨_, pss_one (ps_ret (pe_callB (cr_sum rfl) (by rfl) B.sum (by decide +kernel) (pa_cons
      (pe_lc (own := [("point", 2), ("weight", 3)]) (g := gTup K 2 (gCons (gName 2) (gCons (gName 3) gNil))) (te := tVar 3) (by rfl) scWSet.nd (pi_enum (by rfl) B.enumerate (pa_cons (pv 0) pa_nil)) (blkOk_by (own := [("point", 2), ("weight", 3)]) (N := ["weights", "number", "point", "weight"]) (sc := defScope sWSet) (by decide +kernel))
        (fun _ _ _ _ _ => pg_tup rfl (pgs_cons (pg_name (i := 2) scWSet.nd rfl (Or.inl rfl)) (pgs_cons (pg_name (i := 3) scWSet.nd rfl (Or.inl rfl)) pgs_nil)))
        (fun _ _ _ _ _ => pts_one (pt_cmpR op_eq (pe_op op_odd (pe_op op_shrN (pv 1) (pv 2)) pe_int) pe_int (nomark _))) (fun _ _ _ _ _ => pv 3)) pa_nil))), ?_⟩)
  · obtain ⟨a, b, _, rfl, _⟩ := h
    rfl
  · obtain ⟨a, W, n, rfl, ha, hx, q⟩ := h
    refine ⟨_, rfl, a, _, rfl, SqL.of ha, fun D hD => ?_⟩
    refine lc_enum (K := K) (a := a) (xs := W.map V.int) (fun i H' => Same H H' ∧ H' D = some (.lst ((pick n (W.take i)).map V.int))) ⟨same_new hD, upd_same⟩ (fun i H' h => SqL.of (h.1 _ _ ha)) ?_ ?_
    · rintro i x t H' hi ⟨s5, hD5⟩ ht
      obtain ⟨z, hz, rfl⟩ := int_at hi
      have hlt := (List.getElem?_eq_some_iff.mp hz).1
      have ed : V.int ((n : Int) / 2 ^ i) = V.int (((n / 2 ^ i : Nat)) : Int) := by rw [Int.natCast_ediv, Int.natCast_pow]; rfl
      refine ⟨t, _, rfl, SqT.of upd_same, rfl, _, _, rfl, _, _, rfl, rfl, rfl, ?_⟩
      refine ⟨_, rfl, _, rfl, (n : Int), i, rfl, rfl, n / 2 ^ i, ed, rfl, rfl, _, rfl, ?_⟩
      have hiff : (V.int ((n / 2 ^ i % 2 : Nat) : Int) = V.int 1) ↔ inSet n i = true := by
        unfold inSet
        rw [beq_iff_eq]
        constructor
        · intro h
          have := V.int.inj h
          omega
        · intro h
          rw [h]; rfl
      by_cases c : inSet n i = true
      · refine if_true_of (decide_eq_true (hiff.mpr c)) ?_
        refine ⟨_, rfl, _, same_new ht D _ hD5, ?_, fun b o e => ?_, ?_⟩
        · rw [List.length_map, sz]
          have := pick_len n (W.take i)
          have := List.length_take_le' i W
          omega
        · rw [upd_ne (ne_of_none e hD), upd_ne (ne_of_none (s5 _ _ e) ht)]; exact s5 _ _ e
        · rw [upd_same]
          have e : pick n (W.take (i + 1)) = pick n (W.take i) ++ [z] := by
            unfold pick
            rw [zipIdx_take hz, List.filter_append, List.map_append]
            have : ([(z, i)].filter fun y => inSet n y.2) = [(z, i)] := by simp [c]
            rw [this]; rfl
          rw [e, List.map_append]
          rfl
      · refine if_false_of (decide_eq_false fun h => c (hiff.mp h)) ⟨s5.trans (same_new ht), ?_⟩
        have e : pick n (W.take (i + 1)) = pick n (W.take i) := by
          unfold pick
          rw [zipIdx_take hz, List.filter_append]
          have : ([(z, i)].filter fun y => inSet n y.2) = [] := by simp [c]
          rw [this, List.append_nil]
        rw [e]
        exact same_new ht D _ hD5
    · rintro H' ⟨s5, hD5⟩
      rw [List.length_map, List.take_length] at hD5
      exact ⟨D, _, rfl, SqL.of hD5, q H' s5⟩
end
end TT

set_option Elab.async false
set_option maxRecDepth 100000
set_option maxHeartbeats 2000000
namespace TT
open PySem PySem.Spec PyProof.Rows L2
open Sr58 (Frac frac)
/-! ### the state: how many points, each slot's weights -/
structure GSt where
  n : Nat
  W : List (List Int)
structure GOk (s : GSt) : Prop where
  n1 : 1 ≤ s.n
  n6 : s.n ≤ 6
  four : s.W.length = 4
  wt : ∀ w ∈ s.W, Wt s.n w
def GOkO : Option GSt → Prop
  | none => True
  | some s => GOk s
def absG (s : GSt) : Sr80.Ground := ⟨s.n, s.W.map spOf⟩
def absO : Option GSt → Sr80.State := Option.map absG
def tellA (a : Sr80.Ans) : List Int := a.num :: a.nums
/-! ### the calls -/
def idx : Sr80.Call → Nat
  | .begin_ _ => 0
  | .spread _ _ => 1
  | .told _ => 2
  | .apart _ _ => 3
  | .plan _ _ => 4
  | .test _ _ _ _ => 5
  | .behind _ _ _ => 6
  | .image _ _ _ => 7
  | .mix _ _ _ _ _ => 8
  | .same _ _ => 9
  | .set_ _ _ => 10
  | .give _ _ => 11
def nums : Sr80.Call → List Int
  | .begin_ n => [n]
  | .spread k _ => [k]
  | .told k => [k]
  | .apart k l => [k, l]
  | .plan k l => [k, l]
  | .test k l e _ => [k, l, e]
  | .behind k l m => [k, l, m]
  | .image k m _ => [k, m]
  | .mix k l m a b => [k, l, m, a, b]
  | .same k l => [k, l]
  | .set_ k s => [k, s]
  | .give k m => [k, m]
def rowOf : Sr80.Call → List Int
  | .spread _ w => w
  | .test _ _ _ p => p
  | .image _ _ f => f
  | _ => []
def slots : Sr80.Call → List Int
  | .begin_ _ => []
  | .spread k _ => [k]
  | .told k => [k]
  | .apart k l => [k, l]
  | .plan k l => [k, l]
  | .test k l _ _ => [k, l]
  | .behind k l m => [k, l, m]
  | .image k m _ => [k, m]
  | .mix k l m _ _ => [k, l, m]
  | .same k l => [k, l]
  | .set_ k _ => [k]
  | .give k m => [k, m]
def In32 (l : List Int) : Prop := ∀ x ∈ l, x.natAbs ≤ 2 ^ 31
/-! ### the object -/
structure GTxt (K : PySem.W.Frag) (mg : Str → Option Value) (C : Addr) : Prop where
  cl : Cls K C
  nP : NoAttr K C "points"
  nW : NoAttr K C "weights"
  gC : mg "Ground" = some (.ref C)
structure Consts (mg : Str → Option Value) : Prop where
  noSlot : ∃ t, mg "NO_SLOT" = some (.int (-2) t)
  notBegun : ∃ t, mg "NOT_BEGUN" = some (.int (-11) t)
  wrong : ∃ t, mg "WRONG_NUMBERS" = some (.int (-22) t)
  slotCount : ∃ t, mg "SLOT_COUNT" = some (.int 4 t)
  mostPoints : ∃ t, mg "MOST_POINTS" = some (.int 6 t)
  mostWeight : ∃ t, mg "MOST_WEIGHT" = some (.int 20 t)
  begin_ : ∃ t, mg "BEGIN" = some (.int 0 t)
  tooFine : ∃ t, mg "TOO_FINE" = some (.int (-75) t)
  mostParts : ∃ t, mg "MOST_PARTS" = some (.int 20 t)
def gF (n : Int) (wl : Addr) : List (Str × V) := [("points", .int n), ("weights", .ref wl)]
theorem gF_points (n : Int) (wl : Addr) : (gF n wl).lookup ("points" : Str) = some (.int n) := lk_here
theorem gF_weights (n : Int) (wl : Addr) : (gF n wl).lookup ("weights" : Str) = some (.ref wl) := (lk_past (by decide +kernel)).trans lk_here
def GAt (C : Addr) (H : Hp) (g wl : Addr) : Option GSt → Prop
  | none => ∃ dx o, H g = some (.ins C dx (gF 0 wl)) ∧ H wl = some o
  | some s => ∃ dx as, H g = some (.ins C dx (gF s.n wl)) ∧ H wl = some (.lst (as.map V.ref)) ∧ RowsAt H as s.W
theorem GAt.same {C : Addr} {H H' : Hp} {g wl : Addr} : ∀ {st : Option GSt}, GAt C H g wl st → Same H H' → GAt C H' g wl st
  | none, ⟨dx, o, h, h2⟩, s => ⟨dx, o, s _ _ h, s _ _ h2⟩
  | some _, ⟨dx, as, h1, h2, h3⟩, s => ⟨dx, as, s _ _ h1, s _ _ h2, h3.same fun a _ o e => s _ _ e⟩
/-- b is one of the slots' lists -/
def Foot (H : Hp) (wl b : Addr) : Prop := ∃ as : List Addr, H wl = some (.lst (as.map V.ref)) ∧ b ∈ as
/-- what an answer leaves: a new list of its numbers, and the object's new state -/
def Res (C : Addr) (H : Hp) (g wl : Addr) (Q : VK) (st : Option GSt) (ans : List Int) : Prop :=
  ∀ H' p wl', (∀ b o, H b = some o → b ≠ g → b ≠ wl → H' b = some o) → H p = none → H' p = some (.lst (ans.map V.int)) → GAt C H' g wl' st → (wl' = wl ∨ H wl' = none) → p ≠ wl' → (∀ b o, H b = some o → ¬ Foot H wl b → ¬ Foot H' wl' b) → Q (.ref p) H'
theorem GAt.wl {C : Addr} {H : Hp} {g wl : Addr} : ∀ {st : Option GSt}, GAt C H g wl st → ∃ o, H wl = some o
  | none, ⟨_, o, _, h⟩ => ⟨o, h⟩
  | some _, ⟨_, _, _, h, _⟩ => ⟨_, h⟩
theorem Res.same {C : Addr} {H H' : Hp} {g wl p : Addr} {Q : VK} {st : Option GSt} {ans : List Int} (r : Res C H g wl Q st ans) (s : Same H H') (hp : H p = none) (h : H' p = some (.lst (ans.map V.int))) (G : GAt C H g wl st) (hw : p ≠ wl) : Q (.ref p) H' :=
  r H' p wl (fun b o e _ _ => s b o e) hp h (G.same s) (Or.inl rfl) hw fun b o _ hn ⟨as, h1, h2⟩ => by
    obtain ⟨ow, how⟩ := G.wl
    rw [s _ _ how] at h1
    exact hn ⟨as, by rw [how, h1], h2⟩
/-- the promise of an answering def: call number i -/
def spAn (C : Addr) (i : Nat) : Sp := fun vs H Q _ => ∃ (g wl na ra : Addr) (st : Option GSt) (c : Sr80.Call), vs = [.ref g, .ref na, .ref ra] ∧ idx c = i ∧ GAt C H g wl st ∧ GOkO st ∧ H na = some (.lst ((nums c).map V.int)) ∧ H ra = some (.lst ((rowOf c).map V.int)) ∧ (rowOf c).length ≤ 70 ∧ In32 (nums c) ∧ In32 (rowOf c) ∧
  (∀ k ∈ slots c, 0 ≤ k ∧ k < 4) ∧ (i ≠ 0 → ∃ s, st = some s) ∧ ∀ st', absO st' = (Sr80.step (absO st) c).1 → GOkO st' → Res C H g wl Q st' (tellA (Sr80.step (absO st) c).2)
/-! ### mathematics of one slot -/
theorem fr_tfr {b : Int} (hb : 0 < b) (a : Int) : Sr66.fr (frac a b.toNat) = tfr a b := by
  unfold Sr66.fr tfr frac
  have e : b.natAbs = b.toNat := by omega
  have h1 : Nat.gcd a.natAbs b.toNat ≠ 0 := by
    intro h
    have := (Nat.gcd_eq_zero_iff.mp h).2
    omega
  have h2 : b.toNat / Nat.gcd a.natAbs b.toNat ≠ 0 := by
    have h3 : Nat.gcd a.natAbs b.toNat ≤ b.toNat := Nat.gcd_le_right _ (by omega)
    have := Nat.div_pos h3 (Nat.pos_of_ne_zero h1)
    omega
  simp only [if_neg h1, if_neg h2, e]
  have e2 : ((b.toNat / Nat.gcd a.natAbs b.toNat : Nat) : Int) = b / ((Nat.gcd a.natAbs b.toNat : Nat) : Int) := by
    rw [Int.natCast_ediv]
    have : ((b.toNat : Nat) : Int) = b := by omega
    rw [this]
  rw [e2]
theorem flat_fr {b : Int} (hb : 0 < b) (l : List Int) : (sp b.toNat l).flatMap Sr66.fr = l.flatMap fun x => tfr x b := by
  unfold sp
  induction l with
  | nil => rfl
  | cons x l ih => rw [List.map_cons, List.flatMap_cons, List.flatMap_cons, ih, fr_tfr hb]
section
variable {P : Program} {w : World} {K : PySem.W.Frag} {mg : Str → Option Value} {base : Heap}
theorem row_ix {H : Hp} {as : List Addr} {W : List (List Int)} (h : RowsAt H as W) {k : Int} (h0 : 0 ≤ k) (h4 : k < 4) (hl : W.length = 4) : ∃ a, atI (as.map V.ref) k = some (V.ref a) ∧ H a = some (.lst ((W.getD k.toNat []).map V.int)) ∧ W.getD k.toNat [] ∈ W := by
  obtain ⟨a, e1, e2, e3⟩ := h.at (k := k.toNat) (by omega)
  refine ⟨a, ?_, e3, ?_⟩
  · have e : k = ((k.toNat : Nat) : Int) := by omega
    rw [e, Int.toNat_natCast] at *
    exact atI_nat (by rw [List.getElem?_map, e1]; rfl)
  · have hlt : k.toNat < W.length := by omega
    rw [List.getD_eq_getElem?_getD, List.getElem?_eq_getElem hlt]
    exact List.getElem_mem hlt
end
end TT

set_option Elab.async false
set_option maxRecDepth 100000
set_option maxHeartbeats 2000000
namespace TT
open PySem PySem.Spec PyProof.Rows L2
open Sr58 (Frac frac)
abbrev sPOS : Stmt := top 37
abbrev sATold : Stmt := top 41
abbrev sAApart : Stmt := top 42
abbrev sAPlan : Stmt := top 43
abbrev sATest : Stmt := top 44
theorem at_abs (s : GSt) (k : Int) : Sr80.at_ (absG s) k = spOf (s.W.getD k.toNat []) := by
  unfold Sr80.at_ absG
  exact getD_map spOf [] s.W k.toNat
theorem isK_of {k : Int} (h : 0 ≤ k ∧ k < 4) : Sr80.isK k = true := by
  unfold Sr80.isK
  have : ((Sr80.SLOTS : Nat) : Int) = 4 := rfl
  rw [this, decide_eq_true h.1, decide_eq_true h.2]; rfl
section
variable {P : Program} {w : World} {K : PySem.W.Frag} {mg : Str → Option Value} {base : Heap}
/-! pair_of_slots -/
def spPOS (C CP : Addr) : Sp := fun vs H Q _ => ∃ (g wl na : Addr) (s : GSt) (k l : Int) (more : List Int), vs = [.ref g, .ref na] ∧ GAt C H g wl (some s) ∧ GOk s ∧ H na = some (.lst ((k :: l :: more).map V.int)) ∧ (0 ≤ k ∧ k < 4) ∧ (0 ≤ l ∧ l < 4) ∧
  ∀ H' p, Same H H' → H p = none → PairAt CP H' p ((s.W.getD k.toNat []).sum * (s.W.getD l.toNat []).sum) ((s.W.getD k.toNat []).map (· * (s.W.getD l.toNat []).sum)) ((s.W.getD l.toNat []).map (· * (s.W.getD k.toNat []).sum)) → Q (.ref p) H'
theorem scPOS : FnScope ["ground", "numbers"] ["ground", "numbers"] (defScope sPOS) := ⟨rfl, rfl, rfl, by decide +kernel, rfl, by decide +kernel, by decide +kernel⟩
theorem ok_pos {C CP f fI : Addr} {fd fdI : FuncData} (F : Fun K "pair_of_slots" "pair_of_slots" sPOS f fd) (T : GTxt K mg C) (TP : PairTxt K mg CP) (M : Mk K CP fI) (GI : FnOk P w K mg base CX0 2 fI fdI ["self", "first", "second"] (spPairI CP)) (bI : Binds K fdI ["self", "first", "second"] []) :
    FnOk P w K mg base CX0 4 f fd ["ground", "numbers"] (spPOS C CP) := by
  refine F.ok scPOS (fun vs H Q E h => ?_) (fun cdv A outer s H vs Q E hr h => ⟨_, pss_one (ps_ret (pe_make M GI hr rfl TP.gC bI .nil pass0
      (pa_cons (pe_ix ix_list (pe_fld (pv 0) rfl) (pe_ix ix_list (pv 1) pe_int (fun _ _ => rfl)) (fun _ _ => rfl))
      (pa_cons (pe_ix ix_list (pe_fld (pv 0) rfl) (pe_ix ix_list (pv 1) pe_int (fun _ _ => rfl)) (fun _ _ => rfl)) pa_nil)))), ?_⟩)
  · obtain ⟨_, _, _, _, _, _, _, rfl, _⟩ := h
    rfl
  · obtain ⟨g, wl, na, st, k, l, more, rfl, ⟨dx, as, hg, hw, hR⟩, ok, hna, hk, hl, q⟩ := h
    obtain ⟨a, ea, ha, ma⟩ := row_ix hR hk.1 hk.2 ok.four
    obtain ⟨b, eb, hb, mb⟩ := row_ix hR hl.1 hl.2 ok.four
    have wa := ok.wt _ ma
    have wb := ok.wt _ mb
    have n6 := ok.n6
    refine ⟨_, rfl, g, C, dx, _, _, rfl, hg, T.cl, T.nW, gF_weights _ _, _, rfl, na, _, _, _, rfl, rfl, SqL.of hna, atI_nat (j := 0) rfl, wl, _, _, _, rfl, rfl, SqL.of hw, ea, ?_⟩
    refine ⟨_, rfl, g, C, dx, _, _, rfl, hg, T.cl, T.nW, gF_weights _ _, _, rfl, na, _, _, _, rfl, rfl, SqL.of hna, atI_nat (j := 1) rfl, wl, _, _, _, rfl, rfl, SqL.of hw, eb, ?_⟩
    intro x dx2 nx nd ne
    have hs : Same H (upd (upd H dx2 (.own x)) x (.ins CP dx2 [])) := fun c o e => by
      rw [upd_ne (ne_of_none e nx), upd_ne (ne_of_none e nd)]; exact e
    refine ⟨x, dx2, a, b, _, _, rfl, upd_same, hs _ _ ha, hs _ _ hb, by rw [wa.1]; omega, by rw [wb.1]; omega, wa.mul wb, fun H' PA kp => ⟨rfl, ?_⟩⟩
    exact q H' x (Same.made nx nd kp) nx PA
/-! answer_told -/
theorem scATold : FnScope ["ground", "numbers", "row", "weights"] ["ground", "numbers", "row"] (defScope sATold) := ⟨rfl, rfl, rfl, by decide +kernel, rfl, by decide +kernel, by decide +kernel⟩
theorem len_an {C : Addr} {i : Nat} {vs : List V} {H : Hp} {Q : VK} {E : XK} (h : spAn C i vs H Q E) : vs.length = (["ground", "numbers", "row"] : List Str).length := by
  obtain ⟨_, _, _, _, _, _, rfl, _⟩ := h
  rfl
theorem told_math {s : GSt} {k : Int} (hk : 0 ≤ k ∧ k < 4) {wt : List Int} (e : s.W.getD k.toNat [] = wt) (hw : Wt s.n wt) : Sr80.step (absO (some s)) (.told k) = (absO (some s), ⟨(s.n : Int), wt.flatMap fun x => tfr x wt.sum⟩) := by
  show (some (absG s), if Sr80.isK k = false then Sr80.say (-2) else Sr80.tells (Sr80.at_ (absG s) k)) = _
  rw [isK_of hk, at_abs, e]
  have e2 : Sr80.tells (spOf wt) = ⟨(s.n : Int), wt.flatMap fun x => tfr x wt.sum⟩ := by
    show (⟨((spOf wt).length : Int), (spOf wt).flatMap Sr66.fr⟩ : Sr66.Ans) = _
    unfold spOf
    rw [sp_length, hw.1, flat_fr hw.2.2.1]
  rw [e2]
  rfl
theorem ok_told {C f g1 : Addr} {fd gd1 : FuncData} (F : Fun K "answer_told" "answer_told" sATold f fd) (T : GTxt K mg C) (B : Blt mg) (G1 : Def P w K mg base 3 "told_fractions" ["uppers", "lower"] spTFs g1 gd1) : FnOk P w K mg base CX0 4 f fd ["ground", "numbers", "row"] (spAn C 2) := by
  refine F.ok scATold (fun vs H Q E h => len_an h) (fun cdv A outer s H vs Q E hr h => ⟨_, pss_cons (ps_set (i := 3) scATold.nd rfl (Or.inl rfl) (pe_ix ix_list (pe_fld (pv 0) rfl) (pe_ix ix_list (pv 1) pe_int (fun _ _ => rfl)) (fun _ _ => rfl)))
      (pss_one (ps_ret (pe_op op_cat (pe_lst (pa_cons (pe_fld (pv 0) rfl) pa_nil)) (pe_call G1.ok hr rfl G1.mg G1.kp G1.b .nil pass0 (pa_cons (pv 3) (pa_cons (pe_callB (cr_sum rfl) (by rfl) B.sum (by decide +kernel) (pa_cons (pv 3) pa_nil)) pa_nil)))))), ?_⟩)
  obtain ⟨g, wl, na, ra, st, c, rfl, hi, G, ok, hna, hra, hrl, i1, i2, hs, hb, q⟩ := h
  obtain ⟨st, rfl⟩ := hb (by decide)
  cases c <;> try cases hi
  rename_i k
  have hk := hs k (by simp [slots])
  obtain ⟨dx, as, hg, hw, hR⟩ := id G
  have ok : GOk st := ok
  obtain ⟨a, ea, ha, ma⟩ := row_ix hR hk.1 hk.2 ok.four
  have wa := ok.wt _ ma
  have n6 := ok.n6
  have mth := told_math hk rfl wa
  have q := q (some st) (by rw [mth]) ok
  rw [mth] at q
  refine ⟨_, rfl, g, C, dx, _, _, rfl, hg, T.cl, T.nW, gF_weights _ _, _, rfl, na, _, _, _, rfl, rfl, SqL.of hna, atI_nat (j := 0) rfl, wl, _, _, _, rfl, rfl, SqL.of hw, ea, ?_⟩
  refine ⟨_, rfl, g, C, dx, _, _, rfl, hg, T.cl, T.nP, gF_points _ _, by show 1 ≤ sizeLine; decide, fun p1 n1 => ?_⟩
  have s1 : Same H (upd H p1 (.lst [V.int (st.n : Int)])) := same_new n1
  refine ⟨_, rfl, _, rfl, a, _, rfl, SqL.of (s1 _ _ ha), a, _, _, rfl, s1 _ _ ha, wa.2.2.1, wa.sm, by rw [wa.1]; omega, fun H2 p2 s2 n2 h2 => ?_⟩
  refine ⟨p1, p2, _, _, rfl, rfl, s2 _ _ upd_same, h2, ?_, fun p3 n3 => ?_⟩
  · rw [List.length_map, flat_len, wa.1, sz]
    show 1 + _ ≤ _
    omega
  · have hp3 : H p3 = none := (s1.trans s2).free n3
    refine q.same ((s1.trans s2).trans (same_new n3)) hp3 ?_ G (Ne.symm (ne_of_none hw hp3))
    rw [upd_same]; rfl
end
end TT

set_option Elab.async false
set_option maxRecDepth 100000
set_option maxHeartbeats 2000000
namespace TT
open PySem PySem.Spec PyProof.Rows L2
open Sr58 (Frac frac)
/-- two slots raised to one sum -/
theorem raise_two {n : Nat} {a b : List Int} (ha : Wt n a) (hb : Wt n b) : spOf a = sp (a.sum * b.sum).toNat (a.map (· * b.sum)) ∧ spOf b = sp (a.sum * b.sum).toNat (b.map (· * a.sum)) := by
  refine ⟨(sp_scale hb.2.2.1 ha.2.2.1 a).symm, ?_⟩
  rw [Int.mul_comm]
  exact (sp_scale ha.2.2.1 hb.2.2.1 b).symm
theorem mul_pos' {a b : Int} (ha : 0 < a) (hb : 0 < b) : 0 < a * b := Int.mul_pos ha hb
theorem sums_alike (a b : List Int) : (a.map (· * b.sum)).sum = (b.map (· * a.sum)).sum := by rw [sum_mul, sum_mul, Int.mul_comm]
theorem apart_math {s : GSt} {k l : Int} (hk : 0 ≤ k ∧ k < 4) (hl : 0 ≤ l ∧ l < 4) {a b : List Int} (ea : s.W.getD k.toNat [] = a) (eb : s.W.getD l.toNat [] = b) (ha : Wt s.n a) (hb : Wt s.n b) :
    Sr80.step (absO (some s)) (.apart k l) = (absO (some s), ⟨setNo (surplus (a.map (· * b.sum)) (b.map (· * a.sum))), tfr (surplus (a.map (· * b.sum)) (b.map (· * a.sum))).sum (a.sum * b.sum)⟩) := by
  show (some (absG s), if Sr80.isK k = false ∨ Sr80.isK l = false then Sr80.say (-2) else (⟨((Sr80.where_ s.n (Sr80.at_ (absG s) k) (Sr80.at_ (absG s) l) : Nat) : Int), Sr66.fr (Sr80.apart s.n (Sr80.at_ (absG s) k) (Sr80.at_ (absG s) l))⟩ : Sr66.Ans)) = _
  rw [isK_of hk, isK_of hl, at_abs, at_abs, ea, eb]
  obtain ⟨r1, r2⟩ := raise_two ha hb
  have hT : 0 < (a.sum * b.sum).toNat := by have := mul_pos' ha.2.2.1 hb.2.2.1; omega
  rw [r1, r2, where_sp hT (by rw [List.length_map, ha.1]) (by rw [List.length_map, hb.1]), apart_sp hT (by rw [List.length_map, ha.1]) (by rw [List.length_map, hb.1]), fr_tfr (mul_pos' ha.2.2.1 hb.2.2.1)]
  rfl
theorem plan_ans {n : Nat} {P : List (List Int)} (h : Sq n P) {T : Int} (hT : 0 < T) : Sr80.tellPlan n (P.map (sp T.toNat)) = ⟨((n * n : Nat) : Int), (P.flatten ++ [differZ P]).flatMap fun x => tfr x T⟩ := by
  unfold Sr80.tellPlan
  have e : (P.map (sp T.toNat)).flatten = sp T.toNat P.flatten := by unfold sp; rw [List.map_flatten]
  rw [e, flat_fr hT, differs_sp h, fr_tfr hT, List.flatMap_append]
  simp
theorem plan_math {s : GSt} {k l : Int} (hk : 0 ≤ k ∧ k < 4) (hl : 0 ≤ l ∧ l < 4) {a b : List Int} (ea : s.W.getD k.toNat [] = a) (eb : s.W.getD l.toNat [] = b) (ha : Wt s.n a) (hb : Wt s.n b) :
    Sr80.step (absO (some s)) (.plan k l) = (absO (some s), ⟨((s.n * s.n : Nat) : Int), ((bestZ (a.map (· * b.sum)) (b.map (· * a.sum))).flatten ++ [differZ (bestZ (a.map (· * b.sum)) (b.map (· * a.sum)))]).flatMap fun x => tfr x (a.sum * b.sum)⟩) := by
  show (some (absG s), if Sr80.isK k = false ∨ Sr80.isK l = false then Sr80.say (-2) else Sr80.tellPlan s.n (Sr80.best s.n (Sr80.at_ (absG s) k) (Sr80.at_ (absG s) l))) = _
  rw [isK_of hk, isK_of hl, at_abs, at_abs, ea, eb]
  obtain ⟨r1, r2⟩ := raise_two ha hb
  have hT0 := mul_pos' ha.2.2.1 hb.2.2.1
  have hT : 0 < (a.sum * b.sum).toNat := by omega
  rw [r1, r2, best_sp hT (by rw [List.length_map, ha.1]) (by rw [List.length_map, hb.1]) (sums_alike a b), plan_ans (bestZ_sq (by rw [List.length_map, ha.1]) (by rw [List.length_map, hb.1])) hT0]
  rfl
section
variable {P : Program} {w : World} {K : PySem.W.Frag} {mg : Str → Option Value} {base : Heap}
theorem scAApart : FnScope ["ground", "numbers", "row", "pair", "more"] ["ground", "numbers", "row"] (defScope sAApart) := ⟨rfl, rfl, rfl, by decide +kernel, rfl, by decide +kernel, by decide +kernel⟩
theorem ok_apart {C CP f g1 g2 g3 g4 : Addr} {fd gd1 gd2 gd3 gd4 : FuncData} (F : Fun K "answer_apart" "answer_apart" sAApart f fd) (T : GTxt K mg C) (TP : PairTxt K mg CP) (B : Blt mg)
    (G1 : Def P w K mg base 4 "pair_of_slots" ["ground", "numbers"] (spPOS C CP) g1 gd1) (G2 : Def P w K mg base 1 "surplus" ["ones", "others"] spSurplus g2 gd2) (G3 : Def P w K mg base 1 "set_number" ["amounts"] spSetNo g3 gd3) (G4 : Def P w K mg base 2 "told_fraction" ["upper", "lower"] spTF g4 gd4) :
    FnOk P w K mg base CX0 5 f fd ["ground", "numbers", "row"] (spAn C 3) := by
  refine F.ok scAApart (fun vs H Q E h => len_an h) (fun cdv A outer s H vs Q E hr h => ⟨_, pss_cons (ps_set (i := 3) scAApart.nd rfl (Or.inl rfl) (pe_call G1.ok hr rfl G1.mg G1.kp G1.b .nil pass0 (pa_cons (pv 0) (pa_cons (pv 1) pa_nil))))
      (pss_cons (ps_set (i := 4) scAApart.nd rfl (Or.inl rfl) (pe_call G2.ok (hr.mono (by decide)) rfl G2.mg G2.kp G2.b .nil pass0 (pa_cons (pe_fld (pv 3) rfl) (pa_cons (pe_fld (pv 3) rfl) pa_nil))))
      (pss_one (ps_ret (pe_op op_cat (pe_lst (pa_cons (pe_call G3.ok (hr.mono (by decide)) rfl G3.mg G3.kp G3.b .nil pass0 (pa_cons (pv 4) pa_nil)) pa_nil))
        (pe_call G4.ok (hr.mono (by decide)) rfl G4.mg G4.kp G4.b .nil pass0 (pa_cons (pe_callB (cr_sum rfl) (by rfl) B.sum (by decide +kernel) (pa_cons (pv 4) pa_nil)) (pa_cons (pe_fld (pv 3) rfl) pa_nil))))))), ?_⟩)
  obtain ⟨g, wl, na, ra, st, c, rfl, hi, G, ok, hna, hra, hrl, i1, i2, hs, hb, q⟩ := h
  obtain ⟨st, rfl⟩ := hb (by decide)
  cases c <;> try cases hi
  rename_i k l
  have hk := hs k (by simp [slots])
  have hl := hs l (by simp [slots])
  obtain ⟨dx, as, hg, hw, hR⟩ := id G
  have ok : GOk st := ok
  obtain ⟨a, ea, ha, ma⟩ := row_ix hR hk.1 hk.2 ok.four
  obtain ⟨b, eb, hb', mb⟩ := row_ix hR hl.1 hl.2 ok.four
  have wa := ok.wt _ ma
  have wb := ok.wt _ mb
  have n6 := ok.n6
  have mth := apart_math hk hl rfl rfl wa wb
  have q := q (some st) (by rw [mth]) ok
  rw [mth] at q
  have hsm := wa.smm wb
  have hpos := mul_pos' wa.2.2.1 wb.2.2.1
  refine ⟨_, rfl, _, rfl, g, wl, na, st, k, l, [], rfl, G, ok, hna, hk, hl, fun H1 p1 s1 n1 PA => ?_⟩
  obtain ⟨d1, pa, pb, hp1, hpa, hpb⟩ := PA
  refine ⟨_, rfl, p1, CP, d1, _, _, rfl, hp1, TP.cl, TP.nF, pF_first _ _ _, _, rfl, p1, CP, d1, _, _, rfl, hp1, TP.cl, TP.nS, pF_second _ _ _, pa, pb, _, _, rfl, hpa, hpb, by rw [List.length_map, List.length_map, wa.1, wb.1], by rw [List.length_map, wa.1]; omega, fun H2 p2 s2 n2 h2 => ?_⟩
  refine ⟨_, rfl, p2, _, rfl, h2, ?_, fun H3 s3 => ?_⟩
  · rw [surplus_len (n := st.n) (by rw [List.length_map, wa.1]) (by rw [List.length_map, wb.1])]; omega
  refine ⟨by show 1 ≤ sizeLine; decide, fun p3 n3 => ?_⟩
  have s4 := same_new (o := .lst [V.int (setNo (surplus ((st.W.getD k.toNat []).map (· * (st.W.getD l.toNat []).sum)) ((st.W.getD l.toNat []).map (· * (st.W.getD k.toNat []).sum))))]) n3
  refine ⟨_, rfl, p2, _, rfl, SqL.of (s4 _ _ (s3 _ _ h2)), _, rfl, p1, CP, d1, _, _, rfl, s4 _ _ (s3 _ _ (s2 _ _ hp1)), TP.cl, TP.nT, pF_total _ _ _, _, _, rfl, hpos, hsm, fun H5 p5 s5 n5 h5 => ?_⟩
  have s05 : Same H H5 := (((s1.trans s2).trans s3).trans s4).trans s5
  refine ⟨p3, p5, _, _, rfl, rfl, s5 _ _ upd_same, h5, ?_, fun p6 n6 => ?_⟩
  · show 1 + 2 ≤ sizeLine; decide
  · have hp6 : H p6 = none := s05.free n6
    refine q.same (s05.trans (same_new n6)) hp6 ?_ G (Ne.symm (ne_of_none hw hp6))
    rw [upd_same]; rfl
/-! told_plan -/
abbrev sTPlan : Stmt := top 38
def spTPlan : Sp := fun vs H Q _ => ∃ (p : Addr) (n : Nat) (Z : List (List Int)) (T : Int), vs = [.ref p, .int T] ∧ MatAt H p Z ∧ Sq n Z ∧ n ≤ 6 ∧ 0 < T ∧ Sm T ∧ NewL H Q (((n * n : Nat) : Int) :: (Z.flatten ++ [differZ Z]).flatMap fun x => tfr x T)
theorem scTPlan : FnScope ["rows", "lower", "cells"] ["rows", "lower"] (defScope sTPlan) := ⟨rfl, rfl, rfl, by decide +kernel, rfl, by decide +kernel, by decide +kernel⟩
theorem ok_tplan {f g3 g4 g5 : Addr} {fd gd3 gd4 gd5 : FuncData} (F : Fun K "told_plan" "told_plan" sTPlan f fd) (B : Blt mg)
    (G3 : Def P w K mg base 1 "in_one_row" ["plan"] spInOne g3 gd3) (G4 : Def P w K mg base 3 "told_fractions" ["uppers", "lower"] spTFs g4 gd4) (G5 : Def P w K mg base 1 "differing" ["plan"] spDiff g5 gd5) :
    FnOk P w K mg base CX0 4 f fd ["rows", "lower"] spTPlan := by
  refine F.ok scTPlan (fun vs H Q E h => ?_) (fun cdv A outer s H vs Q E hr h => ⟨_, pss_cons (ps_set (i := 2) scTPlan.nd rfl (Or.inl rfl) (pe_call G3.ok (hr.mono (by decide)) rfl G3.mg G3.kp G3.b .nil pass0 (pa_cons (pv 0) pa_nil)))
      (pss_one (ps_ret (pe_op op_cat (pe_lst (pa_cons (pe_callB call_len_seq (by rfl) B.len PySem.boot_len (pa_cons (pv 2) pa_nil)) pa_nil))
        (pe_call G4.ok hr rfl G4.mg G4.kp G4.b .nil pass0 (pa_cons (pe_op op_cat (pv 2) (pe_lst (pa_cons (pe_call G5.ok (hr.mono (by decide)) rfl G5.mg G5.kp G5.b .nil pass0 (pa_cons (pv 0) pa_nil)) pa_nil))) (pa_cons (pv 1) pa_nil)))))), ?_⟩)
  · obtain ⟨_, _, _, _, rfl, _⟩ := h
    rfl
  · obtain ⟨p2, n, Z, T, rfl, M, hsq, n6, hpos, hsm, q⟩ := h
    have hfl := flatten_len hsq
    have hn2 : n * n ≤ 36 := Nat.mul_le_mul n6 n6
    refine ⟨_, rfl, p2, Z, rfl, M, by omega, fun H3 p3 s3 n3 h3 => ?_⟩
    refine ⟨_, rfl, p3, _, rfl, .inl (SqL.of h3), by show 1 ≤ sizeLine; decide, fun p4 n4 => ?_⟩
    have s4 := same_new (o := .lst [V.int ((Z.flatten.map V.int).length : Nat)]) n4
    refine ⟨_, rfl, _, rfl, p2, n, Z, rfl, (M.same s3).same s4, hsq, by omega, fun H5 s5 => ?_⟩
    refine ⟨by show 1 ≤ sizeLine; decide, fun p6 n6 => ?_⟩
    have s6 := same_new (o := .lst [V.int (differZ Z)]) n6
    have h36 := s6 _ _ (s5 _ _ (s4 _ _ h3))
    refine ⟨p3, p6, _, _, rfl, rfl, h36, upd_same, by rw [List.length_map, hfl, sz]; show _ + 1 ≤ _; omega, fun p7 n7 => ?_⟩
    have s7 := same_new (o := .lst (Z.flatten.map V.int ++ [V.int (differZ Z)])) n7
    have s07 : Same H _ := (((s3.trans s4).trans s5).trans s6).trans s7
    refine ⟨_, rfl, p7, Z.flatten ++ [differZ Z], _, rfl, by rw [upd_same, List.map_append]; rfl, hpos, hsm, by rw [List.length_append, hfl]; show _ + 1 ≤ _; omega, fun H8 p8 s8 n8 h8 => ?_⟩
    have s08 : Same H H8 := s07.trans s8
    refine ⟨p4, p8, _, _, rfl, rfl, s8 _ _ (s7 _ _ (s6 _ _ (s5 _ _ upd_same))), h8, ?_, fun p9 n9 => ?_⟩
    · show 1 + (List.map V.int _).length ≤ sizeLine
      rw [List.length_map, flat_len, List.length_append, hfl, sz]
      show 1 + 2 * (_ + 1) ≤ _
      omega
    · refine q _ p9 (s08.trans (same_new n9)) (s08.free n9) ?_
      rw [upd_same, List.length_map, hfl]; rfl
theorem scAPlan : FnScope ["ground", "numbers", "row", "pair"] ["ground", "numbers", "row"] (defScope sAPlan) := ⟨rfl, rfl, rfl, by decide +kernel, rfl, by decide +kernel, by decide +kernel⟩
theorem ok_plan {C CP f g1 g2 g3 : Addr} {fd gd1 gd2 gd3 : FuncData} (F : Fun K "answer_plan" "answer_plan" sAPlan f fd) (T : GTxt K mg C) (TP : PairTxt K mg CP)
    (G1 : Def P w K mg base 4 "pair_of_slots" ["ground", "numbers"] (spPOS C CP) g1 gd1) (G2 : Def P w K mg base 2 "best_plan" ["pair"] (spBest CP) g2 gd2) (G3 : Def P w K mg base 4 "told_plan" ["rows", "lower"] spTPlan g3 gd3) :
    FnOk P w K mg base CX0 5 f fd ["ground", "numbers", "row"] (spAn C 4) := by
  refine F.ok scAPlan (fun vs H Q E h => len_an h) (fun cdv A outer s H vs Q E hr h => ⟨_, pss_cons (ps_set (i := 3) scAPlan.nd rfl (Or.inl rfl) (pe_call G1.ok hr rfl G1.mg G1.kp G1.b .nil pass0 (pa_cons (pv 0) (pa_cons (pv 1) pa_nil))))
      (pss_one (ps_ret (pe_call G3.ok hr rfl G3.mg G3.kp G3.b .nil pass0 (pa_cons (pe_call G2.ok (hr.mono (by decide)) rfl G2.mg G2.kp G2.b .nil pass0 (pa_cons (pv 3) pa_nil)) (pa_cons (pe_fld (pv 3) rfl) pa_nil))))), ?_⟩)
  obtain ⟨g, wl, na, ra, st, c, rfl, hi, G, ok, hna, hra, hrl, i1, i2, hs, hb, q⟩ := h
  obtain ⟨st, rfl⟩ := hb (by decide)
  cases c <;> try cases hi
  rename_i k l
  have hk := hs k (by simp [slots])
  have hl := hs l (by simp [slots])
  obtain ⟨dx, as, hg, hw, hR⟩ := id G
  have ok : GOk st := ok
  obtain ⟨a, ea, ha, ma⟩ := row_ix hR hk.1 hk.2 ok.four
  obtain ⟨b, eb, hb', mb⟩ := row_ix hR hl.1 hl.2 ok.four
  have wa := ok.wt _ ma
  have wb := ok.wt _ mb
  have n6 := ok.n6
  have mth := plan_math hk hl rfl rfl wa wb
  have q := q (some st) (by rw [mth]) ok
  rw [mth] at q
  have hsm := wa.smm wb
  have hpos := mul_pos' wa.2.2.1 wb.2.2.1
  have hsq := bestZ_sq (n := st.n) (A := (st.W.getD k.toNat []).map (· * (st.W.getD l.toNat []).sum)) (B := (st.W.getD l.toNat []).map (· * (st.W.getD k.toNat []).sum)) (by rw [List.length_map, wa.1]) (by rw [List.length_map, wb.1])
  refine ⟨_, rfl, _, rfl, g, wl, na, st, k, l, [], rfl, G, ok, hna, hk, hl, fun H1 p1 s1 n1 PA => ?_⟩
  obtain ⟨d1, pa, pb, hp1, hpa, hpb⟩ := id PA
  refine ⟨_, rfl, p1, _, _, _, rfl, PA, by rw [List.length_map, List.length_map, wa.1, wb.1], by rw [List.length_map, wa.1]; omega, fun H2 p2 as2 M => ?_⟩
  refine ⟨_, rfl, p1, CP, d1, _, _, rfl, M.same _ _ hp1, TP.cl, TP.nT, pF_total _ _ _, p2, st.n, _, _, rfl, M.mat, hsq, n6, hpos, hsm, fun H3 p3 s3 n3 h3 => ?_⟩
  have s03 := (s1.trans M.same).trans s3
  have hp3 : H p3 = none := (s1.trans M.same).free n3
  exact q.same s03 hp3 h3 G (Ne.symm (ne_of_none hw hp3))
end
end TT

set_option Elab.async false
set_option maxRecDepth 100000
set_option maxHeartbeats 2000000
namespace TT
open PySem PySem.Spec PyProof.Rows L2
open Sr58 (Frac frac)
theorem list_eq_iff {n : Nat} {X Y : List Int} (hX : X.length = n) (hY : Y.length = n) : X = Y ↔ ∀ i, i < n → X.getD i 0 = Y.getD i 0 :=
  ⟨fun h i _ => by rw [h], fun h => ext_getD 0 hX hY h⟩
theorem getD_map0 (f : Int → Int) (h0 : f 0 = 0) (l : List Int) (i : Nat) : (l.map f).getD i 0 = f (l.getD i 0) := by
  have := getD_map f 0 l i
  rw [h0] at this
  exact this
theorem isPlanI_Z {n : Nat} {T E : Int} (hT : 0 < T) (hE : 0 < E) {A B : List Int} {M : List (List Int)} (hA : A.length = n) (hB : B.length = n) (hM : Sq n M) : isPlanI n T E A B M = isPlanZ n T.toNat E.toNat A B M := by
  have cT : ((T.toNat : Nat) : Int) = T := by omega
  have cE : ((E.toNat : Nat) : Int) = E := by omega
  unfold isPlanI isPlanZ
  rw [cT, cE]
  have e1 : (!decide (∃ x ∈ M.flatten, x < 0)) = M.all (fun r => r.all fun x => decide (0 ≤ x)) := by
    rw [Bool.eq_iff_iff]
    simp only [Bool.not_eq_true', decide_eq_false_iff_not, List.all_eq_true, decide_eq_true_eq]
    constructor
    · intro h r hr x hx
      have : ¬ x < 0 := fun c => h ⟨x, List.mem_flatten.mpr ⟨r, hr, hx⟩, c⟩
      omega
    · rintro h ⟨x, hx, c⟩
      obtain ⟨r, hr, hx⟩ := List.mem_flatten.mp hx
      have := h r hr x hx
      omega
  have e2 : decide ((M.map fun r => r.sum).map (· * T) = A.map (· * E)) = (List.range n).all fun i => decide ((M.getD i []).sum * T = A.getD i 0 * E) := by
    rw [Bool.eq_iff_iff, decide_eq_true_eq, List.all_eq_true, list_eq_iff (n := n) (by rw [List.length_map, List.length_map, hM.1]) (by rw [List.length_map, hA])]
    have g1 : ∀ i, ((M.map fun r => r.sum).map (· * T)).getD i 0 = (M.getD i []).sum * T := fun i => by
      rw [getD_map0 (· * T) (by show 0 * T = 0; omega)]
      have := getD_map (fun r : List Int => r.sum) [] M i
      rw [← this]; rfl
    have g2 : ∀ i, (A.map (· * E)).getD i 0 = A.getD i 0 * E := fun i => getD_map0 (· * E) (by show 0 * E = 0; omega) A i
    constructor
    · intro h i hi
      have := h i (List.mem_range.mp hi)
      rw [g1, g2] at this
      exact decide_eq_true this
    · intro h i hi
      rw [g1, g2]
      exact of_decide_eq_true (h i (List.mem_range.mpr hi))
  have e3 : decide (((List.range n).map (colZ M)).map (· * T) = B.map (· * E)) = (List.range n).all fun j => decide (colZ M j * T = B.getD j 0 * E) := by
    rw [Bool.eq_iff_iff, decide_eq_true_eq, List.all_eq_true, list_eq_iff (n := n) (by rw [List.length_map, List.length_map, List.length_range]) (by rw [List.length_map, hB])]
    have g1 : ∀ i, i < n → (((List.range n).map (colZ M)).map (· * T)).getD i 0 = colZ M i * T := fun i hi => by
      rw [getD_map0 (· * T) (by show 0 * T = 0; omega), getD_range _ _ hi]
    have g2 : ∀ i, (B.map (· * E)).getD i 0 = B.getD i 0 * E := fun i => getD_map0 (· * E) (by show 0 * E = 0; omega) B i
    constructor
    · intro h i hi
      have hi := List.mem_range.mp hi
      have := h i hi
      rw [g1 i hi, g2] at this
      exact decide_eq_true this
    · intro h i hi
      rw [g1 i hi, g2]
      exact of_decide_eq_true (h i (List.mem_range.mpr hi))
  rw [e1, e2, e3]
def testAns (s : GSt) (a b : List Int) (e : Int) (p : List Int) : Sr80.Ans :=
  if e < 1 ∨ p.length ≠ s.n * s.n then Sr80.say (-22) else if isPlanI s.n (a.sum * b.sum) e (a.map (· * b.sum)) (b.map (· * a.sum)) (rowsZ s.n p) = false then Sr80.say 0 else ⟨1, tfr (differZ (rowsZ s.n p)) e⟩
theorem test_math {s : GSt} {k l e : Int} {p : List Int} (hk : 0 ≤ k ∧ k < 4) (hl : 0 ≤ l ∧ l < 4) {a b : List Int} (ea : s.W.getD k.toNat [] = a) (eb : s.W.getD l.toNat [] = b) (ha : Wt s.n a) (hb : Wt s.n b) :
    Sr80.step (absO (some s)) (.test k l e p) = (absO (some s), testAns s a b e p) := by
  show (some (absG s), if Sr80.isK k = false ∨ Sr80.isK l = false then Sr80.say (-2) else if e < 1 ∨ p.length ≠ s.n * s.n then Sr80.say (-22) else
      if Sr80.isPlan s.n (Sr80.at_ (absG s) k) (Sr80.at_ (absG s) l) (Sr80.readPlan s.n e p) = false then Sr80.say 0 else (⟨1, Sr66.fr (Sr80.differs s.n (Sr80.readPlan s.n e p))⟩ : Sr66.Ans)) = _
  rw [isK_of hk, isK_of hl, at_abs, at_abs, ea, eb]
  obtain ⟨r1, r2⟩ := raise_two ha hb
  have hT0 := mul_pos' ha.2.2.1 hb.2.2.1
  have hT : 0 < (a.sum * b.sum).toNat := by omega
  unfold testAns
  by_cases c : e < 1 ∨ p.length ≠ s.n * s.n
  · rw [if_pos c, if_pos c]; rfl
  · rw [if_neg c, if_neg c]
    have he : 0 < e := by
      have : ¬ e < 1 := fun h => c (Or.inl h)
      omega
    rw [readPlan_sp, r1, r2, isPlan_sp hT (by omega) (rowsZ_sq s.n p), differs_sp (rowsZ_sq s.n p), fr_tfr he, ← isPlanI_Z hT0 he (by rw [List.length_map, ha.1]) (by rw [List.length_map, hb.1]) (rowsZ_sq s.n p)]
    rfl
theorem sum_bound (l : List Int) (m : Nat) (h : ∀ x ∈ l, x.natAbs ≤ m) : l.sum.natAbs ≤ l.length * m := by
  induction l with
  | nil => simp
  | cons x l ih =>
    have h1 := h x List.mem_cons_self
    have h2 := ih fun y hy => h y (List.mem_cons_of_mem _ hy)
    rw [List.sum_cons, List.length_cons, Nat.add_mul]
    omega
theorem getD_in {l : List Int} {m : Nat} (h : ∀ x ∈ l, x.natAbs ≤ m) (i : Nat) : (l.getD i 0).natAbs ≤ m := by
  by_cases c : i < l.length
  · rw [List.getD_eq_getElem?_getD, List.getElem?_eq_getElem c]
    exact h _ (List.getElem_mem c)
  · rw [List.getD_eq_getElem?_getD, List.getElem?_eq_none (by omega)]
    exact Nat.zero_le _
theorem rowsZ_sum {n : Nat} {p : List Int} (h : In32 p) (hn : n ≤ 6) : (∀ r ∈ rowsZ n p, r.sum.natAbs < 2 ^ 40) ∧ ∀ j, (colZ (rowsZ n p) j).natAbs < 2 ^ 40 := by
  have hb : ∀ i j, (((rowsZ n p).getD i []).getD j 0).natAbs ≤ 2 ^ 31 := by
    intro i j
    by_cases c : i < n
    · unfold rowsZ
      rw [getD_range _ _ c]
      by_cases d : j < n
      · rw [getD_range _ _ d]; exact getD_in h _
      · rw [List.getD_eq_getElem?_getD, List.getElem?_eq_none (by rw [List.length_map, List.length_range]; omega)]
        exact Nat.zero_le _
    · have : (rowsZ n p).getD i [] = [] := by
        rw [List.getD_eq_getElem?_getD, List.getElem?_eq_none (by rw [(rowsZ_sq n p).1]; omega)]; rfl
      rw [this]; exact Nat.zero_le _
  have hm : n * 2 ^ 31 < 2 ^ 40 := Nat.lt_of_le_of_lt (Nat.mul_le_mul_right _ hn) (by decide)
  constructor
  · intro r hr
    unfold rowsZ at hr
    obtain ⟨i, hi, rfl⟩ := List.mem_map.mp hr
    have := sum_bound ((List.range n).map fun j => p.getD (i * n + j) 0) (2 ^ 31) (fun x hx => by
      obtain ⟨j, _, rfl⟩ := List.mem_map.mp hx
      exact getD_in h _)
    rw [List.length_map, List.length_range] at this
    omega
  · intro j
    unfold colZ
    have := sum_bound ((rowsZ n p).map fun r => r.getD j 0) (2 ^ 31) (fun x hx => by
      obtain ⟨r, hr, rfl⟩ := List.mem_map.mp hx
      obtain ⟨i, hi, e⟩ := List.getElem_of_mem hr
      have := hb i j
      have e2 : (rowsZ n p).getD i [] = r := by
        rw [List.getD_eq_getElem?_getD, List.getElem?_eq_getElem hi, e]; rfl
      rw [e2] at this
      exact this)
    rw [List.length_map, (rowsZ_sq n p).1] at this
    omega
section
variable {P : Program} {w : World} {K : PySem.W.Frag} {mg : Str → Option Value} {base : Heap}
theorem scATest : FnScope ["ground", "numbers", "row", "lower", "plan"] ["ground", "numbers", "row"] (defScope sATest) := ⟨rfl, rfl, rfl, by decide +kernel, rfl, by decide +kernel, by decide +kernel⟩
theorem ok_test {C CP f g1 g2 g3 g4 g5 : Addr} {fd gd1 gd2 gd3 gd4 gd5 : FuncData} (F : Fun K "answer_test" "answer_test" sATest f fd) (T : GTxt K mg C) (TP : PairTxt K mg CP) (B : Blt mg) (TC : Consts mg)
    (G1 : Def P w K mg base 4 "pair_of_slots" ["ground", "numbers"] (spPOS C CP) g1 gd1) (G2 : Def P w K mg base 1 "in_rows" ["numbers", "length"] spInRows g2 gd2) (G3 : Def P w K mg base 2 "is_plan" ["plan", "lower", "pair"] (spIsPlan CP) g3 gd3) (G4 : Def P w K mg base 2 "told_fraction" ["upper", "lower"] spTF g4 gd4) (G5 : Def P w K mg base 1 "differing" ["plan"] spDiff g5 gd5) :
    FnOk P w K mg base CX0 5 f fd ["ground", "numbers", "row"] (spAn C 5) := by
  obtain ⟨tw, hw22⟩ := TC.wrong
  refine F.ok scATest (fun vs H Q E h => len_an h) (fun cdv A outer s H vs Q E hr h => ⟨_, pss_cons (ps_set (i := 3) scATest.nd rfl (Or.inl rfl) (pe_ix ix_list (pv 1) pe_int (fun _ _ => rfl)))
      (pss_cons (ps_if (PW.pt (pw_or (pt_cmpR op_lt (pv 3) pe_int (nomark _)) (pw_or1 (pt_cmpR op_ne (pe_callB call_len_seq (by rfl) B.len PySem.boot_len (pa_cons (pv 2) pa_nil)) (pe_op op_mul (pe_fld (pv 0) rfl) (pe_fld (pv 0) rfl)) (nomark _))))) (pss_one (ps_ret (pe_lst (pa_cons (pe_glob (v := .int (-22)) rfl hw22 ⟨_, rfl⟩) pa_nil)))) pss_nil)
      (pss_cons (ps_set (i := 4) scATest.nd rfl (Or.inl rfl) (pe_call G2.ok (hr.mono (by decide)) rfl G2.mg G2.kp G2.b .nil pass0 (pa_cons (pv 2) (pa_cons (pe_fld (pv 0) rfl) pa_nil))))
      (pss_cons (ps_if (pt_not (pt_val (pe_call G3.ok (hr.mono (by decide)) rfl G3.mg G3.kp G3.b .nil pass0 (pa_cons (pv 4) (pa_cons (pv 3) (pa_cons (pe_call G1.ok hr rfl G1.mg G1.kp G1.b .nil pass0 (pa_cons (pv 0) (pa_cons (pv 1) pa_nil))) pa_nil)))))) (pss_one (ps_ret (pe_lst (pa_cons pe_int pa_nil)))) pss_nil)
      (pss_one (ps_ret (pe_op op_cat (pe_lst (pa_cons pe_int pa_nil)) (pe_call G4.ok (hr.mono (by decide)) rfl G4.mg G4.kp G4.b .nil pass0 (pa_cons (pe_call G5.ok (hr.mono (by decide)) rfl G5.mg G5.kp G5.b .nil pass0 (pa_cons (pv 4) pa_nil)) (pa_cons (pv 3) pa_nil))))))))), ?_⟩)
  obtain ⟨g, wl, na, ra, st, c, rfl, hi, G, ok, hna, hra, hrl, i1, i2, hs, hb, q⟩ := h
  obtain ⟨st, rfl⟩ := hb (by decide)
  cases c <;> try cases hi
  rename_i k l e p
  have hk := hs k (by simp [slots])
  have hl := hs l (by simp [slots])
  obtain ⟨dx, as, hg, hw, hR⟩ := id G
  have ok : GOk st := ok
  obtain ⟨a, ea, ha, ma⟩ := row_ix hR hk.1 hk.2 ok.four
  obtain ⟨b, eb, hb', mb⟩ := row_ix hR hl.1 hl.2 ok.four
  have wa := ok.wt _ ma
  have wb := ok.wt _ mb
  have n6 := ok.n6
  have mth := test_math (e := e) (p := p) hk hl rfl rfl wa wb
  have q := q (some st) (by rw [mth]) ok
  rw [mth] at q
  have hsm := wa.smm wb
  have hpos := mul_pos' wa.2.2.1 wb.2.2.1
  have hn2 : st.n * st.n ≤ 36 := Nat.mul_le_mul n6 n6
  unfold testAns at q
  refine ⟨_, rfl, na, _, _, _, rfl, rfl, SqL.of hna, atI_nat (j := 2) rfl, ?_⟩
  have bad : (e < 1 ∨ p.length ≠ st.n * st.n) → ∀ p1, H p1 = none → Q (.ref p1) (upd H p1 (.lst [V.int (-22)])) := fun hc p1 n1 => by
    rw [if_pos hc] at q
    exact q.same (same_new n1) n1 (by rw [upd_same]; rfl) G (Ne.symm (ne_of_none hw n1))
  refine ⟨_, rfl, _, _, rfl, rfl, _, rfl, ?_⟩
  by_cases c1 : e < 1
  · refine if_true_of (decide_eq_true c1) ?_
    refine if_true_of rfl ?_
    exact ⟨by show 1 ≤ sizeLine; decide, bad (Or.inl c1)⟩
  refine if_false_of (decide_eq_false c1) ?_
  refine ⟨_, rfl, ra, _, rfl, .inl (SqL.of hra), _, rfl, g, C, dx, _, _, rfl, hg, T.cl, T.nP, gF_points _ _, _, rfl, g, C, dx, _, _, rfl, hg, T.cl, T.nP, gF_points _ _, _, _, rfl, rfl, .inl ⟨by omega, by omega⟩, rfl, _, rfl, ?_⟩
  by_cases c2 : p.length = st.n * st.n
  rotate_left
  · refine if_true_of ?_ ?_
    · have : ¬ (V.int ((rowOf (.test k l e p)).map V.int).length = V.int ((st.n : Int) * st.n)) := fun z => by
        have z := V.int.inj z
        rw [List.length_map] at z
        apply c2
        have z2 : (p.length : Int) = (st.n : Int) * st.n := z
        rw [← Int.natCast_mul] at z2
        exact Int.ofNat_inj.mp z2
      rw [decide_eq_false this]; rfl
    · exact ⟨by show 1 ≤ sizeLine; decide, bad (Or.inr c2)⟩
  refine if_false_of ?_ ?_
  · have : V.int ((rowOf (.test k l e p)).map V.int).length = V.int ((st.n : Int) * st.n) := by
      congr 1
      rw [List.length_map]
      show (p.length : Int) = _
      rw [c2, Int.natCast_mul]
    rw [decide_eq_true this]; rfl
  have hnb : ¬ (e < 1 ∨ p.length ≠ st.n * st.n) := fun z => z.elim c1 fun z => z c2
  rw [if_neg hnb] at q
  have he : 0 < e := by omega
  have hE : e.natAbs ≤ 2 ^ 31 := i1 e (by simp [nums])
  obtain ⟨b1, b2⟩ := rowsZ_sum (n := st.n) i2 n6
  have hsq := rowsZ_sq st.n p
  refine ⟨_, rfl, _, rfl, g, C, dx, _, _, rfl, hg, T.cl, T.nP, gF_points _ _, ra, p, st.n, rfl, hra, ok.n1, n6, c2, fun H1 p1 as1 M => ?_⟩
  refine ⟨_, rfl, _, rfl, _, rfl, _, rfl, g, wl, na, st, k, l, [e], rfl, G.same M.same, ok, M.same _ _ hna, hk, hl, fun H2 p2 s2 n2 PA => ?_⟩
  have hA : ∀ x ∈ (st.W.getD k.toNat []).map (· * (st.W.getD l.toNat []).sum), CMulW x e := fun x hx => by
    obtain ⟨y, hy, rfl⟩ := List.mem_map.mp hx
    exact wide_mul (wide_lt (wa.small y hy) wb.2.2.2) (b := 32) (Nat.lt_of_le_of_lt hE (by decide)) (by decide) (by decide) (by decide)
  have hB : ∀ x ∈ (st.W.getD l.toNat []).map (· * (st.W.getD k.toNat []).sum), CMulW x e := fun x hx => by
    obtain ⟨y, hy, rfl⟩ := List.mem_map.mp hx
    exact wide_mul (wide_lt (wb.small y hy) wa.2.2.2) (b := 32) (Nat.lt_of_le_of_lt hE (by decide)) (by decide) (by decide) (by decide)
  refine ⟨p1, p2, st.n, _, _, _, _, _, rfl, M.mat.same s2, hsq, ok.n1, n6, PA, by rw [List.length_map, wa.1]; omega, by rw [List.length_map, wb.1]; omega,
    fun r hr => wide_mul (b1 r hr) (wide_lt wa.2.2.2 wb.2.2.2) (by decide) (by decide) (by decide), fun j _ => wide_mul (b2 j) (wide_lt wa.2.2.2 wb.2.2.2) (by decide) (by decide) (by decide), hA, hB, fun H3 s3 => ⟨_, rfl, ?_⟩⟩
  have s03 : Same H H3 := (M.same.trans s2).trans s3
  by_cases c3 : isPlanI st.n ((st.W.getD k.toNat []).sum * (st.W.getD l.toNat []).sum) e ((st.W.getD k.toNat []).map (· * (st.W.getD l.toNat []).sum)) ((st.W.getD l.toNat []).map (· * (st.W.getD k.toNat []).sum)) (rowsZ st.n p) = false
  · rw [if_pos c3] at q
    refine if_true_of (by rw [c3]; rfl) ?_
    refine ⟨by show 1 ≤ sizeLine; decide, fun p4 n4 => ?_⟩
    have hp4 := s03.free n4
    exact q.same (s03.trans (same_new n4)) hp4 (by rw [upd_same]; rfl) G (Ne.symm (ne_of_none hw hp4))
  · rw [if_neg c3] at q
    refine if_false_of (by rw [Bool.not_eq_false] at c3; rw [c3]; rfl) ?_
    refine ⟨by show 1 ≤ sizeLine; decide, fun p4 n4 => ?_⟩
    have s4 := same_new (o := .lst [V.int 1]) n4
    refine ⟨_, rfl, p1, st.n, _, rfl, ((M.mat.same s2).same s3).same s4, hsq, by omega, fun H5 s5 => ?_⟩
    refine ⟨_, rfl, _, _, rfl, he, Nat.lt_of_le_of_lt hE (Nat.lt_of_lt_of_le (by decide : 2 ^ 31 < 2 ^ 32) (Nat.pow_le_pow_right (by decide) (by decide))), fun H6 p6 s6 n6 h6 => ?_⟩
    have s06 : Same H H6 := ((s03.trans s4).trans s5).trans s6
    refine ⟨p4, p6, _, _, rfl, rfl, s6 _ _ (s5 _ _ upd_same), h6, by show 1 + 2 ≤ sizeLine; decide, fun p7 n7 => ?_⟩
    have hp7 := s06.free n7
    exact q.same (s06.trans (same_new n7)) hp7 (by rw [upd_same]; rfl) G (Ne.symm (ne_of_none hw hp7))
end
end TT

set_option Elab.async false
set_option maxRecDepth 100000
set_option maxHeartbeats 2000000
namespace TT
open PySem PySem.Spec PyProof.Rows L2
open Sr58 (Frac frac)
abbrev sGInit : Stmt := inClass (top 36) 0
abbrev sABegin : Stmt := top 39
abbrev sASpread : Stmt := top 40
theorem gF_new (wl : Addr) : putF "weights" (.ref wl) (putF "points" (.int 0) []) = gF 0 wl := (put_past (by decide +kernel)).trans rfl
theorem gF_putP (n m : Int) (wl : Addr) : putF "points" (.int m) (gF n wl) = gF m wl := put_here
theorem gF_putW (n : Int) (wl w2 : Addr) : putF "weights" (.ref w2) (gF n wl) = gF n w2 := (put_past (by decide +kernel)).trans (congrArg _ put_here)
/-! ### mathematics of begin and spread -/
def sureZ (n : Nat) : List Int := 1 :: List.replicate (n - 1) 0
theorem sureZ_sum (n : Nat) : (sureZ n).sum = 1 := by
  unfold sureZ
  rw [List.sum_cons]
  have : (List.replicate (n - 1) (0 : Int)).sum = 0 := by
    induction (n - 1) with
    | zero => rfl
    | succ m ih => rw [List.replicate_succ, List.sum_cons, ih]; rfl
  rw [this]; rfl
theorem sureZ_wt {n : Nat} (h : 1 ≤ n) : Wt n (sureZ n) := by
  refine ⟨by unfold sureZ; rw [List.length_cons, List.length_replicate]; omega, ?_, by rw [sureZ_sum]; decide, by
    rw [sureZ_sum]
    exact Nat.lt_of_lt_of_le (by decide : (1 : Int).natAbs < 2 ^ 1) (Nat.pow_le_pow_right (by decide) (by decide))⟩
  intro x hx
  unfold sureZ at hx
  rcases List.mem_cons.mp hx with rfl | hx
  · decide
  · rw [(List.mem_replicate.mp hx).2]; decide
theorem sure_sp {n : Nat} (h : 1 ≤ n) : spOf (sureZ n) = Sr80.sure n := by
  unfold spOf
  rw [sureZ_sum]
  unfold Sr80.sure
  obtain ⟨m, rfl⟩ : ∃ m, n = m + 1 := ⟨n - 1, by omega⟩
  rw [List.range_succ_eq_map, List.map_cons]
  unfold sureZ sp
  rw [List.map_cons]
  congr 1
  rw [Nat.add_sub_cancel, List.map_replicate, List.map_map]
  apply List.ext_getElem
  · rw [List.length_replicate, List.length_map, List.length_range]
  · intro i h1 h2
    rw [List.getElem_replicate, List.getElem_map]
    rfl
theorem replicate_abs {n : Nat} (h : 1 ≤ n) : absG ⟨n, List.replicate 4 (sureZ n)⟩ = ⟨n, List.replicate Sr80.SLOTS (Sr80.sure n)⟩ := by
  unfold absG
  rw [List.map_replicate, sure_sp h]
  rfl
theorem begin_ok {n : Nat} (h1 : 1 ≤ n) (h6 : n ≤ 6) : GOk ⟨n, List.replicate 4 (sureZ n)⟩ :=
  ⟨h1, h6, rfl, fun w hw => by rw [(List.mem_replicate.mp hw).2]; exact sureZ_wt h1⟩
theorem okW_iff (n : Nat) (w : List Int) : Sr80.okW n w = true ↔ w.length = n ∧ (∀ x ∈ w, 0 ≤ x ∧ x ≤ 20) ∧ ∃ x ∈ w, 0 < x := by
  unfold Sr80.okW
  simp only [Bool.and_eq_true, decide_eq_true_eq, List.all_eq_true, List.any_eq_true]
def fits (w : List Int) : List Int := w.filter fun x => decide (0 ≤ x) && decide (x ≤ 20)
theorem fits_all {w : List Int} (h : (fits w).length = w.length) : (∀ x ∈ w, 0 ≤ x ∧ x ≤ 20) ∧ fits w = w := by
  have h2 := List.length_filter_eq_length_iff.mp h
  have h3 : ∀ x ∈ w, 0 ≤ x ∧ x ≤ 20 := fun x hx => by
    have := h2 x hx
    rw [Bool.and_eq_true, decide_eq_true_eq, decide_eq_true_eq] at this
    exact this
  exact ⟨h3, List.filter_eq_self.mpr h2⟩
theorem sum_zero {w : List Int} (h : ∀ x ∈ w, 0 ≤ x) : w.sum = 0 ↔ ¬ ∃ x ∈ w, 0 < x := by
  induction w with
  | nil => simp
  | cons y w ih =>
    have hy := h y List.mem_cons_self
    have ih := ih fun x hx => h x (List.mem_cons_of_mem _ hx)
    have hs : 0 ≤ w.sum := by
      have : ∀ (l : List Int), (∀ x ∈ l, 0 ≤ x) → 0 ≤ l.sum := by
        intro l
        induction l with
        | nil => intro _; exact Int.le_refl _
        | cons z l ih2 =>
          intro hl
          have := ih2 fun x hx => hl x (List.mem_cons_of_mem _ hx)
          have := hl z List.mem_cons_self
          rw [List.sum_cons]; omega
      exact this w fun x hx => h x (List.mem_cons_of_mem _ hx)
    rw [List.sum_cons]
    constructor
    · rintro e ⟨x, hx, hx0⟩
      rcases List.mem_cons.mp hx with rfl | hx
      · omega
      · exact ih.mp (by omega) ⟨x, hx, hx0⟩
    · intro hn
      have h1 : ¬ 0 < y := fun c => hn ⟨y, List.mem_cons_self, c⟩
      have h2 : w.sum = 0 := ih.mpr fun ⟨x, hx, hx0⟩ => hn ⟨x, List.mem_cons_of_mem _ hx, hx0⟩
      omega
theorem foldl_nat : ∀ (w : List Int) (t : Nat), (∀ x ∈ w, 0 ≤ x) → (((w.map fun x => x.toNat).foldl (· + ·) t : Nat) : Int) = t + w.sum
  | [], t, _ => by simp
  | x :: w, t, h => by
    rw [List.map_cons, List.foldl_cons, foldl_nat w _ fun y hy => h y (List.mem_cons_of_mem _ hy), List.sum_cons]
    have := h x List.mem_cons_self
    omega
theorem spread_sp {w : List Int} (h : ∀ x ∈ w, 0 ≤ x) : Sr80.spreadOf (w.map fun x => x.toNat) = spOf w := by
  unfold Sr80.spreadOf spOf sp
  have e := foldl_nat w 0 h
  have e2 : (w.map fun x => x.toNat).foldl (· + ·) 0 = w.sum.toNat := by omega
  rw [e2, List.map_map]
  apply List.map_congr_left
  intro x hx
  have := h x hx
  show frac ((x.toNat : Nat) : Int) _ = _
  rw [show ((x.toNat : Nat) : Int) = x by omega]
theorem set_abs (s : GSt) (k : Int) (w : List Int) : absG ⟨s.n, s.W.set k.toNat w⟩ = Sr80.put (absG s) k (spOf w) := by
  unfold absG Sr80.put
  rw [List.map_set]
theorem set_ok {s : GSt} (h : GOk s) {w : List Int} (hw : Wt s.n w) (k : Nat) : GOk ⟨s.n, s.W.set k w⟩ :=
  ⟨h.n1, h.n6, by show (s.W.set k w).length = 4; rw [List.length_set]; exact h.four, fun v hv => by
    rcases List.mem_or_eq_of_mem_set hv with hv | hv
    · exact h.wt v hv
    · rw [hv]; exact hw⟩
theorem RowsAt.put {H : Hp} {as : List Addr} {W : List (List Int)} (h : RowsAt H as W) (k : Nat) {p : Addr} {w : List Int} (hp : H p = some (.lst (w.map V.int))) : RowsAt H (as.set k p) (W.set k w) := by
  refine ⟨by rw [List.length_set, List.length_set]; exact h.1, fun i a r e1 e2 => ?_⟩
  by_cases c : k = i
  · subst c
    have l1 : k < as.length := by
      have := (List.getElem?_eq_some_iff.mp e1).1
      rw [List.length_set] at this; exact this
    rw [List.getElem?_set_self l1] at e1
    rw [List.getElem?_set_self (by rw [← h.1]; exact l1)] at e2
    cases e1; cases e2; exact hp
  · rw [List.getElem?_set_ne c] at e1 e2
    exact h.2 i a r e1 e2
theorem refs_inj : ∀ {as bs : List Addr}, as.map V.ref = bs.map V.ref → as = bs
  | [], [], _ => rfl
  | [], _ :: _, h => by cases h
  | _ :: _, [], h => by cases h
  | a :: as, b :: bs, h => by
    rw [List.map_cons, List.map_cons] at h
    have h1 := (List.cons.inj h).1
    have h2 := (List.cons.inj h).2
    rw [V.ref.inj h1, refs_inj h2]
theorem refs_ints {as : List Addr} {r : List Int} (h : as ≠ []) : HO.lst (r.map V.int) ≠ HO.lst (as.map V.ref) := by
  intro e
  have e := HO.lst.inj e
  cases as with
  | nil => exact h rfl
  | cons a as =>
    cases r with
    | nil => cases e
    | cons x r => cases e
section
variable {P : Program} {w : World} {K : PySem.W.Frag} {mg : Str → Option Value} {base : Heap}
/-! Ground.__init__ -/
def spGI (C : Addr) : Sp := fun vs H Q _ => ∃ (p dx : Addr), vs = [.ref p] ∧ H p = some (.ins C dx []) ∧
  ∀ (H' : Hp) (wl : Addr), H' p = some (.ins C dx (gF 0 wl)) → H wl = none → (∀ b o, H b = some o → b ≠ p → H' b = some o) → H' wl = some (.lst []) → Q .non H'
theorem scGI : FnScope ["self"] ["self"] (defScope sGInit) := ⟨rfl, rfl, rfl, by decide +kernel, rfl, by decide +kernel, by decide +kernel⟩
theorem ok_gi {C f : Addr} {fd : FuncData} (F : Fun K "__init__" "Ground.__init__" sGInit f fd) (T : GTxt K mg C) : FnOk P w K mg base CX0 1 f fd ["self"] (spGI C) := by
  refine F.ok scGI (fun vs H Q E h => ?_) (fun cdv A outer s H vs Q E hr h => ⟨_, pss_cons (ps_fld (pv 0) pe_int rfl) (pss_one (ps_fld (pv 0) (pe_lst pa_nil) rfl)), ?_⟩)
  · obtain ⟨_, _, rfl, _⟩ := h
    rfl
  · obtain ⟨p, dx, rfl, hp, q⟩ := h
    refine ⟨_, rfl, p, C, dx, _, rfl, hp, T.cl, T.nP, by show 0 < 1000; decide, ?_⟩
    refine ⟨by show 0 ≤ sizeLine; decide, fun l hl => ?_⟩
    have nlp : p ≠ l := fun e => by rw [← e, upd_same] at hl; cases hl
    have hl0 : H l = none := by rw [upd_ne (Ne.symm nlp)] at hl; exact hl
    refine ⟨_, rfl, p, C, dx, _, rfl, (upd_ne nlp).trans upd_same, T.cl, T.nW, by show 1 < 1000; decide, ?_⟩
    refine q _ l ?_ hl0 (fun b o e hb => ?_) ((upd_ne (Ne.symm nlp)).trans upd_same)
    · rw [upd_same, gF_new]
    · rw [upd_ne hb, upd_ne (ne_of_none e hl0), upd_ne hb]; exact e
/-! answer_begin -/
theorem scABegin : FnScope ["ground", "numbers", "row", "points", "slot"] ["ground", "numbers", "row"] (defScope sABegin) := ⟨rfl, rfl, rfl, by decide +kernel, rfl, by decide +kernel, by decide +kernel⟩
theorem GAt.ins {C : Addr} {H : Hp} {g wl : Addr} : ∀ {st : Option GSt}, GAt C H g wl st → ∃ dx n, H g = some (.ins C dx (gF n wl))
  | none, ⟨dx, _, h, _⟩ => ⟨dx, 0, h⟩
  | some s, ⟨dx, _, h, _, _⟩ => ⟨dx, s.n, h⟩
theorem ok_begin {C f : Addr} {fd : FuncData} (F : Fun K "answer_begin" "answer_begin" sABegin f fd) (T : GTxt K mg C) (B : Blt mg) (TC : Consts mg) : FnOk P w K mg base CX0 1 f fd ["ground", "numbers", "row"] (spAn C 0) := by
  obtain ⟨tw, hw22⟩ := TC.wrong
  obtain ⟨t6, h6⟩ := TC.mostPoints
  obtain ⟨t4, h4⟩ := TC.slotCount
  refine F.ok scABegin (fun vs H Q E h => len_an h) (fun cdv A outer s H vs Q E hr h => ⟨_, pss_cons (ps_set (i := 3) scABegin.nd rfl (Or.inr rfl) (pe_ix ix_list (pv 1) pe_int (fun _ _ => rfl)))
      (pss_cons (ps_if (PW.pt (pw_or (pt_cmpR op_lt (pv 3) pe_int (nomark _)) (pw_or1 (pt_cmpR op_gt (pv 3) (pe_glob (v := .int 6) rfl h6 ⟨_, rfl⟩) (nomark _))))) (pss_one (ps_ret (pe_lst (pa_cons (pe_glob (v := .int (-22)) rfl hw22 ⟨_, rfl⟩) pa_nil)))) pss_nil)
      (pss_cons (ps_fld (pv 0) (pv 3) rfl)
      (pss_cons (ps_fld (pv 0) (pe_lc (own := [("slot", 4)]) (g := gName 4) (tt := tYes) (te := tOp rCat (tLst (tCons (tC (.int 1)) tNil)) (tOp rRep (tLst (tCons (tC (.int 0)) tNil)) (tOp (rI0 fun i j => .int (i - j)) (tVar 3) (tC (.int 1))))) (by rfl) scABegin.nd (pi_range1 (by rfl) B.range (pa_cons (pe_glob (v := .int 4) rfl h4 ⟨_, rfl⟩) pa_nil)) (blkOk_by (own := [("slot", 4)]) (N := ["ground", "numbers", "row", "points", "slot"]) (sc := defScope sABegin) (by decide +kernel))
        (fun _ _ _ _ _ => pg_name (i := 4) scABegin.nd rfl (Or.inl rfl)) (fun _ _ _ _ _ => pts_nil) (fun _ _ _ _ _ => pe_op op_cat (pe_lst (pa_cons pe_int pa_nil)) (pe_op op_rep (pe_lst (pa_cons pe_int pa_nil)) (pe_op op_sub (pv 3) pe_int)))) rfl)
      (pss_one (ps_ret (pe_lst (pa_cons pe_int pa_nil))))))), ?_⟩)
  obtain ⟨g, wl, na, ra, st, c, rfl, hi, G, ok, hna, hra, hrl, i1, i2, hs, hb, q⟩ := h
  cases c <;> try cases hi
  rename_i n
  have hn32 : n.natAbs ≤ 2 ^ 31 := i1 n (by simp [nums])
  obtain ⟨dx, n0, hg⟩ := G.ins
  refine ⟨_, rfl, na, _, _, _, rfl, rfl, SqL.of hna, atI_nat (j := 0) rfl, ?_⟩
  have stp : Sr80.step (absO st) (.begin_ n) = if n < 1 ∨ ((Sr80.POINTS : Nat) : Int) < n then (absO st, Sr80.say (-22)) else (some ⟨n.toNat, List.replicate Sr80.SLOTS (Sr80.sure n.toNat)⟩, Sr80.say 0) := rfl
  have c6 : ((Sr80.POINTS : Nat) : Int) = 6 := rfl
  rw [c6] at stp
  have bad : (n < 1 ∨ 6 < n) → ∀ p1, H p1 = none → Q (.ref p1) (upd H p1 (.lst [V.int (-22)])) := fun hc p1 n1 => by
    rw [if_pos hc] at stp
    have q := q st (by rw [stp]) ok
    rw [stp] at q
    obtain ⟨ow, how⟩ := G.wl
    exact q.same (same_new n1) n1 (by rw [upd_same]; rfl) G (Ne.symm (ne_of_none how n1))
  refine ⟨_, rfl, _, _, rfl, rfl, _, rfl, ?_⟩
  by_cases c1 : n < 1
  · refine if_true_of (decide_eq_true c1) ?_
    refine if_true_of rfl ?_
    exact ⟨by show 1 ≤ sizeLine; decide, bad (Or.inl c1)⟩
  refine if_false_of (decide_eq_false c1) ?_
  refine ⟨_, rfl, _, _, rfl, rfl, _, rfl, ?_⟩
  by_cases c2 : n > 6
  · refine if_true_of (decide_eq_true c2) ?_
    exact ⟨by show 1 ≤ sizeLine; decide, bad (Or.inr c2)⟩
  refine if_false_of (decide_eq_false c2) ?_
  have hc : ¬ (n < 1 ∨ 6 < n) := fun z => z.elim c1 c2
  rw [if_neg hc] at stp
  have h1 : 1 ≤ n.toNat := by omega
  have h6' : n.toNat ≤ 6 := by omega
  have q := q (some ⟨n.toNat, List.replicate 4 (sureZ n.toNat)⟩) (by
    rw [stp]
    show some (absG _) = _
    rw [replicate_abs h1]) (begin_ok h1 h6')
  rw [stp] at q
  refine ⟨_, rfl, _, rfl, g, C, dx, _, rfl, hg, T.cl, T.nP, by show 2 < 1000; decide, ?_⟩
  rw [gF_putP]
  refine ⟨4, rfl, by decide, by decide, fun D hD => ?_⟩
  have hDg : D ≠ g := fun e => by rw [e, upd_same] at hD; cases hD
  have hDH : H D = none := by rw [upd_ne hDg] at hD; exact hD
  refine lc_range (lo := 0) (n := 4) (fun i H' => ∃ as, NewM (upd H g (.ins C dx (gF n wl))) H' D as (List.replicate i (sureZ n.toNat))) ⟨[], ⟨same_new hD, hD, by simp, by simp, by simp, upd_same, RowsAt.nil _⟩⟩ ?_ ?_
  · rintro i H' hi ⟨as, M⟩
    refine ⟨rfl, by show 1 ≤ sizeLine; decide, fun p1 n1 => ⟨by show 1 ≤ sizeLine; decide, fun p2 n2 => ?_⟩⟩
    have s1 := same_new (o := .lst [V.int 1]) n1
    have s2 := same_new (o := .lst [V.int 0]) n2
    refine ⟨_, rfl, _, _, rfl, rfl, p2, _, _, rfl, rfl, upd_same, by omega, by omega, ?_, fun p3 n3 => ?_⟩
    · show 1 * _ ≤ _
      rw [sz]; omega
    have s3 := same_new (o := .lst (List.replicate (n - 1).toNat [V.int 0]).flatten) n3
    refine ⟨p1, p3, _, _, rfl, rfl, s3 _ _ (s2 _ _ upd_same), upd_same, ?_, fun p4 n4 => ?_⟩
    · rw [flat_rep, List.length_map, List.length_replicate, sz]
      show 1 + _ ≤ _
      omega
    have s4 := same_new (o := .lst ([V.int 1] ++ (List.replicate (n - 1).toNat [V.int 0]).flatten)) n4
    have s14 := ((s1.trans s2).trans s3).trans s4
    have hp4 : H' p4 = none := ((s1.trans s2).trans s3).free n4
    refine ⟨_, s14 _ _ M.at_p, ?_, as ++ [p4], ?_⟩
    · rw [List.length_map, M.rows.1, List.length_replicate, sz]; omega
    · rw [List.replicate_succ']
      refine M.snoc s14 hp4 ?_
      rw [upd_same, flat_rep]
      have e : (n - 1).toNat = n.toNat - 1 := by omega
      rw [e]; rfl
  · rintro H' ⟨as, M⟩
    refine ⟨_, rfl, g, C, dx, _, rfl, M.same _ _ upd_same, T.cl, T.nW, by show 2 < 1000; decide, ?_⟩
    rw [gF_putW]
    refine ⟨by show 1 ≤ sizeLine; decide, fun p1 n1 => ?_⟩
    have hgp : g ≠ p1 := fun e => by rw [← e, upd_same] at n1; cases n1
    have hp1' : H' p1 = none := by rw [upd_ne (Ne.symm hgp)] at n1; exact n1
    have hp1g : upd H g (.ins C dx (gF n wl)) p1 = none := M.same.free hp1'
    have hp1 : H p1 = none := by rw [upd_ne (Ne.symm hgp)] at hp1g; exact hp1g
    have nr : ∀ a ∈ as, a ≠ g := fun a ha e => by
      have := M.na a ha
      rw [e, upd_same] at this; cases this
    have hDp : D ≠ p1 := ne_of_none M.at_p hp1'
    refine q _ p1 D (fun b o e hb1 hb2 => ?_) hp1 (by rw [upd_same]; rfl) ⟨dx, as, ?_, ?_, ?_⟩ (Or.inr hDH) (Ne.symm hDp) ?_
    · rw [upd_ne (ne_of_none e hp1), upd_ne hb1]
      exact M.same _ _ (by rw [upd_ne hb1]; exact e)
    · rw [upd_ne hgp, upd_same]
      have : ((n.toNat : Nat) : Int) = n := by omega
      show some (HO.ins C dx (gF n D)) = some (HO.ins C dx (gF ((n.toNat : Nat) : Int) D))
      rw [this]
    · rw [upd_ne hDp, upd_ne hDg]; exact M.at_p
    · refine M.rows.same fun a ha o e => ?_
      rw [upd_ne (ne_of_none e hp1'), upd_ne (nr a ha)]; exact e
    · rintro b o e _ ⟨as2, h1, h2⟩
      rw [upd_ne hDp, upd_ne hDg, M.at_p] at h1
      have e2 := refs_inj (HO.lst.inj (Option.some.inj h1))
      rw [← e2] at h2
      have h3 := M.na b h2
      by_cases c : b = g
      · exact nr b h2 c
      · rw [upd_ne c, e] at h3; cases h3
/-- a slot's place -/
theorem ix_slot {st : GSt} {H : Hp} {as : List Addr} {k : Int} (ok : GOk st) (hR : RowsAt H as st.W) (hk : 0 ≤ k ∧ k < 4) : ixN (as.map V.ref).length k = some k.toNat := by
  have hasl : as.length = 4 := by rw [hR.1]; exact ok.four
  have e : k = ((k.toNat : Nat) : Int) := by omega
  rw [List.length_map, hasl, e, Int.toNat_natCast]
  exact ixN_nat (by omega)
/-- a new list stands in slot k, and [0] is answered -/
theorem put_fin {C g wl dx p1 pL : Addr} {as : List Addr} {st : GSt} {k : Int} {H H2 : Hp} {Q : VK} {v : List Int} (ok : GOk st) (hk : 0 ≤ k ∧ k < 4) (hg : H g = some (.ins C dx (gF st.n wl))) (hw : H wl = some (.lst (as.map V.ref))) (hR : RowsAt H as st.W) (s02 : Same H H2) (hpL : H pL = none) (h2 : H2 pL = some (.lst (v.map V.int)))
    (q : Res C H g wl Q (some ⟨st.n, st.W.set k.toNat v⟩) (tellA (Sr80.say 0))) (n1 : upd H2 wl (.lst ((as.map V.ref).set k.toNat (V.ref pL))) p1 = none) : Q (.ref p1) (upd (upd H2 wl (.lst ((as.map V.ref).set k.toNat (V.ref pL)))) p1 (.lst [V.int 0])) := by
  have hwp : wl ≠ p1 := fun e => by rw [← e, upd_same] at n1; cases n1
  have hp1' : H2 p1 = none := by rw [upd_ne (Ne.symm hwp)] at n1; exact n1
  have hp1 := s02.free hp1'
  have hasl : as.length = 4 := by rw [hR.1]; exact ok.four
  have hane : as ≠ [] := fun e => by rw [e] at hasl; cases hasl
  have hgw : g ≠ wl := ne_of hg hw (by intro z; cases z)
  have hgp : g ≠ p1 := ne_of_none hg hp1
  refine q _ p1 wl (fun b o e hb1 hb2 => ?_) hp1 (by rw [upd_same]; rfl) ⟨dx, as.set k.toNat pL, ?_, ?_, ?_⟩ (Or.inl rfl) (Ne.symm hwp) ?_
  · rw [upd_ne (ne_of_none e hp1), upd_ne hb2]; exact s02 _ _ e
  · rw [upd_ne hgp, upd_ne hgw]; exact s02 _ _ hg
  · rw [upd_ne hwp, upd_same, List.map_set]
  · have R1 : RowsAt H2 (as.set k.toNat pL) (st.W.set k.toNat v) := RowsAt.put (hR.same fun a _ o e => s02 _ _ e) k.toNat h2
    refine R1.same fun a ha o e => ?_
    rw [upd_ne (ne_of_none e hp1')]
    obtain ⟨r, hr⟩ := R1.there ha
    rw [upd_ne (ne_of hr (s02 _ _ hw) (refs_ints hane))]; exact e
  · rintro b o e hn ⟨as2, h1, h2⟩
    rw [upd_ne hwp, upd_same, ← List.map_set] at h1
    have e2 := refs_inj (HO.lst.inj (Option.some.inj h1))
    rw [← e2] at h2
    rcases List.mem_or_eq_of_mem_set h2 with h3 | h3
    · exact hn ⟨as, hw, h3⟩
    · rw [h3, hpL] at e; cases e
/-! answer_spread -/
theorem scASpread : FnScope ["ground", "numbers", "row", "fitting", "weight"] ["ground", "numbers", "row"] (defScope sASpread) := ⟨rfl, rfl, rfl, by decide +kernel, rfl, by decide +kernel, by decide +kernel⟩
theorem spread_math {s : GSt} {k : Int} {wt : List Int} (hk : 0 ≤ k ∧ k < 4) : Sr80.step (absO (some s)) (.spread k wt) = if Sr80.okW s.n wt = false then (absO (some s), Sr80.say (-22)) else (some (Sr80.put (absG s) k (Sr80.spreadOf (wt.map fun x => x.toNat))), Sr80.say 0) := by
  show (match (if Sr80.isK k = false then (none, Sr80.say (-2)) else if Sr80.okW s.n wt = false then (none, Sr80.say (-22)) else (some (Sr80.put (absG s) k (Sr80.spreadOf (wt.map fun x => x.toNat))), Sr80.say 0) : Option Sr80.Ground × Sr80.Ans) with
    | (some r, a) => (some r, a)
    | (none, a) => (absO (some s), a)) = _
  rw [isK_of hk]
  cases Sr80.okW s.n wt <;> rfl
theorem ok_spread {C f gL : Addr} {fd dL : FuncData} (F : Fun K "answer_spread" "answer_spread" sASpread f fd) (T : GTxt K mg C) (B : Blt mg) (TC : Consts mg) (GL : Def P w K mg base 2 "least_weights" ["weights"] spLeast gL dL) : FnOk P w K mg base CX0 3 f fd ["ground", "numbers", "row"] (spAn C 1) := by
  obtain ⟨tw, hw22⟩ := TC.wrong
  obtain ⟨t20, h20⟩ := TC.mostWeight
  refine F.ok scASpread (fun vs H Q E h => len_an h) (fun cdv A outer s H vs Q E hr h => ⟨_, pss_cons (ps_setLc (i := 3) (own := [("weight", 4)]) (g := gName 4) (tt := tTest (tChain (rI0 fun i j => .bl (decide (i ≤ j))) (rI0 fun i j => .bl (decide (i ≤ j))) (tC (.int 0)) (tVar 4) (tC (.int 20)))) (te := tVar 4) (by rfl) scASpread.nd rfl rfl (sw_true rfl rfl rfl (by decide +kernel)) (pi_list (pv 2)) (blkOk_by (own := [("weight", 4)]) (N := ["ground", "numbers", "row", "fitting", "weight"]) (sc := defScope sASpread) (by decide +kernel))
        (fun _ _ _ _ _ => pg_name (i := 4) scASpread.nd rfl (Or.inl rfl)) (fun _ _ _ _ _ => pts_one (pt_chain op_le op_le pe_int (pv 4) (pe_glob (v := .int 20) rfl h20 ⟨_, rfl⟩))) (fun _ _ _ _ _ => pv 4))
      (pss_cons (ps_if (PW.pt (pw_or (pt_cmpR op_ne (pe_callB call_len_seq (by rfl) B.len PySem.boot_len (pa_cons (pv 2) pa_nil)) (pe_fld (pv 0) rfl) (nomark _)) (pw_or (pt_cmpR op_ne (pe_callB call_len_seq (by rfl) B.len PySem.boot_len (pa_cons (pv 3) pa_nil)) (pe_fld (pv 0) rfl) (nomark _)) (pw_or1 (pt_cmpR op_eq (pe_callB (cr_sum rfl) (by rfl) B.sum (by decide +kernel) (pa_cons (pv 2) pa_nil)) pe_int (nomark _)))))) (pss_one (ps_ret (pe_lst (pa_cons (pe_glob (v := .int (-22)) rfl hw22 ⟨_, rfl⟩) pa_nil)))) pss_nil)
      (pss_cons (ps_asg (pe_call GL.ok hr rfl GL.mg GL.kp GL.b .nil pass0 (pa_cons (pv 3) pa_nil)) (pg_sub (pe_fld (pv 0) rfl) (pe_ix ix_list (pv 1) pe_int (fun _ _ => rfl)) set_list))
      (pss_one (ps_ret (pe_lst (pa_cons pe_int pa_nil)))))), ?_⟩)
  obtain ⟨g, wl, na, ra, st, c, rfl, hi, G, ok, hna, hra, hrl, i1, i2, hs, hb, q⟩ := h
  obtain ⟨st, rfl⟩ := hb (by decide)
  cases c <;> try cases hi
  rename_i k wt
  have hk := hs k (by simp [slots])
  obtain ⟨dx, as, hg, hw, hR⟩ := id G
  have ok : GOk st := ok
  have n6 := ok.n6
  have stp := spread_math (s := st) (wt := wt) hk
  refine ⟨_, rfl, ra, rfl, ⟨_, SqL.of hra⟩, fun D hD => ?_⟩
  have hrl : wt.length ≤ 70 := hrl
  refine lc_list (K := K) (a := ra) (xs := wt.map V.int) (fun i H' => Same H H' ∧ H' D = some (.lst ((fits (wt.take i)).map V.int))) ⟨same_new hD, upd_same⟩ (fun i H' _ h => SqL.of (h.1 _ _ hra)) ?_ ?_
  · rintro i x H' hi ⟨s5, hD5⟩
    obtain ⟨z, hz, rfl⟩ := int_at hi
    have e0 : fits (wt.take (i + 1)) = fits (wt.take i) ++ [z].filter (fun x => decide (0 ≤ x) && decide (x ≤ 20)) := by
      unfold fits; rw [take_more hz, List.filter_append]
    have keep : (decide (0 ≤ z) && decide (z ≤ 20)) = true → fits (wt.take (i + 1)) = fits (wt.take i) ++ [z] := fun h => by
      rw [e0]; simp only [List.filter_cons, h, if_true, List.filter_nil]
    have skip : (decide (0 ≤ z) && decide (z ≤ 20)) = false → fits (wt.take (i + 1)) = fits (wt.take i) := fun h => by
      rw [e0]; simp [h]
    refine ⟨rfl, _, rfl, _, _, rfl, rfl, _, rfl, ?_⟩
    by_cases c1 : 0 ≤ z
    · refine if_true_of (decide_eq_true c1) ?_
      refine ⟨_, _, rfl, rfl, _, rfl, ?_⟩
      by_cases c2 : z ≤ 20
      · refine if_true_of (decide_eq_true c2) ?_
        refine ⟨_, rfl, _, hD5, ?_, fun b o e => ?_, ?_⟩
        · rw [List.length_map, sz]
          have : (fits (wt.take i)).length ≤ (wt.take i).length := List.length_filter_le _ _
          have := List.length_take_le' i wt
          omega
        · rw [upd_ne (ne_of_none e hD)]; exact s5 _ _ e
        · rw [upd_same, keep (by rw [decide_eq_true c1, decide_eq_true c2]; rfl), List.map_append]; rfl
      · refine if_false_of (decide_eq_false c2) ⟨s5, ?_⟩
        rw [skip (by rw [decide_eq_false c2, Bool.and_false])]; exact hD5
    · refine if_false_of (decide_eq_false c1) ?_
      refine ⟨_, rfl, if_false_of rfl ⟨s5, ?_⟩⟩
      rw [skip (by rw [decide_eq_false c1, Bool.false_and])]; exact hD5
  · rintro H1 ⟨s1, hD1⟩
    rw [List.length_map, List.take_length] at hD1
    have bad : Sr80.okW st.n wt = false → ∀ p1, H1 p1 = none → Q (.ref p1) (upd H1 p1 (.lst [V.int (-22)])) := fun hc p1 n1 => by
      rw [if_pos hc] at stp
      have q := q (some st) (by rw [stp]) ok
      rw [stp] at q
      have hp1 := s1.free n1
      exact q.same (s1.trans (same_new n1)) hp1 (by rw [upd_same]; rfl) G (Ne.symm (ne_of_none hw hp1))
    refine ⟨_, rfl, ra, _, rfl, .inl (SqL.of (s1 _ _ hra)), _, rfl, g, C, dx, _, _, rfl, s1 _ _ hg, T.cl, T.nP, gF_points _ _, rfl, _, rfl, ?_⟩
    have vInt : ∀ {a b : Nat}, (V.int (a : Int) = V.int (b : Int)) ↔ a = b := fun {a b} => ⟨fun z => Int.ofNat_inj.mp (V.int.inj z), fun z => by rw [z]⟩
    by_cases c1 : wt.length = st.n
    rotate_left
    · refine if_true_of ?_ ?_
      · rw [decide_eq_false (fun z => c1 (by have := vInt.mp z; rw [List.length_map] at this; exact this))]; rfl
      · refine if_true_of rfl ⟨by show 1 ≤ sizeLine; decide, bad ?_⟩
        rw [← Bool.not_eq_true, okW_iff]; exact fun z => c1 z.1
    refine if_false_of (by rw [decide_eq_true (vInt.mpr (by rw [List.length_map]; exact c1))]; rfl) ?_
    refine ⟨_, rfl, D, _, rfl, .inl (SqL.of hD1), _, rfl, g, C, dx, _, _, rfl, s1 _ _ hg, T.cl, T.nP, gF_points _ _, rfl, _, rfl, ?_⟩
    by_cases c2 : (fits wt).length = wt.length
    rotate_left
    · refine if_true_of ?_ ?_
      · rw [decide_eq_false (fun z => c2 (by have := vInt.mp z; rw [List.length_map] at this; omega))]; rfl
      · refine if_true_of rfl ⟨by show 1 ≤ sizeLine; decide, bad ?_⟩
        rw [← Bool.not_eq_true, okW_iff]
        rintro ⟨_, z, _⟩
        apply c2
        unfold fits
        rw [List.filter_eq_self.mpr]
        intro x hx
        have := z x hx
        rw [decide_eq_true this.1, decide_eq_true this.2]; rfl
    refine if_false_of (by rw [decide_eq_true (vInt.mpr (by rw [List.length_map]; omega))]; rfl) ?_
    obtain ⟨hall, hfit⟩ := fits_all c2
    have hpos : ∀ x ∈ wt, 0 ≤ x := fun x hx => (hall x hx).1
    refine ⟨_, rfl, ra, _, rfl, SqL.of (s1 _ _ hra), rfl, _, rfl, ?_⟩
    by_cases c3 : wt.sum = 0
    · refine if_true_of (by show decide (V.int wt.sum = V.int 0) = true; rw [c3]; rfl) ⟨by show 1 ≤ sizeLine; decide, bad ?_⟩
      rw [← Bool.not_eq_true, okW_iff]; exact fun z => (sum_zero hpos).mp c3 z.2.2
    refine if_false_of (decide_eq_false fun z => c3 (V.int.inj z)) ?_
    have hok : Sr80.okW st.n wt = true := (okW_iff _ _).mpr ⟨c1, hall, Classical.byContradiction fun z => c3 ((sum_zero hpos).mpr z)⟩
    have hsp : 0 < wt.sum := by
      have := sum_bound wt 20 fun x hx => by have := hall x hx; omega
      have h0 : 0 ≤ wt.sum := by
        have := foldl_nat wt 0 hpos
        omega
      omega
    have hwt : Wt st.n wt := ⟨c1, hpos, hsp, by
      have := sum_bound wt 20 fun x hx => by have := hall x hx; omega
      refine Nat.lt_of_le_of_lt this (Nat.lt_of_lt_of_le (?_ : wt.length * 20 < 2 ^ 20) (Nat.pow_le_pow_right (by decide) (by decide)))
      have : wt.length * 20 ≤ 70 * 20 := Nat.mul_le_mul_right _ hrl
      omega⟩
    rw [if_neg (by rw [hok]; exact fun z => Bool.noConfusion z)] at stp
    have q := q (some ⟨st.n, st.W.set k.toNat (leastZ wt)⟩) (by
      rw [stp, spread_sp hpos, ← leastZ_sp hsp, ← set_abs]; rfl) (set_ok ok (leastZ_wt hwt) _)
    rw [stp] at q
    rw [hfit] at hD1
    refine ⟨_, rfl, D, wt, rfl, hD1, hsp, hwt.sm, by omega, fun H2 pL s2 n2 h2 => ?_⟩
    have s02 := s1.trans s2
    have hpL : H pL = none := s1.free n2
    refine ⟨_, rfl, g, C, dx, _, _, rfl, s02 _ _ hg, T.cl, T.nW, gF_weights _ _, _, rfl, na, _, _, _, rfl, rfl, SqL.of (s02 _ _ hna), atI_nat (j := 0) rfl, wl, _, _, k.toNat, rfl, rfl, s02 _ _ hw, ix_slot ok hR hk, by show 1 ≤ sizeLine; decide, fun p1 n1 => ?_⟩
    exact put_fin ok hk hg hw hR s02 hpL h2 q n1
end
end TT

set_option Elab.async false
set_option maxRecDepth 100000
set_option maxHeartbeats 2000000
namespace TT
open PySem PySem.Spec PyProof.Rows L2
open Sr58 (Frac frac)
abbrev sABehind : Stmt := top 45
abbrev sAImage : Stmt := top 46
abbrev sAMix : Stmt := top 47
abbrev sASame : Stmt := top 48
abbrev sASet : Stmt := top 49
abbrev sAGive : Stmt := top 50
theorem getD_slot {s : GSt} (ok : GOk s) {k : Int} (hk : 0 ≤ k ∧ k < 4) : Wt s.n (s.W.getD k.toNat []) := by
  have hlt : k.toNat < s.W.length := by rw [ok.four]; omega
  apply ok.wt
  rw [List.getD_eq_getElem?_getD, List.getElem?_eq_getElem hlt]
  exact List.getElem_mem hlt
/-! ### mathematics -/
theorem give_math {s : GSt} {k m : Int} (hk : 0 ≤ k ∧ k < 4) (hm : 0 ≤ m ∧ m < 4) : Sr80.step (absO (some s)) (.give k m) = (absO (some ⟨s.n, s.W.set m.toNat (s.W.getD k.toNat [])⟩), Sr80.say 0) := by
  show (match (if Sr80.isK k = false ∨ Sr80.isK m = false then (none, Sr80.say (-2)) else (some (Sr80.put (absG s) m (Sr80.at_ (absG s) k)), Sr80.say 0) : Option Sr80.Ground × Sr80.Ans) with
    | (some r, a) => (some r, a)
    | (none, a) => (some (absG s), a)) = _
  rw [isK_of hk, isK_of hm, at_abs, ← set_abs]
  rfl
theorem same_math {s : GSt} {k l : Int} (hk : 0 ≤ k ∧ k < 4) (hl : 0 ≤ l ∧ l < 4) {a b : List Int} (ea : s.W.getD k.toNat [] = a) (eb : s.W.getD l.toNat [] = b) (ha : Wt s.n a) (hb : Wt s.n b) :
    Sr80.step (absO (some s)) (.same k l) = (absO (some s), Sr80.say (if a.map (· * b.sum) = b.map (· * a.sum) then 1 else 0)) := by
  show (some (absG s), if Sr80.isK k = false ∨ Sr80.isK l = false then Sr80.say (-2) else Sr80.say (Sr80.bit (Sr80.at_ (absG s) k == Sr80.at_ (absG s) l))) = _
  rw [isK_of hk, isK_of hl, at_abs, at_abs, ea, eb]
  obtain ⟨r1, r2⟩ := raise_two ha hb
  have hT : 0 < (a.sum * b.sum).toNat := by have := mul_pos' ha.2.2.1 hb.2.2.1; omega
  rw [r1, r2]
  have e : (sp (a.sum * b.sum).toNat (a.map (· * b.sum)) == sp (a.sum * b.sum).toNat (b.map (· * a.sum))) = decide (a.map (· * b.sum) = b.map (· * a.sum)) := by
    by_cases c : a.map (· * b.sum) = b.map (· * a.sum)
    · rw [decide_eq_true c, c]; exact beq_self_eq_true _
    · rw [decide_eq_false c]
      apply Bool.eq_false_iff.mpr
      intro h
      exact c (sp_inj hT (eq_of_beq h))
  rw [e]
  by_cases c : a.map (· * b.sum) = b.map (· * a.sum)
  · rw [decide_eq_true c, if_pos c]; rfl
  · rw [decide_eq_false c, if_neg c]; rfl
theorem set_math {s : GSt} {k z : Int} (hk : 0 ≤ k ∧ k < 4) {a : List Int} (ea : s.W.getD k.toNat [] = a) (ha : Wt s.n a) :
    Sr80.step (absO (some s)) (.set_ k z) = (absO (some s), if z < 0 ∨ ((2 ^ s.n : Nat) : Int) ≤ z then Sr80.say (-22) else ⟨0, tfr (pick z.toNat a).sum a.sum⟩) := by
  show (some (absG s), if Sr80.isK k = false then Sr80.say (-2) else if z < 0 ∨ ((2 ^ s.n : Nat) : Int) ≤ z then Sr80.say (-22) else Sr80.tell (Sr80.ofSet s.n (Sr80.at_ (absG s) k) z.toNat)) = _
  rw [isK_of hk, at_abs, ea]
  unfold spOf
  rw [ofSet_pick ha.1]
  have e : Sr80.tell (frac (pick z.toNat a).sum a.sum.toNat) = ⟨0, tfr (pick z.toNat a).sum a.sum⟩ := by
    show (⟨0, Sr66.fr (frac (pick z.toNat a).sum a.sum.toNat)⟩ : Sr66.Ans) = _
    rw [fr_tfr ha.2.2.1]
  rw [e]
  rfl
theorem behind_math {s : GSt} {k l m : Int} (hk : 0 ≤ k ∧ k < 4) (hl : 0 ≤ l ∧ l < 4) (hm : 0 ≤ m ∧ m < 4) {a b c : List Int} (ea : s.W.getD k.toNat [] = a) (eb : s.W.getD l.toNat [] = b) (ec : s.W.getD m.toNat [] = c) (ha : Wt s.n a) (hb : Wt s.n b) (hc : Wt s.n c) :
    Sr80.step (absO (some s)) (.behind k l m) = (absO (some s), ⟨((s.n * s.n : Nat) : Int), ((behM s.n a b c).flatten ++ [differZ (behM s.n a b c)]).flatMap fun x => tfr x (behT a b c)⟩) := by
  show (some (absG s), if Sr80.isK k = false ∨ Sr80.isK l = false ∨ Sr80.isK m = false then Sr80.say (-2) else Sr80.tellPlan s.n (Sr80.behind s.n (Sr80.at_ (absG s) l) (Sr80.best s.n (Sr80.at_ (absG s) k) (Sr80.at_ (absG s) l)) (Sr80.best s.n (Sr80.at_ (absG s) l) (Sr80.at_ (absG s) m)))) = _
  rw [isK_of hk, isK_of hl, isK_of hm, at_abs, at_abs, at_abs, ea, eb, ec]
  have hab := mul_pos' ha.2.2.1 hb.2.2.1
  have hbc := mul_pos' hb.2.2.1 hc.2.2.1
  have e1 : Sr80.best s.n (spOf a) (spOf b) = (bestZ (a.map (· * b.sum)) (b.map (· * a.sum))).map (sp (a.sum * b.sum).toNat) := by
    obtain ⟨r1, r2⟩ := raise_two ha hb
    rw [r1, r2]
    exact best_sp (by omega) (by rw [List.length_map, ha.1]) (by rw [List.length_map, hb.1]) (sums_alike a b)
  have e2 : Sr80.best s.n (spOf b) (spOf c) = (bestZ (b.map (· * c.sum)) (c.map (· * b.sum))).map (sp (b.sum * c.sum).toNat) := by
    obtain ⟨r1, r2⟩ := raise_two hb hc
    rw [r1, r2]
    exact best_sp (by omega) (by rw [List.length_map, hb.1]) (by rw [List.length_map, hc.1]) (sums_alike b c)
  have sq1 := bestZ_sq (n := s.n) (A := a.map (· * b.sum)) (B := b.map (· * a.sum)) (by rw [List.length_map, ha.1]) (by rw [List.length_map, hb.1])
  rw [e1, e2, behZ_sp ha hb hc sq1]
  have e3 := plan_ans (behZ_sq (Q := bestZ (b.map (· * c.sum)) (c.map (· * b.sum))) (fac := facZ (mulOf b) b) sq1.1) (behT_pos ha hb hc)
  unfold behT at e3
  rw [e3]
  rfl
theorem imageZ_wt {n : Nat} {a : List Int} {f : List Nat} (ha : Wt n a) (hf : ∀ i, i < n → f.getD i 0 < n) : Wt n (imageZ n a f) := by
  have hs := imageZ_sum ha.1 hf
  refine ⟨imageZ_len n a f, ?_, by rw [hs]; exact ha.2.2.1, by rw [hs]; exact ha.2.2.2⟩
  intro x hx
  obtain ⟨j, _, rfl⟩ := List.mem_map.mp hx
  have h := rs_le (n := n) (f := fun _ => 0) (g := fun i => if f.getD i 0 = j then a.getD i 0 else 0) fun i _ => by
    by_cases c : f.getD i 0 = j
    · rw [if_pos c]; exact getD_of (p := fun y : Int => 0 ≤ y) (d := 0) (by decide) ha.2.1 i
    · rw [if_neg c]; exact Int.le_refl _
  rw [rs_zero] at h
  exact h
abbrev badT (n : Nat) (f : List Int) : Prop := f.length ≠ n ∨ (f.any fun x => decide (x < 0) || decide ((n : Int) ≤ x)) = true
theorem image_math {s : GSt} {k m : Int} {f : List Int} (hk : 0 ≤ k ∧ k < 4) (hm : 0 ≤ m ∧ m < 4) {a : List Int} (ea : s.W.getD k.toNat [] = a) (ha : Wt s.n a) :
    (badT s.n f → Sr80.step (absO (some s)) (.image k m f) = (absO (some s), Sr80.say (-22))) ∧
    ((f.length = s.n ∧ ∀ x ∈ f, 0 ≤ x ∧ x < (s.n : Int)) → Sr80.step (absO (some s)) (.image k m f) = (absO (some ⟨s.n, s.W.set m.toNat (leastZ (imageZ s.n a (f.map fun x => x.toNat)))⟩), Sr80.say 0)) := by
  have e0 : Sr80.step (absO (some s)) (.image k m f) = (match (if Sr80.isK k = false ∨ Sr80.isK m = false then (none, Sr80.say (-2)) else if f.length ≠ s.n ∨ f.any (fun x => decide (x < 0) || decide ((s.n : Int) ≤ x)) then (none, Sr80.say (-22)) else (some (Sr80.put (absG s) m (Sr80.image s.n (Sr80.at_ (absG s) k) (f.map fun x => x.toNat))), Sr80.say 0) : Option Sr80.Ground × Sr80.Ans) with
    | (some r, a) => (some r, a)
    | (none, a) => (some (absG s), a)) := rfl
  rw [isK_of hk, isK_of hm, if_neg (by simp), at_abs, ea] at e0
  constructor
  · intro hb
    rw [e0, if_pos hb]
    rfl
  · rintro ⟨hl, hf⟩
    have htg := tgt_lt hf hl
    have hn : ¬ badT s.n f := by
      rintro (h | h)
      · exact h hl
      · obtain ⟨x, hx, h2⟩ := List.any_eq_true.mp h
        have := hf x hx
        simp at h2
        omega
    have hw := imageZ_wt ha htg
    rw [e0, if_neg hn]
    have e1 : Sr80.image s.n (spOf a) (f.map fun x => x.toNat) = spOf (leastZ (imageZ s.n a (f.map fun x => x.toNat))) := by
      rw [leastZ_sp hw.2.2.1]
      unfold spOf
      rw [image_sp, imageZ_sum ha.1 htg]
    rw [e1, ← set_abs]
    rfl
theorem all_low {L : List Int} (h : 0 < L.sum) : ((spOf L).all fun x => decide (x.d < 10 ^ 30)) = true ↔ ∀ x ∈ L, low L.sum x < 10 ^ 30 := by
  unfold spOf sp
  rw [List.all_eq_true]
  constructor
  · intro hh x hx
    have h1 := hh _ (List.mem_map.mpr ⟨x, hx, rfl⟩)
    rw [decide_eq_true_eq] at h1
    have h2 := frac_d h x
    omega
  · intro hh y hy
    obtain ⟨x, hx, rfl⟩ := List.mem_map.mp hy
    rw [decide_eq_true_eq]
    have h1 := hh x hx
    have h2 := frac_d h x
    omega
theorem mix_math {s : GSt} {k l m x y : Int} (hk : 0 ≤ k ∧ k < 4) (hl : 0 ≤ l ∧ l < 4) (hm : 0 ≤ m ∧ m < 4) {a b : List Int} (ea : s.W.getD k.toNat [] = a) (eb : s.W.getD l.toNat [] = b) (ha : Wt s.n a) (hb : Wt s.n b) :
    ((y < 1 ∨ 20 < y ∨ x < 0 ∨ y < x) → Sr80.step (absO (some s)) (.mix k l m x y) = (absO (some s), Sr80.say (-22))) ∧
    (¬ (y < 1 ∨ 20 < y ∨ x < 0 ∨ y < x) → 0 < (mixed2 x y a b).sum ∧ (¬ (∀ z ∈ leastZ (mixed2 x y a b), low (leastZ (mixed2 x y a b)).sum z < 10 ^ 30) → Sr80.step (absO (some s)) (.mix k l m x y) = (absO (some s), Sr80.say (-75))) ∧
      ((∀ z ∈ leastZ (mixed2 x y a b), low (leastZ (mixed2 x y a b)).sum z < 10 ^ 30) → Sr80.step (absO (some s)) (.mix k l m x y) = (absO (some ⟨s.n, s.W.set m.toNat (leastZ (mixed2 x y a b))⟩), Sr80.say 0))) := by
  have e0 : Sr80.step (absO (some s)) (.mix k l m x y) = (match (if Sr80.isK k = false ∨ Sr80.isK l = false ∨ Sr80.isK m = false then (none, Sr80.say (-2)) else if y < 1 ∨ 20 < y ∨ x < 0 ∨ y < x then (none, Sr80.say (-22)) else if (Sr80.mixed s.n (Sr80.at_ (absG s) k) (Sr80.at_ (absG s) l) (frac x y.toNat)).all (fun x => decide (x.d < 10 ^ 30)) then (some (Sr80.put (absG s) m (Sr80.mixed s.n (Sr80.at_ (absG s) k) (Sr80.at_ (absG s) l) (frac x y.toNat))), Sr80.say 0) else (none, Sr80.say (-75)) : Option Sr80.Ground × Sr80.Ans) with
    | (some r, a) => (some r, a)
    | (none, a) => (some (absG s), a)) := rfl
  rw [isK_of hk, isK_of hl, isK_of hm, if_neg (by simp), at_abs, at_abs, ea, eb] at e0
  constructor
  · intro hbad
    rw [e0, if_pos hbad]
    rfl
  · intro hbad
    have hs : 0 < (mixed2 x y a b).sum := by
      rw [mixed2_sum ha.1 hb.1]
      exact Int.mul_pos (by omega) (Int.mul_pos ha.2.2.1 hb.2.2.1)
    have hls := leastZ_sum_pos hs
    rw [if_neg hbad, mixed2_sp ha hb (by omega), ← leastZ_sp hs] at e0
    refine ⟨hs, fun hn => ?_, fun hy => ?_⟩
    · rw [e0, if_neg (fun z => hn ((all_low hls).mp z))]
      rfl
    · rw [e0, if_pos ((all_low hls).mpr hy), ← set_abs]
      rfl
section
variable {P : Program} {w : World} {K : PySem.W.Frag} {mg : Str → Option Value} {base : Heap}
/-! answer_give -/
theorem scAGive : FnScope ["ground", "numbers", "row"] ["ground", "numbers", "row"] (defScope sAGive) := ⟨rfl, rfl, rfl, by decide +kernel, rfl, by decide +kernel, by decide +kernel⟩
theorem ok_give {C f : Addr} {fd : FuncData} (F : Fun K "answer_give" "answer_give" sAGive f fd) (T : GTxt K mg C) (B : Blt mg) : FnOk P w K mg base CX0 1 f fd ["ground", "numbers", "row"] (spAn C 11) := by
  refine F.ok scAGive (fun vs H Q E h => len_an h) (fun cdv A outer s H vs Q E hr h => ⟨_,
      pss_cons (ps_asg (pe_callTy call_list_of (by rfl) B.list (by decide +kernel) (pa_cons (pe_ix ix_list (pe_fld (pv 0) rfl) (pe_ix ix_list (pv 1) pe_int (fun _ _ => rfl)) (fun _ _ => rfl)) pa_nil)) (pg_sub (pe_fld (pv 0) rfl) (pe_ix ix_list (pv 1) pe_int (fun _ _ => rfl)) set_list))
      (pss_one (ps_ret (pe_lst (pa_cons pe_int pa_nil)))), ?_⟩)
  obtain ⟨g, wl, na, ra, st, c, rfl, hi, G, ok, hna, hra, hrl, i1, i2, hs, hb, q⟩ := h
  obtain ⟨st, rfl⟩ := hb (by decide)
  cases c <;> try cases hi
  rename_i k m
  have hk := hs k (by simp [slots])
  have hm := hs m (by simp [slots])
  obtain ⟨dx, as, hg, hw, hR⟩ := id G
  have ok : GOk st := ok
  obtain ⟨a, ea, ha, ma⟩ := row_ix hR hk.1 hk.2 ok.four
  have wa := ok.wt _ ma
  have mth := give_math (s := st) hk hm
  have q := q (some ⟨st.n, st.W.set m.toNat (st.W.getD k.toNat [])⟩) (by rw [mth]) (set_ok ok wa _)
  rw [mth] at q
  refine ⟨_, rfl, g, C, dx, _, _, rfl, hg, T.cl, T.nW, gF_weights _ _, _, rfl, na, _, _, _, rfl, rfl, SqL.of hna, atI_nat (j := 0) rfl, wl, _, _, _, rfl, rfl, SqL.of hw, ea, a, _, rfl, .inl (SqL.of ha), fun pL nL => ?_⟩
  have s02 := same_new (o := .lst ((st.W.getD k.toNat []).map V.int)) nL
  refine ⟨_, rfl, g, C, dx, _, _, rfl, s02 _ _ hg, T.cl, T.nW, gF_weights _ _, _, rfl, na, _, _, _, rfl, rfl, SqL.of (s02 _ _ hna), atI_nat (j := 1) rfl, wl, _, _, m.toNat, rfl, rfl, s02 _ _ hw, ix_slot ok hR hm, by show 1 ≤ sizeLine; decide, fun p1 n1 => ?_⟩
  exact put_fin ok hm hg hw hR s02 nL upd_same q n1
/-! answer_same -/
theorem scASame : FnScope ["ground", "numbers", "row", "pair"] ["ground", "numbers", "row"] (defScope sASame) := ⟨rfl, rfl, rfl, by decide +kernel, rfl, by decide +kernel, by decide +kernel⟩
theorem ok_same {C CP f g1 : Addr} {fd gd1 : FuncData} (F : Fun K "answer_same" "answer_same" sASame f fd) (T : GTxt K mg C) (TP : PairTxt K mg CP)
    (G1 : Def P w K mg base 4 "pair_of_slots" ["ground", "numbers"] (spPOS C CP) g1 gd1) : FnOk P w K mg base CX0 5 f fd ["ground", "numbers", "row"] (spAn C 9) := by
  refine F.ok scASame (fun vs H Q E h => len_an h) (fun cdv A outer s H vs Q E hr h => ⟨_, pss_cons (ps_set (i := 3) scASame.nd rfl (Or.inl rfl) (pe_call G1.ok hr rfl G1.mg G1.kp G1.b .nil pass0 (pa_cons (pv 0) (pa_cons (pv 1) pa_nil))))
      (pss_one (ps_ret (pe_lst (pa_cons (pe_ifExp (pt_cmpR (op_eqD hr.units) (pe_fld (pv 3) rfl) (pe_fld (pv 3) rfl) (nomark _)) pe_int pe_int) pa_nil)))), ?_⟩)
  obtain ⟨g, wl, na, ra, st, c, rfl, hi, G, ok, hna, hra, hrl, i1, i2, hs, hb, q⟩ := h
  obtain ⟨st, rfl⟩ := hb (by decide)
  cases c <;> try cases hi
  rename_i k l
  have hk := hs k (by simp [slots])
  have hl := hs l (by simp [slots])
  have ok : GOk st := ok
  obtain ⟨dx, as, hg, hw, hR⟩ := id G
  have mth := same_math hk hl rfl rfl (getD_slot ok hk) (getD_slot ok hl)
  have q := q (some st) (by rw [mth]) ok
  rw [mth] at q
  refine ⟨_, rfl, _, rfl, g, wl, na, st, k, l, [], rfl, G, ok, hna, hk, hl, fun H1 p1 s1 n1 PA => ?_⟩
  obtain ⟨d1, pa, pb, hp1, hpa, hpb⟩ := PA
  refine ⟨_, rfl, p1, CP, d1, _, _, rfl, hp1, TP.cl, TP.nF, pF_first _ _ _, _, rfl, p1, CP, d1, _, _, rfl, hp1, TP.cl, TP.nS, pF_second _ _ _, _, _, .lst (SqL.of hpa) (dp_ints _), .lst (SqL.of hpb) (dp_ints _), shaped_ints _, shaped_ints _, _, rfl, ?_⟩
  rw [eqv_ints]
  generalize (st.W.getD k.toNat []).map (· * (st.W.getD l.toNat []).sum) = A1 at *
  generalize (st.W.getD l.toNat []).map (· * (st.W.getD k.toNat []).sum) = B1 at *
  by_cases c : A1 = B1
  · rw [if_pos c] at q
    refine if_true_of (decide_eq_true c) ⟨by show 1 ≤ sizeLine; decide, fun p2 n2 => ?_⟩
    have hp2 := s1.free n2
    exact q.same (s1.trans (same_new n2)) hp2 (by rw [upd_same]; rfl) G (Ne.symm (ne_of_none hw hp2))
  · rw [if_neg c] at q
    refine if_false_of (decide_eq_false c) ⟨by show 1 ≤ sizeLine; decide, fun p2 n2 => ?_⟩
    have hp2 := s1.free n2
    exact q.same (s1.trans (same_new n2)) hp2 (by rw [upd_same]; rfl) G (Ne.symm (ne_of_none hw hp2))
/-! answer_set -/
theorem scASet : FnScope ["ground", "numbers", "row", "number", "weights"] ["ground", "numbers", "row"] (defScope sASet) := ⟨rfl, rfl, rfl, by decide +kernel, rfl, by decide +kernel, by decide +kernel⟩
theorem ok_set {C f g1 g2 : Addr} {fd gd1 gd2 : FuncData} (F : Fun K "answer_set" "answer_set" sASet f fd) (T : GTxt K mg C) (B : Blt mg) (TC : Consts mg)
    (G1 : Def P w K mg base 2 "told_fraction" ["upper", "lower"] spTF g1 gd1) (G2 : Def P w K mg base 1 "weight_in_set" ["weights", "number"] spWSet g2 gd2) : FnOk P w K mg base CX0 3 f fd ["ground", "numbers", "row"] (spAn C 10) := by
  obtain ⟨tw, hw22⟩ := TC.wrong
  refine F.ok scASet (fun vs H Q E h => len_an h) (fun cdv A outer s H vs Q E hr h => ⟨_, pss_cons (ps_set (i := 3) scASet.nd rfl (Or.inl rfl) (pe_ix ix_list (pv 1) pe_int (fun _ _ => rfl)))
      (pss_cons (ps_if (PW.pt (pw_or (pt_cmpR op_lt (pv 3) pe_int (nomark _)) (pw_or1 (pt_cmpR op_ge (pv 3) (pe_op op_shl pe_int (pe_fld (pv 0) rfl)) (nomark _))))) (pss_one (ps_ret (pe_lst (pa_cons (pe_glob (v := .int (-22)) rfl hw22 ⟨_, rfl⟩) pa_nil)))) pss_nil)
      (pss_cons (ps_set (i := 4) scASet.nd rfl (Or.inl rfl) (pe_ix ix_list (pe_fld (pv 0) rfl) (pe_ix ix_list (pv 1) pe_int (fun _ _ => rfl)) (fun _ _ => rfl)))
      (pss_one (ps_ret (pe_op op_cat (pe_lst (pa_cons pe_int pa_nil)) (pe_call G1.ok hr rfl G1.mg G1.kp G1.b .nil pass0 (pa_cons (pe_call G2.ok (hr.mono (by decide)) rfl G2.mg G2.kp G2.b .nil pass0 (pa_cons (pv 4) (pa_cons (pv 3) pa_nil))) (pa_cons (pe_callB (cr_sum rfl) (by rfl) B.sum (by decide +kernel) (pa_cons (pv 4) pa_nil)) pa_nil)))))))), ?_⟩)
  obtain ⟨g, wl, na, ra, st, c, rfl, hi, G, ok, hna, hra, hrl, i1, i2, hs, hb, q⟩ := h
  obtain ⟨st, rfl⟩ := hb (by decide)
  cases c <;> try cases hi
  rename_i k z
  have hk := hs k (by simp [slots])
  obtain ⟨dx, as, hg, hw, hR⟩ := id G
  have ok : GOk st := ok
  obtain ⟨a, ea, ha, ma⟩ := row_ix hR hk.1 hk.2 ok.four
  have wa := ok.wt _ ma
  have n6 := ok.n6
  have mth := set_math (z := z) hk rfl wa
  have q := q (some st) (by rw [mth]) ok
  rw [mth] at q
  have bad : (z < 0 ∨ ((2 ^ st.n : Nat) : Int) ≤ z) → ∀ p1, H p1 = none → Q (.ref p1) (upd H p1 (.lst [V.int (-22)])) := fun hc p1 n1 => by
    rw [if_pos hc] at q
    exact q.same (same_new n1) n1 (by rw [upd_same]; rfl) G (Ne.symm (ne_of_none hw n1))
  refine ⟨_, rfl, na, _, _, _, rfl, rfl, SqL.of hna, atI_nat (j := 1) rfl, ?_⟩
  refine ⟨_, rfl, _, _, rfl, rfl, _, rfl, ?_⟩
  by_cases c1 : z < 0
  · refine if_true_of (decide_eq_true c1) (if_true_of rfl ⟨by show 1 ≤ sizeLine; decide, bad (Or.inl c1)⟩)
  refine if_false_of (decide_eq_false c1) ?_
  have e2 : (1 : Int) * 2 ^ ((st.n : Nat) : Int).toNat = ((2 ^ st.n : Nat) : Int) := by
    rw [Int.one_mul, Int.toNat_natCast, Int.natCast_pow]; rfl
  refine ⟨_, rfl, _, rfl, g, C, dx, _, _, rfl, hg, T.cl, T.nP, gF_points _ _, _, _, rfl, rfl, ⟨by omega, by omega, by decide⟩, _, _, rfl, rfl, _, rfl, ?_⟩
  rw [e2]
  by_cases c2 : ((2 ^ st.n : Nat) : Int) ≤ z
  · refine if_true_of (decide_eq_true c2) ⟨by show 1 ≤ sizeLine; decide, bad (Or.inr c2)⟩
  refine if_false_of (decide_eq_false c2) ?_
  rw [if_neg (fun h => h.elim c1 c2)] at q
  have hz : V.int z = V.int ((z.toNat : Nat) : Int) := by rw [show ((z.toNat : Nat) : Int) = z by omega]
  refine ⟨_, rfl, g, C, dx, _, _, rfl, hg, T.cl, T.nW, gF_weights _ _, _, rfl, na, _, _, _, rfl, rfl, SqL.of hna, atI_nat (j := 0) rfl, wl, _, _, _, rfl, rfl, SqL.of hw, ea, ?_⟩
  refine ⟨by show 1 ≤ sizeLine; decide, fun p1 n1 => ?_⟩
  have s1 := same_new (o := .lst [V.int 0]) n1
  refine ⟨_, rfl, _, rfl, a, st.W.getD k.toNat [], z.toNat, congrArg (fun v => [V.ref a, v]) hz, s1 _ _ ha, by rw [wa.1]; omega, fun H2 s2 => ?_⟩
  refine ⟨_, rfl, a, _, rfl, SqL.of (s2 _ _ (s1 _ _ ha)), _, _, rfl, wa.2.2.1, wa.sm, fun H3 p3 s3 n3 h3 => ?_⟩
  have s03 := (s1.trans s2).trans s3
  refine ⟨p1, p3, _, _, rfl, rfl, s3 _ _ (s2 _ _ upd_same), h3, ?_, fun p4 n4 => ?_⟩
  · show 1 + 2 ≤ sizeLine; decide
  · have hp4 := s03.free n4
    exact q.same (s03.trans (same_new n4)) hp4 (by rw [upd_same]; rfl) G (Ne.symm (ne_of_none hw hp4))
/-! answer_behind -/
theorem scABehind : FnScope ["ground", "numbers", "row", "behind"] ["ground", "numbers", "row"] (defScope sABehind) := ⟨rfl, rfl, rfl, by decide +kernel, rfl, by decide +kernel, by decide +kernel⟩
theorem ok_behind {C CB f fI g3 : Addr} {fd fdI gd3 : FuncData} (F : Fun K "answer_behind" "answer_behind" sABehind f fd) (T : GTxt K mg C) (TB : BehTxt K mg CB) (M : Mk K CB fI) (GI : FnOk P w K mg base CX0 4 fI fdI ["self", "first", "between", "third"] (spBehI CB)) (bI : Binds K fdI ["self", "first", "between", "third"] [])
    (G3 : Def P w K mg base 4 "told_plan" ["rows", "lower"] spTPlan g3 gd3) : FnOk P w K mg base CX0 6 f fd ["ground", "numbers", "row"] (spAn C 6) := by
  refine F.ok scABehind (fun vs H Q E h => len_an h) (fun cdv A outer s H vs Q E hr h => ⟨_, pss_cons (ps_set (i := 3) scABehind.nd rfl (Or.inl rfl) (pe_make M GI hr rfl TB.gC bI .nil pass0
      (pa_cons (pe_ix ix_list (pe_fld (pv 0) rfl) (pe_ix ix_list (pv 1) pe_int (fun _ _ => rfl)) (fun _ _ => rfl))
      (pa_cons (pe_ix ix_list (pe_fld (pv 0) rfl) (pe_ix ix_list (pv 1) pe_int (fun _ _ => rfl)) (fun _ _ => rfl))
      (pa_cons (pe_ix ix_list (pe_fld (pv 0) rfl) (pe_ix ix_list (pv 1) pe_int (fun _ _ => rfl)) (fun _ _ => rfl)) pa_nil)))))
      (pss_one (ps_ret (pe_call G3.ok (hr.mono (by decide)) rfl G3.mg G3.kp G3.b .nil pass0 (pa_cons (pe_fld (pv 3) rfl) (pa_cons (pe_fld (pv 3) rfl) pa_nil))))), ?_⟩)
  obtain ⟨g, wl, na, ra, st, c, rfl, hi, G, ok, hna, hra, hrl, i1, i2, hs, hb, q⟩ := h
  obtain ⟨st, rfl⟩ := hb (by decide)
  cases c <;> try cases hi
  rename_i k l m
  have hk := hs k (by simp [slots])
  have hl := hs l (by simp [slots])
  have hm := hs m (by simp [slots])
  obtain ⟨dx, as, hg, hw, hR⟩ := id G
  have ok : GOk st := ok
  obtain ⟨a, ea, ha, ma⟩ := row_ix hR hk.1 hk.2 ok.four
  obtain ⟨b, eb, hb', mb⟩ := row_ix hR hl.1 hl.2 ok.four
  obtain ⟨c, ec, hc, mc⟩ := row_ix hR hm.1 hm.2 ok.four
  have wa := ok.wt _ ma
  have wb := ok.wt _ mb
  have wc := ok.wt _ mc
  have n6 := ok.n6
  have mth := behind_math hk hl hm rfl rfl rfl wa wb wc
  have q := q (some st) (by rw [mth]) ok
  rw [mth] at q
  refine ⟨_, rfl, g, C, dx, _, _, rfl, hg, T.cl, T.nW, gF_weights _ _, _, rfl, na, _, _, _, rfl, rfl, SqL.of hna, atI_nat (j := 0) rfl, wl, _, _, _, rfl, rfl, SqL.of hw, ea, ?_⟩
  refine ⟨_, rfl, g, C, dx, _, _, rfl, hg, T.cl, T.nW, gF_weights _ _, _, rfl, na, _, _, _, rfl, rfl, SqL.of hna, atI_nat (j := 1) rfl, wl, _, _, _, rfl, rfl, SqL.of hw, eb, ?_⟩
  refine ⟨_, rfl, g, C, dx, _, _, rfl, hg, T.cl, T.nW, gF_weights _ _, _, rfl, na, _, _, _, rfl, rfl, SqL.of hna, atI_nat (j := 2) rfl, wl, _, _, _, rfl, rfl, SqL.of hw, ec, ?_⟩
  intro x dx2 nx nd ne
  have hs0 : Same H (upd (upd H dx2 (.own x)) x (.ins CB dx2 [])) := fun c o e => by
    rw [upd_ne (ne_of_none e nx), upd_ne (ne_of_none e nd)]; exact e
  refine ⟨x, dx2, a, b, c, st.n, _, _, _, rfl, upd_same, hs0 _ _ ha, hs0 _ _ hb', hs0 _ _ hc, wa, wb, wc, n6, fun H1 r hx MA kp => ⟨rfl, ?_⟩⟩
  have s1 := Same.made nx nd kp
  have sq1 := bestZ_sq (n := st.n) (A := (st.W.getD k.toNat []).map (· * (st.W.getD l.toNat []).sum)) (B := (st.W.getD l.toNat []).map (· * (st.W.getD k.toNat []).sum)) (by rw [List.length_map, wa.1]) (by rw [List.length_map, wb.1])
  refine ⟨_, rfl, x, CB, dx2, _, _, rfl, hx, TB.cl, TB.nR, bF_rows _ _, _, rfl, x, CB, dx2, _, _, rfl, hx, TB.cl, TB.nT, bF_total _ _, r, st.n, _, _, rfl, MA, behZ_sq sq1.1, n6, behT_pos wa wb wc, behT_sm wa wb wc n6, fun H3 p3 s3 n3 h3 => ?_⟩
  have hp3 : H p3 = none := s1.free n3
  exact q.same (s1.trans s3) hp3 h3 G (Ne.symm (ne_of_none hw hp3))
end
end TT

set_option Elab.async false
set_option maxRecDepth 100000
set_option maxHeartbeats 2000000
namespace TT
open PySem PySem.Spec PyProof.Rows L2
open Sr58 (Frac frac)
def fitsN (n : Nat) (w : List Int) : List Int := w.filter fun x => decide (0 ≤ x) && decide (x < (n : Int))
theorem fitsN_all {n : Nat} {w : List Int} (h : (fitsN n w).length = w.length) : (∀ x ∈ w, 0 ≤ x ∧ x < (n : Int)) ∧ fitsN n w = w := by
  have h2 := List.length_filter_eq_length_iff.mp h
  have h3 : ∀ x ∈ w, 0 ≤ x ∧ x < (n : Int) := fun x hx => by
    have := h2 x hx
    rw [Bool.and_eq_true, decide_eq_true_eq, decide_eq_true_eq] at this
    exact this
  exact ⟨h3, List.filter_eq_self.mpr h2⟩
theorem fitsN_bad {n : Nat} {w : List Int} (h : (fitsN n w).length ≠ w.length) : badT n w := by
  refine Or.inr (List.any_eq_true.mpr (Classical.byContradiction fun hn => h ?_))
  unfold fitsN
  rw [List.filter_eq_self.mpr]
  intro x hx
  have hx2 : ¬ ((decide (x < 0) || decide ((n : Int) ≤ x)) = true) := fun z => hn ⟨x, hx, z⟩
  simp at hx2
  rw [decide_eq_true hx2.1, decide_eq_true hx2.2]; rfl
section
variable {P : Program} {w : World} {K : PySem.W.Frag} {mg : Str → Option Value} {base : Heap}
/-! answer_image -/
abbrev nmAI : List Str := ["ground", "numbers", "row", "fitting", "point"]
theorem scAImage : FnScope nmAI ["ground", "numbers", "row"] (defScope sAImage) := ⟨rfl, rfl, rfl, by decide +kernel, rfl, by decide +kernel, by decide +kernel⟩
theorem ok_aimage {C f gI : Addr} {fd dI : FuncData} (F : Fun K "answer_image" "answer_image" sAImage f fd) (T : GTxt K mg C) (B : Blt mg) (TC : Consts mg) (GI : Def P w K mg base 3 "image" ["weights", "targets"] spImage gI dI) : FnOk P w K mg base CX0 4 f fd ["ground", "numbers", "row"] (spAn C 7) := by
  obtain ⟨tw, hw22⟩ := TC.wrong
  refine F.ok scAImage (fun vs H Q E h => len_an h) (fun cdv A outer s H vs Q E hr h => ⟨_, pss_cons (ps_setLc (i := 3) (own := [("point", 4)]) (g := gName 4) (tt := tTest (tChain (rI0 fun i j => .bl (decide (i ≤ j))) (rI0 fun i j => .bl (decide (i < j))) (tC (.int 0)) (tVar 4) (tFld K (tVar 0) "points"))) (te := tVar 4) (by rfl) scAImage.nd rfl rfl (sw_true rfl rfl rfl (by decide +kernel)) (pi_list (pv 2)) (blkOk_by (own := [("point", 4)]) (N := nmAI) (sc := defScope sAImage) (by decide +kernel))
        (fun _ _ _ _ _ => pg_name (i := 4) scAImage.nd rfl (Or.inl rfl)) (fun _ _ _ _ _ => pts_one (pt_chain op_le op_lt pe_int (pv 4) (pe_fld (pv 0) rfl))) (fun _ _ _ _ _ => pv 4))
      (pss_cons (ps_if (PW.pt (pw_or (pt_cmpR op_ne (pe_callB call_len_seq (by rfl) B.len PySem.boot_len (pa_cons (pv 2) pa_nil)) (pe_fld (pv 0) rfl) (nomark _)) (pw_or1 (pt_cmpR op_ne (pe_callB call_len_seq (by rfl) B.len PySem.boot_len (pa_cons (pv 3) pa_nil)) (pe_fld (pv 0) rfl) (nomark _))))) (pss_one (ps_ret (pe_lst (pa_cons (pe_glob (v := .int (-22)) rfl hw22 ⟨_, rfl⟩) pa_nil)))) pss_nil)
      (pss_cons (ps_asg (pe_call GI.ok hr rfl GI.mg GI.kp GI.b .nil pass0 (pa_cons (pe_ix ix_list (pe_fld (pv 0) rfl) (pe_ix ix_list (pv 1) pe_int (fun _ _ => rfl)) (fun _ _ => rfl)) (pa_cons (pv 3) pa_nil))) (pg_sub (pe_fld (pv 0) rfl) (pe_ix ix_list (pv 1) pe_int (fun _ _ => rfl)) set_list))
      (pss_one (ps_ret (pe_lst (pa_cons pe_int pa_nil)))))), ?_⟩)
  obtain ⟨g, wl, na, ra, st, c, rfl, hi, G, ok, hna, hra, hrl, i1, i2, hs, hb, q⟩ := h
  obtain ⟨st, rfl⟩ := hb (by decide)
  cases c <;> try cases hi
  rename_i k m wt
  have hk := hs k (by simp [slots])
  have hm := hs m (by simp [slots])
  obtain ⟨dx, as, hg, hw, hR⟩ := id G
  have ok : GOk st := ok
  have n6 := ok.n6
  obtain ⟨a, ea, ha, ma⟩ := row_ix hR hk.1 hk.2 ok.four
  have wa := ok.wt _ ma
  obtain ⟨mbad, mgood⟩ := image_math (s := st) (f := wt) hk hm rfl wa
  refine ⟨_, rfl, ra, rfl, ⟨_, SqL.of hra⟩, fun D hD => ?_⟩
  have hrl : wt.length ≤ 70 := hrl
  refine lc_list (K := K) (a := ra) (xs := wt.map V.int) (fun i H' => Same H H' ∧ H' D = some (.lst ((fitsN st.n (wt.take i)).map V.int))) ⟨same_new hD, upd_same⟩ (fun i H' _ h => SqL.of (h.1 _ _ hra)) ?_ ?_
  · rintro i x H' hi ⟨s5, hD5⟩
    obtain ⟨z, hz, rfl⟩ := int_at hi
    have e0 : fitsN st.n (wt.take (i + 1)) = fitsN st.n (wt.take i) ++ [z].filter (fun x => decide (0 ≤ x) && decide (x < (st.n : Int))) := by
      unfold fitsN; rw [take_more hz, List.filter_append]
    have keep : (decide (0 ≤ z) && decide (z < (st.n : Int))) = true → fitsN st.n (wt.take (i + 1)) = fitsN st.n (wt.take i) ++ [z] := fun h => by
      rw [e0]; simp only [List.filter_cons, h, if_true, List.filter_nil]
    have skip : (decide (0 ≤ z) && decide (z < (st.n : Int))) = false → fitsN st.n (wt.take (i + 1)) = fitsN st.n (wt.take i) := fun h => by
      rw [e0]; simp only [List.filter_cons, h, List.filter_nil, Bool.false_eq_true, if_false, List.append_nil]
    refine ⟨rfl, _, rfl, _, _, rfl, rfl, _, rfl, ?_⟩
    by_cases c1 : 0 ≤ z
    · refine if_true_of (decide_eq_true c1) ?_
      refine ⟨_, rfl, g, C, dx, _, _, rfl, s5 _ _ hg, T.cl, T.nP, gF_points _ _, _, _, rfl, rfl, _, rfl, ?_⟩
      by_cases c2 : z < (st.n : Int)
      · refine if_true_of (decide_eq_true c2) ?_
        refine ⟨_, rfl, _, hD5, ?_, fun b o e => ?_, ?_⟩
        · rw [List.length_map, sz]
          have : (fitsN st.n (wt.take i)).length ≤ (wt.take i).length := List.length_filter_le _ _
          have := List.length_take_le' i wt
          omega
        · rw [upd_ne (ne_of_none e hD)]; exact s5 _ _ e
        · rw [upd_same, keep (by rw [decide_eq_true c1, decide_eq_true c2]; rfl), List.map_append]; rfl
      · refine if_false_of (decide_eq_false c2) ⟨s5, ?_⟩
        rw [skip (by rw [decide_eq_false c2, Bool.and_false])]; exact hD5
    · refine if_false_of (decide_eq_false c1) ?_
      refine ⟨_, rfl, if_false_of rfl ⟨s5, ?_⟩⟩
      rw [skip (by rw [decide_eq_false c1, Bool.false_and])]; exact hD5
  · rintro H1 ⟨s1, hD1⟩
    rw [List.length_map, List.take_length] at hD1
    have bad : badT st.n wt → ∀ p1, H1 p1 = none → Q (.ref p1) (upd H1 p1 (.lst [V.int (-22)])) := fun hc p1 n1 => by
      have stp := mbad hc
      have q := q (some st) (by rw [stp]) ok
      rw [stp] at q
      have hp1 := s1.free n1
      exact q.same (s1.trans (same_new n1)) hp1 (by rw [upd_same]; rfl) G (Ne.symm (ne_of_none hw hp1))
    refine ⟨_, rfl, ra, _, rfl, .inl (SqL.of (s1 _ _ hra)), _, rfl, g, C, dx, _, _, rfl, s1 _ _ hg, T.cl, T.nP, gF_points _ _, rfl, _, rfl, ?_⟩
    have vInt : ∀ {a b : Nat}, (V.int (a : Int) = V.int (b : Int)) ↔ a = b := fun {a b} => ⟨fun z => Int.ofNat_inj.mp (V.int.inj z), fun z => by rw [z]⟩
    by_cases c1 : wt.length = st.n
    rotate_left
    · refine if_true_of ?_ ?_
      · rw [decide_eq_false (fun z => c1 (by have := vInt.mp z; rw [List.length_map] at this; exact this))]; rfl
      · exact if_true_of rfl ⟨by show 1 ≤ sizeLine; decide, bad (Or.inl c1)⟩
    refine if_false_of (by rw [decide_eq_true (vInt.mpr (by rw [List.length_map]; exact c1))]; rfl) ?_
    refine ⟨_, rfl, D, _, rfl, .inl (SqL.of hD1), _, rfl, g, C, dx, _, _, rfl, s1 _ _ hg, T.cl, T.nP, gF_points _ _, rfl, _, rfl, ?_⟩
    by_cases c2 : (fitsN st.n wt).length = wt.length
    rotate_left
    · refine if_true_of ?_ ⟨by show 1 ≤ sizeLine; decide, bad (fitsN_bad c2)⟩
      rw [decide_eq_false (fun z => c2 (by have := vInt.mp z; rw [List.length_map] at this; omega))]; rfl
    refine if_false_of (by rw [decide_eq_true (vInt.mpr (by rw [List.length_map]; omega))]; rfl) ?_
    obtain ⟨hall, hfit⟩ := fitsN_all c2
    have stp := mgood ⟨c1, hall⟩
    have q := q (some ⟨st.n, st.W.set m.toNat (leastZ (imageZ st.n (st.W.getD k.toNat []) (wt.map fun x : Int => x.toNat)))⟩) (congrArg Prod.fst stp).symm (set_ok ok (leastZ_wt (imageZ_wt wa (tgt_lt hall c1))) _)
    rw [stp] at q
    rw [hfit] at hD1
    refine ⟨_, rfl, g, C, dx, _, _, rfl, s1 _ _ hg, T.cl, T.nW, gF_weights _ _, _, rfl, na, _, _, _, rfl, rfl, SqL.of (s1 _ _ hna), atI_nat (j := 0) rfl, wl, _, _, _, rfl, rfl, SqL.of (s1 _ _ hw), ea, _, rfl, a, D, st.n, _, wt, rfl, s1 _ _ ha, hD1, wa.1, c1, n6, hall, wa.2.2.1, wa.sm, fun H2 pL s2 n2 h2 => ?_⟩
    have s02 := s1.trans s2
    have hpL : H pL = none := s1.free n2
    refine ⟨_, rfl, g, C, dx, _, _, rfl, s02 _ _ hg, T.cl, T.nW, gF_weights _ _, _, rfl, na, _, _, _, rfl, rfl, SqL.of (s02 _ _ hna), atI_nat (j := 1) rfl, wl, _, _, m.toNat, rfl, rfl, s02 _ _ hw, ix_slot ok hR hm, by show 1 ≤ sizeLine; decide, fun p1 n1 => ?_⟩
    exact put_fin ok hm hg hw hR s02 hpL h2 q n1
/-! answer_mix -/
theorem scAMix : FnScope ["ground", "numbers", "row", "part", "whole", "mixed"] ["ground", "numbers", "row"] (defScope sAMix) := ⟨rfl, rfl, rfl, by decide +kernel, rfl, by decide +kernel, by decide +kernel⟩
theorem ok_mix {C CP f g1 g2 g3 : Addr} {fd d1 d2 d3 : FuncData} (F : Fun K "answer_mix" "answer_mix" sAMix f fd) (T : GTxt K mg C) (TC : Consts mg)
    (G1 : Def P w K mg base 4 "pair_of_slots" ["ground", "numbers"] (spPOS C CP) g1 d1) (G2 : Def P w K mg base 3 "mixture" ["pair", "part", "whole"] (spMixt CP) g2 d2) (G3 : Def P w K mg base 3 "greatest_lower" ["weights"] spGLow g3 d3) : FnOk P w K mg base CX0 5 f fd ["ground", "numbers", "row"] (spAn C 8) := by
  obtain ⟨tw, hw22⟩ := TC.wrong
  obtain ⟨tf, hw75⟩ := TC.tooFine
  obtain ⟨tp, h20⟩ := TC.mostParts
  refine F.ok scAMix (fun vs H Q E h => len_an h) (fun cdv A outer s H vs Q E hr h => ⟨_, pss_cons (ps_set (i := 3) scAMix.nd rfl (Or.inl rfl) (pe_ix ix_list (pv 1) pe_int (fun _ _ => rfl)))
      (pss_cons (ps_set (i := 4) scAMix.nd rfl (Or.inl rfl) (pe_ix ix_list (pv 1) pe_int (fun _ _ => rfl)))
      (pss_cons (ps_if (PW.pt (pw_or (pt_cmpR op_lt (pv 4) pe_int (nomark _)) (pw_or (pt_cmpR op_gt (pv 4) (pe_glob (v := .int 20) rfl h20 ⟨_, rfl⟩) (nomark _)) (pw_or (pt_cmpR op_lt (pv 3) pe_int (nomark _)) (pw_or1 (pt_cmpR op_gt (pv 3) (pv 4) (nomark _))))))) (pss_one (ps_ret (pe_lst (pa_cons (pe_glob (v := .int (-22)) rfl hw22 ⟨_, rfl⟩) pa_nil)))) pss_nil)
      (pss_cons (ps_set (i := 5) scAMix.nd rfl (Or.inl rfl) (pe_call G2.ok (hr.mono (by decide)) rfl G2.mg G2.kp G2.b .nil pass0 (pa_cons (pe_call G1.ok hr rfl G1.mg G1.kp G1.b .nil pass0 (pa_cons (pv 0) (pa_cons (pv 1) pa_nil))) (pa_cons (pv 3) (pa_cons (pv 4) pa_nil)))))
      (pss_cons (ps_if (pt_cmpR op_ge (pe_call G3.ok (hr.mono (by decide)) rfl G3.mg G3.kp G3.b .nil pass0 (pa_cons (pv 5) pa_nil)) (pe_op op_pow pe_int pe_int) (nomark _)) (pss_one (ps_ret (pe_lst (pa_cons (pe_glob (v := .int (-75)) rfl hw75 ⟨_, rfl⟩) pa_nil)))) pss_nil)
      (pss_cons (ps_asg (pv 5) (pg_sub (pe_fld (pv 0) rfl) (pe_ix ix_list (pv 1) pe_int (fun _ _ => rfl)) set_list))
      (pss_one (ps_ret (pe_lst (pa_cons pe_int pa_nil))))))))), ?_⟩)
  obtain ⟨g, wl, na, ra, st, c, rfl, hi, G, ok, hna, hra, hrl, i1, i2, hs, hb, q⟩ := h
  obtain ⟨st, rfl⟩ := hb (by decide)
  cases c <;> try cases hi
  rename_i k l m x y
  have hk := hs k (by simp [slots])
  have hl := hs l (by simp [slots])
  have hm := hs m (by simp [slots])
  obtain ⟨dx, as, hg, hw, hR⟩ := id G
  have ok : GOk st := ok
  have n6 := ok.n6
  have n1' := ok.n1
  have wa := getD_slot ok hk
  have wb := getD_slot ok hl
  obtain ⟨mbad, mgood⟩ := mix_math (s := st) (x := x) (y := y) hk hl hm rfl rfl wa wb
  have bad : (y < 1 ∨ 20 < y ∨ x < 0 ∨ y < x) → ∀ p1, H p1 = none → Q (.ref p1) (upd H p1 (.lst [V.int (-22)])) := fun hc p1 n1 => by
    have stp := mbad hc
    have q := q (some st) (by rw [stp]) ok
    rw [stp] at q
    exact q.same (same_new n1) n1 (by rw [upd_same]; rfl) G (Ne.symm (ne_of_none hw n1))
  refine ⟨_, rfl, na, _, _, _, rfl, rfl, SqL.of hna, atI_nat (j := 3) rfl, _, rfl, na, _, _, _, rfl, rfl, SqL.of hna, atI_nat (j := 4) rfl, ?_⟩
  refine ⟨_, rfl, _, _, rfl, rfl, _, rfl, ?_⟩
  by_cases c1 : y < 1
  · exact if_true_of (decide_eq_true c1) (if_true_of rfl ⟨by show 1 ≤ sizeLine; decide, bad (Or.inl c1)⟩)
  refine if_false_of (decide_eq_false c1) ⟨_, rfl, _, _, rfl, rfl, _, rfl, ?_⟩
  by_cases c2 : y > 20
  · exact if_true_of (decide_eq_true c2) (if_true_of rfl ⟨by show 1 ≤ sizeLine; decide, bad (Or.inr (Or.inl c2))⟩)
  refine if_false_of (decide_eq_false c2) ⟨_, rfl, _, _, rfl, rfl, _, rfl, ?_⟩
  by_cases c3 : x < 0
  · exact if_true_of (decide_eq_true c3) (if_true_of rfl ⟨by show 1 ≤ sizeLine; decide, bad (Or.inr (Or.inr (Or.inl c3)))⟩)
  refine if_false_of (decide_eq_false c3) ⟨_, rfl, _, rfl, _, _, rfl, rfl, _, rfl, ?_⟩
  by_cases c4 : x > y
  · exact if_true_of (decide_eq_true c4) ⟨by show 1 ≤ sizeLine; decide, bad (Or.inr (Or.inr (Or.inr c4)))⟩
  refine if_false_of (decide_eq_false c4) ?_
  obtain ⟨hs0, mfine, mput⟩ := mgood (by omega)
  have hls := leastZ_sum_pos hs0
  have hsum := mixed2_sum (x := x) (y := y) wa.1 wb.1
  have hy5 : y.natAbs < 2 ^ 5 := by show _ < 32; omega
  have hsm : Sm (mixed2 x y (st.W.getD k.toNat []) (st.W.getD l.toNat [])).sum := by
    rw [hsum]
    exact pow_lt_of (wide_lt hy5 (wide_lt wa.2.2.2 wb.2.2.2)) (by decide)
  have hlsm : Sm (leastZ (mixed2 x y (st.W.getD k.toNat []) (st.W.getD l.toNat []))).sum := by
    have h1 := leastZ_sum_le hs0
    exact wide_le (by omega) h1 hsm
  have hlen : (mixed2 x y (st.W.getD k.toNat []) (st.W.getD l.toNat [])).length = st.n := mixW_len (by rw [List.length_map, wa.1]) (by rw [List.length_map, wb.1])
  have hnn : ∀ z ∈ mixed2 x y (st.W.getD k.toNat []) (st.W.getD l.toNat []), 0 ≤ z := by
    refine mixW_pos (by omega) (by omega) ?_ ?_
    · intro z hz
      obtain ⟨u, hu, rfl⟩ := List.mem_map.mp hz
      exact Int.mul_nonneg (wa.2.1 u hu) (by have := wb.2.2.1; omega)
    · intro z hz
      obtain ⟨u, hu, rfl⟩ := List.mem_map.mp hz
      exact Int.mul_nonneg (wb.2.1 u hu) (by have := wa.2.2.1; omega)
  refine ⟨_, rfl, _, rfl, g, wl, na, st, k, l, [m, x, y], rfl, G, ok, hna, hk, hl, fun H1 p1 s1 n1 PA => ?_⟩
  refine ⟨_, rfl, _, rfl, p1, _, _, _, x, y, rfl, PA, by rw [List.length_map, List.length_map, wa.1, wb.1], by rw [List.length_map, wa.1]; omega, ?_, ?_, by show _ < 1024; omega, by show _ < 1024; omega, hs0, hsm, fun H2 pL s2 n2 h2 => ?_⟩
  · intro z hz
    obtain ⟨u, hu, rfl⟩ := List.mem_map.mp hz
    exact pow_lt_of (wide_lt (wa.small u hu) wb.2.2.2) (by decide)
  · intro z hz
    obtain ⟨u, hu, rfl⟩ := List.mem_map.mp hz
    exact pow_lt_of (wide_lt (wb.small u hu) wa.2.2.2) (by decide)
  have h2 : H2 pL = some (.lst ((leastZ (mixed2 x y (st.W.getD k.toNat []) (st.W.getD l.toNat []))).map V.int)) := h2
  have s02 := s1.trans s2
  have hpL : H pL = none := s1.free n2
  have hbd := least_bound (w := mixed2 x y (st.W.getD k.toNat []) (st.W.getD l.toNat [])) (by omega) hs0
  have hpz := leastZ_pos hnn hs0
  have hll : (leastZ (mixed2 x y (st.W.getD k.toNat []) (st.W.getD l.toNat []))).length = st.n := (leastZ_len _).trans hlen
  generalize leastZ (mixed2 x y (st.W.getD k.toNat []) (st.W.getD l.toNat [])) = L at *
  refine ⟨_, rfl, pL, L, rfl, h2, by omega, by omega, hls, hlsm, fun H3 mm s3 hmm hle => ?_⟩
  have e30 : (10 : Int) ^ (30 : Int).toNat = 10 ^ 30 := rfl
  refine ⟨_, _, rfl, rfl, ⟨by decide, by decide, by decide⟩, _, _, rfl, rfl, _, rfl, ?_⟩
  rw [e30]
  have s03 := s02.trans s3
  by_cases c5 : (10 : Int) ^ 30 ≤ mm
  · refine if_true_of (decide_eq_true c5) ⟨by show 1 ≤ sizeLine; decide, fun p4 n4 => ?_⟩
    obtain ⟨z, hz, ez⟩ := List.mem_map.mp hmm
    have stp := mfine fun hh => by
      have := hh z hz
      rw [ez] at this
      omega
    have q := q (some st) (by rw [stp]) ok
    rw [stp] at q
    have hp4 := s03.free n4
    exact q.same (s03.trans (same_new n4)) hp4 (by rw [upd_same]; rfl) G (Ne.symm (ne_of_none hw hp4))
  refine if_false_of (decide_eq_false c5) ?_
  have hlow : ∀ z ∈ L, low L.sum z < 10 ^ 30 := fun z hz => by
    have := hle _ (List.mem_map.mpr ⟨z, hz, rfl⟩)
    omega
  have stp := mput hlow
  have q := q (some ⟨st.n, st.W.set m.toNat L⟩) (by rw [stp]) (set_ok ok ⟨hll, hpz, hls, hbd hlow⟩ _)
  rw [stp] at q
  refine ⟨_, rfl, _, rfl, g, C, dx, _, _, rfl, s03 _ _ hg, T.cl, T.nW, gF_weights _ _, _, rfl, na, _, _, _, rfl, rfl, SqL.of (s03 _ _ hna), atI_nat (j := 2) rfl, wl, _, _, m.toNat, rfl, rfl, s03 _ _ hw, ix_slot ok hR hm, by show 1 ≤ sizeLine; decide, fun p5 n5 => ?_⟩
  exact put_fin ok hm hg hw hR s03 hpL (s3 _ _ h2) q n5
end
end TT

set_option Elab.async false
set_option maxRecDepth 100000
set_option maxHeartbeats 2000000
namespace TT
open PySem PySem.Spec PyProof.Rows L2
open Sr58 (Frac frac)
abbrev sACall : Stmt := top 53
/-- each call's form: slots, other numbers, rows -/
def formsZ : List (Int × Int × Int) := [(0, 1, 0), (1, 0, 1), (1, 0, 0), (2, 0, 0), (2, 0, 0), (2, 1, 1), (3, 0, 0), (2, 0, 1), (3, 2, 0), (2, 0, 0), (1, 1, 0), (2, 0, 0)]
def formZ (i : Nat) : Int × Int × Int := formsZ.getD i (0, 0, 0)
theorem idx_lt (c : Sr80.Call) : idx c < 12 := by cases c <;> simp [idx]
theorem slots_take (c : Sr80.Call) : (nums c).take (formZ (idx c)).1.toNat = slots c := by cases c <;> rfl
theorem begin_slots {c : Sr80.Call} (h : idx c = 0) : slots c = [] := by
  cases c <;> first | rfl | (simp [idx] at h)
theorem form_nonneg (c : Sr80.Call) : 0 ≤ (formZ (idx c)).1 := by cases c <;> simp [idx, formZ, formsZ]
theorem step_none {c : Sr80.Call} (h : idx c ≠ 0) : Sr80.step none c = (none, Sr80.say (-11)) := by
  cases c <;> first | rfl | exact absurd rfl h
theorem isK_iff (k : Int) : Sr80.isK k = false ↔ ¬ (0 ≤ k ∧ k < 4) := by
  unfold Sr80.isK
  have : ((Sr80.SLOTS : Nat) : Int) = 4 := rfl
  rw [this, Bool.and_eq_false_iff, decide_eq_false_iff_not, decide_eq_false_iff_not]
  omega
theorem out1 {k : Int} (h : ¬ ∀ x ∈ [k], 0 ≤ x ∧ x < 4) : Sr80.isK k = false := by
  rw [isK_iff]; exact fun z => h fun x hx => by rw [List.mem_singleton.mp hx]; exact z
theorem out2 {k l : Int} (h : ¬ ∀ x ∈ [k, l], 0 ≤ x ∧ x < 4) : Sr80.isK k = false ∨ Sr80.isK l = false := by
  rw [isK_iff, isK_iff]
  apply Classical.byContradiction
  intro z
  apply h
  intro x hx
  simp only [List.mem_cons, List.not_mem_nil, or_false] at hx
  rcases hx with rfl | rfl <;> omega
theorem out3 {k l m : Int} (h : ¬ ∀ x ∈ [k, l, m], 0 ≤ x ∧ x < 4) : Sr80.isK k = false ∨ Sr80.isK l = false ∨ Sr80.isK m = false := by
  rw [isK_iff, isK_iff, isK_iff]
  apply Classical.byContradiction
  intro z
  apply h
  intro x hx
  simp only [List.mem_cons, List.not_mem_nil, or_false] at hx
  rcases hx with rfl | rfl | rfl <;> omega
theorem step_noslot {g : Sr80.Ground} {c : Sr80.Call} (h : ¬ ∀ k ∈ slots c, 0 ≤ k ∧ k < 4) : Sr80.step (some g) c = (some g, Sr80.say (-2)) := by
  cases c
  case begin_ n => exact absurd (fun k hk => by cases hk) h
  all_goals first
    | (have h := out1 h; simp only [Sr80.step, Sr80.doing, h, if_true]; done)
    | (have h := out2 h; simp only [Sr80.step, Sr80.doing, h, if_true]; done)
    | (have h := out3 h; simp only [Sr80.step, Sr80.doing, h, if_true]; done)
def outR (k : Int) : Bool := decide (k < 0) || decide (4 ≤ k)
theorem any_out (l : List Int) : ((l.map outR).any id = true) ↔ ¬ ∀ k ∈ l, 0 ≤ k ∧ k < 4 := by
  rw [List.any_map, List.any_eq_true]
  unfold outR
  constructor
  · rintro ⟨k, hk, h⟩ z
    have := z k hk
    simp at h
    omega
  · intro h
    apply Classical.byContradiction
    intro z
    apply h
    intro k hk
    have : ¬ ((id ∘ outR) k = true) := fun c => z ⟨k, hk, c⟩
    simp [outR] at this
    omega
/-- the tables that stand -/
structure Tabs (K : PySem.W.Frag) (mg : Str → Option Value) (fa aa : Addr) (fts ads : List Addr) : Prop where
  mF : mg "FORMS" = some (.ref fa)
  mA : mg "ANSWERING" = some (.ref aa)
  sF : ∀ H, SqT K H fa (fts.map V.ref)
  lF : fts.length = 12
  sf : ∀ H i t, fts[i]? = some t → SqT K H t [.int (formZ i).1, .int (formZ i).2.1, .int (formZ i).2.2]
  sA : ∀ H, SqT K H aa (ads.map V.ref)
  nA : ads.Nodup
theorem Tabs.form {K : PySem.W.Frag} {mg : Str → Option Value} {fa aa : Addr} {fts ads : List Addr} (t : Tabs K mg fa aa fts ads) (i : Nat) (h : i < 12) (H : Hp) : ∃ q, atI (fts.map V.ref) (i : Int) = some (V.ref q) ∧ SqT K H q [.int (formZ i).1, .int (formZ i).2.1, .int (formZ i).2.2] := by
  have hl : i < fts.length := by rw [t.lF]; exact h
  refine ⟨fts[i], atI_nat (by rw [List.getElem?_map, List.getElem?_eq_getElem hl]; rfl), t.sf H i _ (List.getElem?_eq_getElem hl)⟩
theorem cut_take (xs : List V) (k : Int) (h : 0 ≤ k) : cutV xs none (some k) = xs.take k.toNat := by
  unfold cutV
  have e : k = ((k.toNat : Nat) : Int) := by omega
  rw [HT.sIx_none, e, HT.sIx_nat, Int.toNat_natCast, Nat.sub_zero, List.drop_zero]
  by_cases c : k.toNat ≤ xs.length
  · rw [Nat.min_eq_left c]
  · rw [Nat.min_eq_right (by omega), List.take_of_length_le (Nat.le_refl _), List.take_of_length_le (by omega)]
def nAns : Nat := 12
section
variable {P : Program} {w : World} {K : PySem.W.Frag} {mg : Str → Option Value} {base : Heap}
def spCall (C : Addr) : Sp := fun vs H Q _ => ∃ (g wl na ra : Addr) (st : Option GSt) (c : Sr80.Call), vs = [.ref g, .int (idx c), .ref na, .ref ra] ∧ idx c < nAns ∧ GAt C H g wl st ∧ GOkO st ∧ H na = some (.lst ((nums c).map V.int)) ∧ H ra = some (.lst ((rowOf c).map V.int)) ∧ (rowOf c).length ≤ 70 ∧ In32 (nums c) ∧ In32 (rowOf c) ∧
  ∀ st', absO st' = (Sr80.step (absO st) c).1 → GOkO st' → Res C H g wl Q st' (tellA (Sr80.step (absO st) c).2)
theorem scACall : FnScope ["ground", "call", "numbers", "row", "slots", "answering", "slot"] ["ground", "call", "numbers", "row"] (defScope sACall) := ⟨rfl, rfl, rfl, by decide +kernel, rfl, by decide +kernel, by decide +kernel⟩
/-- which promise an answering def keeps -/
def sOf (C : Addr) (ads : List Addr) (f : Addr) : Option Sp := (ads.idxOf? f).map (spAn C)
theorem sOf_at {C : Addr} {ads : List Addr} (nd : ads.Nodup) {i : Nat} {f : Addr} (h : ads[i]? = some f) : sOf C ads f = some (spAn C i) := by
  unfold sOf
  have : ads.idxOf? f = some i := by
    rw [List.idxOf?, List.findIdx?_eq_some_iff_getElem]
    obtain ⟨hl, e⟩ := List.getElem?_eq_some_iff.mp h
    refine ⟨hl, by rw [e]; exact beq_self_eq_true f, fun j hj => ?_⟩
    intro z
    have z := eq_of_beq z
    have h2 : ads[j]? = some f := by rw [List.getElem?_eq_getElem (by omega), z]
    have := nodup_at nd h h2
    omega
  rw [this]; rfl
theorem ok_call {C f fa aa : Addr} {fd : FuncData} {fts ads : List Addr} {kk : Nat} (F : Fun K "answer_call" "answer_call" sACall f fd) (T : GTxt K mg C) (B : Blt mg) (TC : Consts mg) (TB : Tabs K mg fa aa fts ads) (lA : ads.length = nAns)
    (HA : ∀ f sp, sOf C ads f = some sp → Held P w K mg base kk f sp) : FnOk P w K mg base CX0 (kk + 1) f fd ["ground", "call", "numbers", "row"] (spCall C) := by
  obtain ⟨tn, hnb⟩ := TC.notBegun
  obtain ⟨t2, hns⟩ := TC.noSlot
  obtain ⟨t4, h4⟩ := TC.slotCount
  obtain ⟨t0, h0⟩ := TC.begin_
  refine F.ok scACall (fun vs H Q E h => by obtain ⟨_, _, _, _, _, _, rfl, _⟩ := h; rfl) (fun cdv A outer s H vs Q E hr h => ⟨_,
      pss_cons (ps_if (PW.pt (pw_and (pt_cmpR op_ne (pv 1) (pe_glob (v := .int 0) rfl h0 ⟨_, rfl⟩) (nomark _)) (pw_and1 (pt_cmpR op_eq (pe_fld (pv 0) rfl) pe_int (nomark _))))) (pss_one (ps_ret (pe_lst (pa_cons (pe_glob (v := .int (-11)) rfl hnb ⟨_, rfl⟩) pa_nil)))) pss_nil)
      (pss_cons (ps_set (i := 4) scACall.nd rfl (Or.inl rfl) (pe_slice sl_list (pv 2) po_none (po_some (pe_ix ix_tup (pe_ix ix_tup (pe_glob (v := .ref fa) rfl TB.mF rfl) (pv 1) (fun _ _ => rfl)) pe_int (fun _ _ => rfl)))))
      (pss_cons (ps_if (pt_val (pe_callB (cr_any rfl) (by rfl) B.any (by decide +kernel) (pa_cons (pe_lc (own := [("slot", 6)]) (g := gName 6) (tt := tYes) (te := tOrV (tOp (rI0 fun i j => .bl (decide (i < j))) (tVar 6) (tC (.int 0))) (tOp (rI0 fun i j => .bl (decide (j ≤ i))) (tVar 6) (tC (.int 4)))) (by rfl) scACall.nd (pi_list (pv 4)) (blkOk_by (own := [("slot", 6)]) (N := ["ground", "call", "numbers", "row", "slots", "answering", "slot"]) (sc := defScope sACall) (by decide +kernel))
        (fun _ _ _ _ _ => pg_name (i := 6) scACall.nd rfl (Or.inl rfl)) (fun _ _ _ _ _ => pts_nil) (fun _ _ _ _ _ => pe_or (pe_cmpR op_lt (pv 6) pe_int (nomark _)) (pe_one (pe_cmpR op_ge (pv 6) (pe_glob (v := .int 4) rfl h4 ⟨_, rfl⟩) (nomark _))))) pa_nil))) (pss_one (ps_ret (pe_lst (pa_cons (pe_glob (v := .int (-2)) rfl hns ⟨_, rfl⟩) pa_nil)))) pss_nil)
      (pss_cons (ps_set (i := 5) scACall.nd rfl (Or.inl rfl) (pe_ix ix_tup (pe_glob (v := .ref aa) rfl TB.mA rfl) (pv 1) (fun _ _ => rfl)))
      (pss_one (ps_ret (pe_callA (i := 5) (S := sOf C ads) HA hr rfl (Or.inl rfl) (pa_cons (pv 0) (pa_cons (pv 2) (pa_cons (pv 3) pa_nil))))))))), ?_⟩)
  obtain ⟨g, wl, na, ra, st, c, rfl, h6, G, ok, hna, hra, hrl, i1, i2, q⟩ := h
  obtain ⟨ow, how⟩ := G.wl
  have c3 : (idx c ≠ 0 ∧ st = none) ∨ idx c = 0 ∨ (idx c ≠ 0 ∧ ∃ s, st = some s) := by
    by_cases hb : idx c = 0
    · exact Or.inr (Or.inl hb)
    · cases st with
      | none => exact Or.inl ⟨hb, rfl⟩
      | some s => exact Or.inr (Or.inr ⟨hb, s, rfl⟩)
  have hbt : idx c ≠ 0 → (!decide (V.int ((idx c : Nat) : Int) = V.int 0)) = true := fun hb => by
    rw [decide_eq_false fun z => hb (by have := V.int.inj z; omega)]; rfl
  rcases c3 with ⟨hb, hn⟩ | hb | ⟨hb, s0, hs0⟩
  · subst hn
    obtain ⟨dx, o, hg, _⟩ := id G
    refine ⟨_, rfl, rfl, _, rfl, if_true_of (hbt hb) ⟨_, rfl, g, C, dx, _, _, rfl, hg, T.cl, T.nP, gF_points _ _, rfl, _, rfl, if_true_of rfl ⟨by show 1 ≤ sizeLine; decide, fun p1 n1 => ?_⟩⟩⟩
    have stp := step_none hb
    have q := q none (by show none = (Sr80.step none c).1; rw [stp]) ok
    have e : (Sr80.step (absO none) c).2 = Sr80.say (-11) := by show (Sr80.step none c).2 = _; rw [stp]
    rw [e] at q
    exact q.same (same_new n1) n1 (by rw [upd_same]; rfl) G (Ne.symm (ne_of_none how n1))
  case' inr.inl =>
    have hst : idx c ≠ 0 → ∃ s, st = some s := fun z => absurd hb z
    refine ⟨_, rfl, rfl, _, rfl, if_false_of (by rw [hb]; rfl) (if_false_of rfl ?_)⟩
  case' inr.inr =>
    have hst : idx c ≠ 0 → ∃ s, st = some s := fun z => ⟨s0, hs0⟩
    have G' := G
    have ok' := ok
    rw [hs0] at G' ok'
    obtain ⟨dx, as, hg, _, _⟩ := G'
    have n1 : 1 ≤ s0.n := GOk.n1 ok'
    refine ⟨_, rfl, rfl, _, rfl, if_true_of (hbt hb) ⟨_, rfl, g, C, dx, _, _, rfl, hg, T.cl, T.nP, gF_points _ _, rfl, _, rfl, if_false_of (decide_eq_false fun z => by have := V.int.inj z; omega) ?_⟩⟩
  all_goals
    obtain ⟨q1, eq1, hq1⟩ := TB.form (idx c) (idx_lt c) H
    refine ⟨_, rfl, _, rfl, fa, _, _, _, rfl, rfl, TB.sF H, eq1, q1, _, _, _, rfl, rfl, hq1, atI_nat (j := 0) rfl, _, rfl, na, _, rfl, SqL.of hna, fun p1 n1 => ?_⟩
    rw [cut_take _ _ (form_nonneg c), ← List.map_take, slots_take]
    have s1 := same_new (o := .lst ((slots c).map V.int)) n1
    refine ⟨_, rfl, p1, rfl, ⟨_, SqL.of upd_same⟩, fun D hD => ?_⟩
    have hD1 : D ≠ p1 := Ne.symm (ne_of_none upd_same hD)
    refine lc_list (K := K) (a := p1) (xs := (slots c).map V.int) (fun i H' => Same (upd H p1 (.lst ((slots c).map V.int))) H' ∧ H' D = some (.lst ((((slots c).take i).map outR).map V.bl))) ⟨same_new hD, upd_same⟩ (fun i H' _ h => SqL.of (h.1 _ _ upd_same)) ?_ ?_
    · rintro i x H' hi ⟨s5, hD5⟩
      obtain ⟨z, hz, rfl⟩ := int_at hi
      have fin : ∀ b, b = outR z → ∃ acc, H' D = some (.lst acc) ∧ acc.length < sizeLine ∧ (Same (upd H p1 (.lst ((slots c).map V.int))) (upd H' D (.lst (acc ++ [V.bl b]))) ∧ upd H' D (.lst (acc ++ [V.bl b])) D = some (.lst ((((slots c).take (i + 1)).map outR).map V.bl))) := fun b hb => by
        refine ⟨_, hD5, ?_, fun b o e => ?_, ?_⟩
        · rw [List.length_map, List.length_map, sz]
          have h1 := List.length_take_le' i (slots c)
          have h2 : (slots c).length ≤ 3 := by cases c <;> simp [slots]
          omega
        · rw [upd_ne (ne_of_none e hD)]; exact s5 _ _ e
        · rw [upd_same, take_more hz, List.map_append, List.map_append, hb]; rfl
      refine ⟨rfl, _, rfl, _, _, rfl, rfl, _, rfl, ?_⟩
      by_cases c1 : z < 0
      · refine if_true_of (decide_eq_true c1) (fin _ ?_)
        unfold outR; rw [decide_eq_true c1]; rfl
      · refine if_false_of (decide_eq_false c1) ⟨_, rfl, _, _, rfl, rfl, fin _ ?_⟩
        unfold outR; rw [decide_eq_false c1]; rfl
    · rintro H1 ⟨s2, hD2⟩
      rw [List.length_map, List.take_length] at hD2
      have s01 : Same H H1 := s1.trans s2
      refine ⟨D, _, rfl, SqL.of hD2, _, rfl, ?_⟩
      by_cases c1 : ∀ k ∈ slots c, 0 ≤ k ∧ k < 4
      rotate_left
      · refine if_true_of ((any_out _).mpr c1) ⟨by show 1 ≤ sizeLine; decide, fun p2 n2 => ?_⟩
        have hb0 : idx c ≠ 0 := fun z => c1 (by rw [begin_slots z]; intro k hk; cases hk)
        obtain ⟨s', hs'⟩ := hst hb0
        subst hs'
        have stp := step_noslot (g := absG s') c1
        have q := q (some s') (by show some (absG s') = (Sr80.step (some (absG s')) c).1; rw [stp]) ok
        have e : (Sr80.step (absO (some s')) c).2 = Sr80.say (-2) := by show (Sr80.step (some (absG s')) c).2 = _; rw [stp]
        rw [e] at q
        have hp2 := s01.free n2
        exact q.same (s01.trans (same_new n2)) hp2 (by rw [upd_same]; rfl) G (Ne.symm (ne_of_none how hp2))
      refine if_false_of (by rw [← Bool.not_eq_true]; exact fun z => (any_out _).mp z c1) ?_
      have hl : idx c < ads.length := by rw [lA]; exact h6
      refine ⟨_, rfl, aa, _, _, _, rfl, rfl, TB.sA H1, atI_nat (by rw [List.getElem?_map, List.getElem?_eq_getElem hl]; rfl), ?_⟩
      refine ⟨ads[idx c], _, rfl, sOf_at TB.nA (List.getElem?_eq_getElem hl), _, rfl, _, rfl, _, rfl, g, wl, na, ra, _, c, rfl, rfl, G.same s01, ok, s01 _ _ hna, s01 _ _ hra, hrl, i1, i2, c1, hst, fun st' e1 e2 => ?_⟩
      intro H2 p2 wl' fr n2 h2 G2 hw hp hfo
      refine q st' e1 e2 H2 p2 wl' (fun b o e hb1 hb2 => fr b o (s01 _ _ e) hb1 hb2) (s01.free n2) h2 G2 (hw.imp id fun z => s01.free z) hp fun b o e hn => hfo b o (s01 _ _ e) ?_
      rintro ⟨as, h1, h2⟩
      rw [s01 _ _ how] at h1
      exact hn ⟨as, by rw [how, h1], h2⟩
end
end TT

set_option Elab.async false
set_option maxRecDepth 100000
set_option maxHeartbeats 2000000
namespace TT
open PySem PySem.Spec PyProof.Rows L2
/-! ### how the calls are laid out -/
def hasRow : Sr80.Call → Bool
  | .spread _ _ => true
  | .test _ _ _ _ => true
  | .image _ _ _ => true
  | _ => false
def tailC (c : Sr80.Call) : List Int := if hasRow c then ((rowOf c).length : Int) :: rowOf c else []
def encC (c : Sr80.Call) : List Int := (idx c : Int) :: (nums c ++ tailC c)
structure COk (c : Sr80.Call) : Prop where
  i1 : In32 (nums c)
  i2 : In32 (rowOf c)
  len : (rowOf c).length ≤ 70
theorem row_dec {l x s : List Int} (h : PyFlat.row l = some (x, s)) : l = (x.length : Int) :: (x ++ s) := by
  cases l with
  | nil => cases h
  | cons n r =>
    have h : (if 0 ≤ n ∧ n.toNat ≤ r.length then some (r.take n.toNat, r.drop n.toNat) else none) = some (x, s) := h
    by_cases c : 0 ≤ n ∧ n.toNat ≤ r.length
    · rw [if_pos c] at h
      cases h
      have e : ((r.take n.toNat).length : Int) = n := by rw [List.length_take]; omega
      rw [e, List.take_append_drop]
    · rw [if_neg c] at h; cases h
theorem rows1_dec {l t : List Int} {xs : List (List Int)} (h : PyFlat.rows 1 l = some (xs, t)) : ∃ x, xs = [x] ∧ l = (x.length : Int) :: (x ++ t) := by
  unfold PyFlat.rows at h
  cases e : PyFlat.row l with
  | none => rw [e] at h; cases h
  | some y =>
    obtain ⟨x, s⟩ := y
    rw [e] at h
    simp only [PyFlat.rows] at h
    cases h
    exact ⟨x, rfl, row_dec e⟩
theorem rows0_dec {l t : List Int} {xs : List (List Int)} (h : PyFlat.rows 0 l = some (xs, t)) : xs = [] ∧ l = t := by
  simp only [PyFlat.rows] at h
  cases h
  exact ⟨rfl, rfl⟩
theorem call_dec0 {shape : Int → Option (Nat × Nat)} {p : Int} {r : List Int} {c : List (List Int)} {t : List Int} (h : PyFlat.call shape (p :: r) = some (c, t)) : ∃ n k xs, shape p = some (n, k) ∧ n ≤ r.length ∧ PyFlat.rows k (r.drop n) = some (xs, t) ∧ c = (p :: r.take n) :: xs := by
  have h : (match shape p with
    | none => none
    | some (n, k) => if r.length < n then none else match PyFlat.rows k (r.drop n) with
      | none => none
      | some (xs, t) => some ((p :: r.take n) :: xs, t)) = some (c, t) := h
  cases e : shape p with
  | none => rw [e] at h; cases h
  | some y =>
    obtain ⟨n, k⟩ := y
    rw [e] at h
    simp only [] at h
    split at h
    · cases h
    · rename_i hn
      cases e2 : PyFlat.rows k (r.drop n) with
      | none => rw [e2] at h; cases h
      | some z =>
        obtain ⟨xs, t'⟩ := z
        rw [e2] at h
        cases h
        exact ⟨n, k, xs, rfl, by omega, e2, rfl⟩
theorem take1 {r : List Int} (h : 1 ≤ r.length) : ∃ a s, r = a :: s := by
  cases r with
  | nil => simp at h
  | cons a s => exact ⟨a, s, rfl⟩
theorem take2 {r : List Int} (h : 2 ≤ r.length) : ∃ a b s, r = a :: b :: s := by
  obtain ⟨a, s, rfl⟩ := take1 (r := r) (by omega)
  obtain ⟨b, s, rfl⟩ := take1 (r := s) (by simpa using h)
  exact ⟨a, b, s, rfl⟩
theorem take3 {r : List Int} (h : 3 ≤ r.length) : ∃ a b c s, r = a :: b :: c :: s := by
  obtain ⟨a, b, s, rfl⟩ := take2 (r := r) (by omega)
  obtain ⟨c, s, rfl⟩ := take1 (r := s) (by simpa using h)
  exact ⟨a, b, c, s, rfl⟩
theorem take5 {r : List Int} (h : 5 ≤ r.length) : ∃ a b c d e s, r = a :: b :: c :: d :: e :: s := by
  obtain ⟨a, b, c, s, rfl⟩ := take3 (r := r) (by omega)
  obtain ⟨d, e, s, rfl⟩ := take2 (r := s) (by simpa using h)
  exact ⟨a, b, c, d, e, s, rfl⟩
theorem in32_of {l : List Int} (h : Sr80Neutral.wholes l = true) : In32 l := fun x hx => by
  have := List.all_eq_true.mp h x hx
  unfold Sr80Neutral.whole at this
  rw [Bool.and_eq_true, decide_eq_true_eq, decide_eq_true_eq] at this
  omega
theorem row_of {l : List Int} (h : Sr80Neutral.row l = true) : In32 l ∧ l.length ≤ 70 := by
  unfold Sr80Neutral.row at h
  rw [Bool.and_eq_true, decide_eq_true_eq] at h
  exact ⟨in32_of h.1, h.2⟩
theorem in32_nil : In32 [] := fun x hx => by cases hx
theorem shape_dec {p : Int} {n k : Nat} (h : PySr80.shape p = some (n, k)) : (p = 0 ∧ n = 1 ∧ k = 0) ∨ (p = 1 ∧ n = 1 ∧ k = 1) ∨ (p = 2 ∧ n = 1 ∧ k = 0) ∨ (p = 3 ∧ n = 2 ∧ k = 0) ∨ (p = 4 ∧ n = 2 ∧ k = 0) ∨ (p = 5 ∧ n = 3 ∧ k = 1) ∨ (p = 6 ∧ n = 3 ∧ k = 0) ∨ (p = 7 ∧ n = 2 ∧ k = 1) ∨ (p = 8 ∧ n = 5 ∧ k = 0) ∨ (p = 9 ∧ n = 2 ∧ k = 0) ∨ (p = 10 ∧ n = 2 ∧ k = 0) ∨ (p = 11 ∧ n = 2 ∧ k = 0) := by
  unfold PySr80.shape at h
  repeat' split at h
  all_goals first
    | (cases h; done)
    | (cases h; subst_vars; simp)
theorem call_dec {l : List Int} {c : List (List Int)} {t : List Int} (h : PyFlat.call PySr80.shape l = some (c, t)) (ha : Sr80Neutral.asked1 (PySr80.whole c) = true) : ∃ x, Sr80Neutral.callOf (PySr80.whole c) = some x ∧ l = encC x ++ t ∧ COk x := by
  cases l with
  | nil => cases h
  | cons p r =>
    obtain ⟨n, k, xs, hs, hn, hr, rfl⟩ := call_dec0 h
    rcases shape_dec hs with ⟨rfl, rfl, rfl⟩ | ⟨rfl, rfl, rfl⟩ | ⟨rfl, rfl, rfl⟩ | ⟨rfl, rfl, rfl⟩ | ⟨rfl, rfl, rfl⟩ | ⟨rfl, rfl, rfl⟩ | ⟨rfl, rfl, rfl⟩ | ⟨rfl, rfl, rfl⟩ | ⟨rfl, rfl, rfl⟩ | ⟨rfl, rfl, rfl⟩ | ⟨rfl, rfl, rfl⟩ | ⟨rfl, rfl, rfl⟩
    · obtain ⟨a, s, rfl⟩ := take1 hn
      obtain ⟨rfl, rfl⟩ := rows0_dec hr
      exact ⟨.begin_ a, rfl, rfl, in32_of ha, in32_nil, Nat.zero_le _⟩
    · obtain ⟨a, s, rfl⟩ := take1 hn
      obtain ⟨x, rfl, e⟩ := rows1_dec hr
      have ha : (Sr80Neutral.wholes [a] && Sr80Neutral.row x) = true := ha
      rw [Bool.and_eq_true] at ha
      have e : s = (x.length : Int) :: (x ++ t) := e
      exact ⟨.spread a x, rfl, by rw [e]; rfl, in32_of ha.1, (row_of ha.2).1, (row_of ha.2).2⟩
    · obtain ⟨a, s, rfl⟩ := take1 hn
      obtain ⟨rfl, rfl⟩ := rows0_dec hr
      exact ⟨.told a, rfl, rfl, in32_of ha, in32_nil, Nat.zero_le _⟩
    · obtain ⟨a, b, s, rfl⟩ := take2 hn
      obtain ⟨rfl, rfl⟩ := rows0_dec hr
      exact ⟨.apart a b, rfl, rfl, in32_of ha, in32_nil, Nat.zero_le _⟩
    · obtain ⟨a, b, s, rfl⟩ := take2 hn
      obtain ⟨rfl, rfl⟩ := rows0_dec hr
      exact ⟨.plan a b, rfl, rfl, in32_of ha, in32_nil, Nat.zero_le _⟩
    · obtain ⟨a, b, d, s, rfl⟩ := take3 hn
      obtain ⟨x, rfl, e⟩ := rows1_dec hr
      have ha : (Sr80Neutral.wholes [a, b, d] && Sr80Neutral.row x) = true := ha
      rw [Bool.and_eq_true] at ha
      have e : s = (x.length : Int) :: (x ++ t) := e
      exact ⟨.test a b d x, rfl, by rw [e]; rfl, in32_of ha.1, (row_of ha.2).1, (row_of ha.2).2⟩
    · obtain ⟨a, b, d, s, rfl⟩ := take3 hn
      obtain ⟨rfl, rfl⟩ := rows0_dec hr
      exact ⟨.behind a b d, rfl, rfl, in32_of ha, in32_nil, Nat.zero_le _⟩
    · obtain ⟨a, b, s, rfl⟩ := take2 hn
      obtain ⟨x, rfl, e⟩ := rows1_dec hr
      have ha : (Sr80Neutral.wholes [a, b] && Sr80Neutral.row x) = true := ha
      rw [Bool.and_eq_true] at ha
      have e : s = (x.length : Int) :: (x ++ t) := e
      exact ⟨.image a b x, rfl, by rw [e]; rfl, in32_of ha.1, (row_of ha.2).1, (row_of ha.2).2⟩
    · obtain ⟨a, b, d, e, f, s, rfl⟩ := take5 hn
      obtain ⟨rfl, rfl⟩ := rows0_dec hr
      exact ⟨.mix a b d e f, rfl, rfl, in32_of ha, in32_nil, Nat.zero_le _⟩
    · obtain ⟨a, b, s, rfl⟩ := take2 hn
      obtain ⟨rfl, rfl⟩ := rows0_dec hr
      exact ⟨.same a b, rfl, rfl, in32_of ha, in32_nil, Nat.zero_le _⟩
    · obtain ⟨a, b, s, rfl⟩ := take2 hn
      obtain ⟨rfl, rfl⟩ := rows0_dec hr
      exact ⟨.set_ a b, rfl, rfl, in32_of ha, in32_nil, Nat.zero_le _⟩
    · obtain ⟨a, b, s, rfl⟩ := take2 hn
      obtain ⟨rfl, rfl⟩ := rows0_dec hr
      exact ⟨.give a b, rfl, rfl, in32_of ha, in32_nil, Nat.zero_le _⟩
/-- the answers, call by call -/
def runC : Sr80.State → List Sr80.Call → List Int
  | _, [] => []
  | s, c :: r => ((tellA (Sr80.step s c).2).length : Int) :: (tellA (Sr80.step s c).2 ++ runC (Sr80.step s c).1 r)
theorem calls_dec : ∀ (f : Nat) (l : List Int) (raw : List (List (List Int))) (s : Sr80.State), PyFlat.calls PySr80.shape f l = some raw → (raw.map PySr80.whole).all Sr80Neutral.asked1 = true →
    ∃ cs : List Sr80.Call, l = cs.flatMap encC ∧ (∀ c ∈ cs, COk c) ∧ cs.length = raw.length ∧ PyFlat.told (PyFlat.played Sr80Neutral.step s (raw.map PySr80.whole)) = runC s cs
  | _, [], raw, s, h, _ => by
    unfold PyFlat.calls at h
    cases h
    exact ⟨[], rfl, fun c hc => (by cases hc), rfl, rfl⟩
  | 0, _ :: _, raw, s, h, _ => by
    unfold PyFlat.calls at h
    cases h
  | f + 1, p :: r, raw, s, h, ha => by
    unfold PyFlat.calls at h
    cases e : PyFlat.call PySr80.shape (p :: r) with
    | none => rw [e] at h; cases h
    | some y =>
      obtain ⟨c, t⟩ := y
      rw [e] at h
      simp only [] at h
      cases e2 : PyFlat.calls PySr80.shape f t with
      | none => rw [e2] at h; cases h
      | some cs0 =>
        rw [e2] at h
        cases h
        rw [List.map_cons, List.all_cons, Bool.and_eq_true] at ha
        obtain ⟨x, hx, hl, ok⟩ := call_dec e ha.1
        obtain ⟨cs, h1, h2, h3, h4⟩ := calls_dec f t cs0 (Sr80.step s x).1 e2 ha.2
        refine ⟨x :: cs, ?_, ?_, by rw [List.length_cons, List.length_cons, h3], ?_⟩
        · rw [hl, List.flatMap_cons, h1]
        · intro c hc
          rcases List.mem_cons.mp hc with rfl | hc
          · exact ok
          · exact h2 c hc
        · have e3 : Sr80Neutral.step s (PySr80.whole c) = ((Sr80.step s x).1, tellA (Sr80.step s x).2) := by
            unfold Sr80Neutral.step
            rw [hx]; rfl
          rw [List.map_cons]
          show PyFlat.told ((Sr80Neutral.step s (PySr80.whole c)).2 :: PyFlat.played Sr80Neutral.step (Sr80Neutral.step s (PySr80.whole c)).1 (cs0.map PySr80.whole)) = _
          rw [e3]
          show ((tellA (Sr80.step s x).2).length : Int) :: tellA (Sr80.step s x).2 ++ PyFlat.told _ = _
          rw [h4]; rfl
theorem asked_dec {l : List Int} (h : PySr80.answers_asked l = true) : ∃ cs : List Sr80.Call, l = cs.flatMap encC ∧ (∀ c ∈ cs, COk c) ∧ PySr80.answers l = runC none cs ∧ (runC none cs).length ≤ 10000000 := by
  unfold PySr80.answers_asked at h
  cases e : PyFlat.calls PySr80.shape l.length l with
  | none => rw [e] at h; cases h
  | some raw =>
    rw [e] at h
    simp only [Bool.and_eq_true] at h
    obtain ⟨⟨_, h1⟩, h2⟩ := h
    unfold Sr80Neutral.asked at h1
    simp only [Bool.and_eq_true] at h1
    obtain ⟨cs, c1, c2, _, c4⟩ := calls_dec _ _ _ none e h1.2.2
    have ea : PySr80.answers l = runC none cs := by
      unfold PySr80.answers PySr80.calls
      rw [e]
      exact c4
    refine ⟨cs, c1, c2, ea, ?_⟩
    rw [← ea]
    exact of_decide_eq_true h2
end TT

set_option Elab.async false
set_option maxRecDepth 100000
set_option maxHeartbeats 2000000
namespace TT
open PySem PySem.Spec PyProof.Rows L2
abbrev sAnswers : Stmt := top 54
theorem form_len (c : Sr80.Call) : (formZ (idx c)).1 + (formZ (idx c)).2.1 = ((nums c).length : Int) := by cases c <;> simp [idx, formZ, formsZ, nums]
theorem form_row (c : Sr80.Call) : (formZ (idx c)).2.2 = if hasRow c then 1 else 0 := by cases c <;> simp [idx, formZ, formsZ, hasRow]
theorem cut_mid {a b c : List Int} {i j : Int} (hi : i = (a.length : Int)) (hj : j = ((a.length + b.length : Nat) : Int)) : cutV ((a ++ (b ++ c)).map V.int) (some i) (some j) = b.map V.int := by
  unfold cutV
  rw [hi, hj, HT.sIx_nat, HT.sIx_nat, List.length_map, List.length_append, List.length_append, Nat.min_eq_left (by omega), Nat.min_eq_left (by omega), ← List.map_drop, ← List.map_take]
  congr 1
  rw [List.drop_left, Nat.add_sub_cancel_left, List.take_left]
theorem at_mid {a c : List Int} {x : Int} {i : Int} (hi : i = (a.length : Int)) : atI ((a ++ x :: c).map V.int) i = some (V.int x) := by
  rw [hi]
  apply atI_nat
  rw [List.getElem?_map, List.getElem?_append_right (Nat.le_refl _), Nat.sub_self]; rfl
theorem Tabs.formA {K : PySem.W.Frag} {mg : Str → Option Value} {fa aa : Addr} {fts ads : List Addr} (t : Tabs K mg fa aa fts ads) (i : Nat) (h : i < 12) : ∃ q, atI (fts.map V.ref) (i : Int) = some (V.ref q) ∧ ∀ H, SqT K H q [.int (formZ i).1, .int (formZ i).2.1, .int (formZ i).2.2] := by
  have hl : i < fts.length := by rw [t.lF]; exact h
  exact ⟨fts[i], atI_nat (by rw [List.getElem?_map, List.getElem?_eq_getElem hl]; rfl), fun H => t.sf H i _ (List.getElem?_eq_getElem hl)⟩
theorem runC_len (s : Sr80.State) (c : Sr80.Call) (r : List Sr80.Call) : (runC s (c :: r)).length = 1 + (tellA (Sr80.step s c).2).length + (runC (Sr80.step s c).1 r).length := by
  show (_ :: (_ ++ _)).length = _
  rw [List.length_cons, List.length_append]; omega
section
variable {P : Program} {w : World} {K : PySem.W.Frag} {mg : Str → Option Value} {base : Heap}
def spAnswers (K : PySem.W.Frag) : Sp := fun vs H Q _ => ∃ (a : Addr) (l : List Int) (cs : List Sr80.Call), vs = [.ref a] ∧ SqL K H a (l.map V.int) ∧ l.length ≤ 4600 ∧ l = cs.flatMap encC ∧ (∀ c ∈ cs, COk c ∧ idx c < nAns) ∧ (runC none cs).length ≤ 10000000 ∧
  ∀ (H' : Hp) (p : Addr), H' p = some (.lst ((runC none cs).map V.int)) → Q (.ref p) H'
theorem scAnswers : FnScope ["calls", "ground", "answered", "place", "call", "form", "row_place", "numbers", "row", "answer"] ["calls"] (defScope sAnswers) := ⟨rfl, rfl, rfl, by decide +kernel, rfl, by decide +kernel, by decide +kernel⟩
/-- the loop's state -/
structure Loop (C a : Addr) (H H' : Hp) (cs rest : List Sr80.Call) (g wl ad : Addr) (st : Option GSt) (out : List Int) : Prop where
  same : Same H H'
  ng : H g = none
  nw : H wl = none
  nd : H ad = none
  G : GAt C H' g wl st
  ok : GOkO st
  at_d : H' ad = some (.lst (out.map V.int))
  dg : ad ≠ g
  dw : ad ≠ wl
  df : ¬ Foot H' wl ad
  eq : out ++ runC (absO st) rest = runC none cs
theorem foot_nil {H : Hp} {wl b : Addr} (h : H wl = some (.lst [])) : ¬ Foot H wl b := fun ⟨as, z1, z2⟩ => by
  rw [h] at z1
  have z3 := refs_inj (as := []) (HO.lst.inj (Option.some.inj z1))
  rw [← z3] at z2
  cases z2
theorem gat_upd {C : Addr} {H : Hp} {g wl ad : Addr} {o : HO} : ∀ {st : Option GSt}, GAt C H g wl st → ad ≠ wl → g ≠ ad → ¬ Foot H wl ad → GAt C (upd H ad o) g wl st
  | none, ⟨dx, u, h1, h2⟩, hw, hg, _ => ⟨dx, u, (upd_ne hg).trans h1, (upd_ne (Ne.symm hw)).trans h2⟩
  | some s, ⟨dx, as, h1, h2, h3⟩, hw, hg, hn => ⟨dx, as, (upd_ne hg).trans h1, (upd_ne (Ne.symm hw)).trans h2, h3.same fun a ha o e => by
      have : a ≠ ad := fun z => hn ⟨as, h2, z ▸ ha⟩
      rw [upd_ne this]; exact e⟩
theorem ok_answers {C f fa aa fI g1 : Addr} {fd fdI gd1 : FuncData} {fts ads : List Addr} {kk : Nat} (F : Fun K "answers" "answers" sAnswers f fd) (T : GTxt K mg C) (B : Blt mg) (TB : Tabs K mg fa aa fts ads)
    (M : Mk K C fI) (GI : FnOk P w K mg base CX0 1 fI fdI ["self"] (spGI C)) (bI : Binds K fdI ["self"] []) (G1 : Def P w K mg base (kk + 2) "answer_call" ["ground", "call", "numbers", "row"] (spCall C) g1 gd1) :
    FnOk P w K mg base CX0 (kk + 3) f fd ["calls"] (spAnswers K) := by
  refine F.ok scAnswers (fun vs H Q E h => by obtain ⟨_, _, _, rfl, _⟩ := h; rfl) (fun cdv A outer s H vs Q E hr h => ⟨_,
      pss_cons (ps_set (i := 1) scAnswers.nd rfl (Or.inl rfl) (pe_make0 M GI (hr.mono (by omega)) rfl T.gC bI .nil pass0))
      (pss_cons (ps_set (i := 2) scAnswers.nd rfl (Or.inl rfl) (pe_lst pa_nil))
      (pss_cons (ps_set (i := 3) scAnswers.nd rfl (Or.inl rfl) pe_int)
      (pss_cons (ps_while PassesOwn.never (pt_cmpR op_lt (pv 3) (pe_callB call_len_seq (by rfl) B.len PySem.boot_len (pa_cons (pv 0) pa_nil)) (nomark _))
        (pss_cons (ps_set (i := 4) scAnswers.nd rfl (Or.inl rfl) (pe_ix ix_list (pv 0) (pv 3) (fun _ _ => rfl)))
        (pss_cons (ps_set (i := 5) scAnswers.nd rfl (Or.inl rfl) (pe_ix ix_tup (pe_glob (v := .ref fa) rfl TB.mF rfl) (pv 4) (fun _ _ => rfl)))
        (pss_cons (ps_set (i := 6) scAnswers.nd rfl (Or.inl rfl) (pe_op op_add (pe_op op_add (pe_op op_add (pv 3) pe_int) (pe_ix ix_tup (pv 5) pe_int (fun _ _ => rfl))) (pe_ix ix_tup (pv 5) pe_int (fun _ _ => rfl))))
        (pss_cons (ps_set (i := 7) scAnswers.nd rfl (Or.inl rfl) (pe_slice sl_list (pv 0) (po_some (pe_op op_add (pv 3) pe_int)) (po_some (pv 6))))
        (pss_cons (ps_set (i := 8) scAnswers.nd rfl (Or.inl rfl) (pe_lst pa_nil))
        (pss_cons (ps_set (i := 3) scAnswers.nd rfl (Or.inl rfl) (pv 6))
        (pss_cons (ps_if (pt_cmpR op_eq (pe_ix ix_tup (pv 5) pe_int (fun _ _ => rfl)) pe_int (nomark _))
            (pss_cons (ps_set (i := 3) scAnswers.nd rfl (Or.inl rfl) (pe_op op_add (pe_op op_add (pv 6) pe_int) (pe_ix ix_list (pv 0) (pv 6) (fun _ _ => rfl))))
            (pss_one (ps_set (i := 8) scAnswers.nd rfl (Or.inl rfl) (pe_slice sl_list (pv 0) (po_some (pe_op op_add (pv 6) pe_int)) (po_some (pv 3)))))) pss_nil)
        (pss_cons (ps_set (i := 9) scAnswers.nd rfl (Or.inl rfl) (pe_call G1.ok hr rfl G1.mg G1.kp G1.b .nil pass0 (pa_cons (pv 1) (pa_cons (pv 4) (pa_cons (pv 7) (pa_cons (pv 8) pa_nil))))))
        (pss_cons (ps_expr (pe_bm PySem.F.plainAttrs_list PySem.F.slot_list_append PySem.F.type_list_append mt_append (pv 2) (pa_cons (pe_callB call_len_seq (by rfl) B.len PySem.boot_len (pa_cons (pv 9) pa_nil)) pa_nil)))
        (pss_one (ps_expr (pe_bm PySem.F.plainAttrs_list PySem.F.slot_list_extend PySem.F.type_list_extend mt_extend (pv 2) (pa_cons (pv 9) pa_nil))))))))))))))
      (pss_one (ps_ret (pv 2)))))), ?_⟩)
  obtain ⟨a, l, cs, rfl, hS, hl, hcs, hok, hlen, q⟩ := h
  intro x dx nx ndx nex
  refine ⟨x, dx, rfl, upd_same, fun H1 wl h1 nwl fr hwl => ⟨rfl, ?_⟩⟩
  have s1 : Same H H1 := Same.made nx ndx fr
  have hxw : x ≠ wl := fun e => by rw [← e, upd_same] at nwl; cases nwl
  have nwl0 : H wl = none := by
    rw [upd_ne (Ne.symm hxw)] at nwl
    by_cases c : wl = dx
    · rw [c, upd_same] at nwl; cases nwl
    · rw [upd_ne c] at nwl; exact nwl
  have how := hwl
  refine ⟨by show 0 ≤ sizeLine; decide, fun ad nad => ?_⟩
  have s2 := same_new (o := .lst []) nad
  refine while_by (fun σ H' => ∃ (v4 v5 v6 v7 v8 v9 : Option V) (done rest : List Sr80.Call) (wl : Addr) (st : Option GSt) (out : List Int) (pl : Int), σ = [some (.ref a), some (.ref x), some (.ref ad), some (.int pl), v4, v5, v6, v7, v8, v9] ∧ pl = ((done.flatMap encC).length : Nat) ∧ cs = done ++ rest ∧ Loop C a H H' cs rest x wl ad st out)
    (fun σ _ => match σ with | _ :: _ :: _ :: some (.int p) :: _ => l.length - p.toNat | _ => 0)
    ⟨none, none, none, none, none, none, [], cs, wl, none, [], 0, rfl, rfl, rfl, ⟨s1.trans s2, nx, nwl0, s1.free nad, ⟨dx, _, s2 _ _ h1, s2 _ _ how⟩, trivial, upd_same, Ne.symm (ne_of_none h1 nad), Ne.symm (ne_of_none how nad), foot_nil (s2 _ _ how), rfl⟩⟩ ?_ ?_
  · rintro σ H' ⟨v4, v5, v6, v7, v8, v9, done, rest, wl, st, out, pl, rfl, rfl, hdr, L⟩
    have hSl : SqL K H' a (l.map V.int) := L.same.seq hS
    refine ⟨_, rfl, _, rfl, a, _, rfl, .inl hSl, _, _, rfl, rfl, _, rfl, ?_⟩
    cases rest with
    | nil =>
      rw [List.append_nil] at hdr
      refine if_false_of (decide_eq_false ?_) ?_
      · rw [List.length_map, hcs, hdr]; omega
      · refine ⟨_, rfl, q H' ad ?_⟩
        have := L.eq
        rw [show runC (absO st) [] = [] from rfl, List.append_nil] at this
        rw [← this]; exact L.at_d
    | cons c rest =>
      have hl1 : l = done.flatMap encC ++ (encC c ++ rest.flatMap encC) := by rw [hcs, hdr, List.flatMap_append, List.flatMap_cons]
      obtain ⟨cok, c6⟩ := hok c (by rw [hdr]; simp)
      generalize hpre : done.flatMap encC = pre at *
      generalize hpost : rest.flatMap encC = post at *
      have hl2 : l = pre ++ (idx c : Int) :: (nums c ++ (tailC c ++ post)) := by rw [hl1]; unfold encC; simp
      have hl3 : l = (pre ++ [(idx c : Int)]) ++ (nums c ++ (tailC c ++ post)) := by rw [hl2]; simp
      refine if_true_of (decide_eq_true ?_) ?_
      · rw [List.length_map, hl2, List.length_append, List.length_cons]; omega
      obtain ⟨q1, eq1, hq1⟩ := TB.formA (idx c) (idx_lt c)
      have fl := form_len c
      have fr1 := form_row c
      refine ⟨_, rfl, _, rfl, a, _, _, _, rfl, rfl, hSl, by rw [hl2]; exact at_mid rfl, ?_⟩
      refine ⟨_, rfl, fa, _, _, _, rfl, rfl, TB.sF H', eq1, ?_⟩
      refine ⟨_, rfl, _, _, rfl, rfl, _, rfl, q1, _, _, _, rfl, rfl, hq1 _, atI_nat (j := 0) rfl, _, _, rfl, rfl, _, rfl, q1, _, _, _, rfl, rfl, hq1 _, atI_nat (j := 1) rfl, _, _, rfl, rfl, ?_⟩
      have hrp : ((pre.length : Nat) : Int) + 1 + (formZ (idx c)).1 + (formZ (idx c)).2.1 = (((pre ++ [(idx c : Int)]).length + (nums c).length : Nat) : Int) := by
        rw [List.length_append, Int.natCast_add, ← fl]
        show _ = ((pre.length + 1 : Nat) : Int) + _
        omega
      refine ⟨_, rfl, _, rfl, _, _, rfl, rfl, _, rfl, _, rfl, _, rfl, a, _, rfl, hSl, fun na nna => ?_⟩
      have hcut : cutV (l.map V.int) (some (((pre.length : Nat) : Int) + 1)) (some (((pre.length : Nat) : Int) + 1 + (formZ (idx c)).1 + (formZ (idx c)).2.1)) = (nums c).map V.int := by
        conv => lhs; rw [hl3]
        exact cut_mid (by rw [List.length_append]; rfl) hrp
      have hna1 : upd H' na (.lst (cutV (l.map V.int) (some (((pre.length : Nat) : Int) + 1)) (some (((pre.length : Nat) : Int) + 1 + (formZ (idx c)).1 + (formZ (idx c)).2.1)))) na = some (.lst ((nums c).map V.int)) := by rw [upd_same, hcut]
      have t1 := same_new (o := .lst (cutV (l.map V.int) (some (((pre.length : Nat) : Int) + 1)) (some (((pre.length : Nat) : Int) + 1 + (formZ (idx c)).1 + (formZ (idx c)).2.1)))) nna
      refine ⟨by show 0 ≤ sizeLine; decide, fun r0 nr0 => ?_⟩
      have t2 := same_new (o := .lst []) nr0
      have hna2 := t2 _ _ hna1
      have t12 := t1.trans t2
      have hr0 : H' r0 = none := t1.free nr0
      have hr0' : upd (upd H' na (.lst (cutV (l.map V.int) (some (((pre.length : Nat) : Int) + 1)) (some (((pre.length : Nat) : Int) + 1 + (formZ (idx c)).1 + (formZ (idx c)).2.1))))) r0 (.lst []) r0 = some (.lst []) := upd_same
      generalize upd (upd H' na (.lst (cutV (l.map V.int) (some (((pre.length : Nat) : Int) + 1)) (some (((pre.length : Nat) : Int) + 1 + (formZ (idx c)).1 + (formZ (idx c)).2.1))))) r0 (.lst []) = H2 at *
      have hSl2 : SqL K H2 a (l.map V.int) := t12.seq hSl
      refine ⟨_, rfl, ?_⟩
      refine ⟨_, rfl, q1, _, _, _, rfl, rfl, hq1 _, atI_nat (j := 2) rfl, rfl, _, rfl, ?_⟩
      have hrow : hasRow c = true ∨ hasRow c = false := by cases hasRow c <;> simp
      rcases hrow with hrow | hrow
      case' inl =>
        rw [hrow, if_pos rfl] at fr1
        have htl : tailC c = ((rowOf c).length : Int) :: rowOf c := by unfold tailC; rw [hrow, if_pos rfl]
        have hl4 : l = ((pre ++ [(idx c : Int)]) ++ nums c) ++ ((rowOf c).length : Int) :: (rowOf c ++ post) := by rw [hl3, htl]; simp
        have hl5 : l = ((pre ++ [(idx c : Int)]) ++ nums c ++ [((rowOf c).length : Int)]) ++ (rowOf c ++ post) := by rw [hl4]; simp
        refine if_true_of (by rw [fr1]; rfl) ?_
        refine ⟨_, rfl, _, _, rfl, rfl, _, rfl, _, rfl, a, _, _, _, rfl, rfl, hSl2, by rw [hl4]; exact at_mid (by rw [hrp]; simp only [List.length_append]), _, _, rfl, rfl, ?_⟩
        refine ⟨_, rfl, _, rfl, _, _, rfl, rfl, _, rfl, _, rfl, _, rfl, a, _, rfl, hSl2, fun ra nra => ?_⟩
        have hcut2 : cutV (l.map V.int) (some (((pre.length : Nat) : Int) + 1 + (formZ (idx c)).1 + (formZ (idx c)).2.1 + 1)) (some (((pre.length : Nat) : Int) + 1 + (formZ (idx c)).1 + (formZ (idx c)).2.1 + 1 + ((rowOf c).length : Int))) = (rowOf c).map V.int := by
          conv => lhs; rw [hl5]
          refine cut_mid ?_ ?_
          · rw [hrp]; simp only [List.length_append, List.length_cons, List.length_nil]; omega
          · rw [hrp]; simp only [List.length_append, List.length_cons, List.length_nil]; omega
        have hra : upd H2 ra (.lst (cutV (l.map V.int) (some (((pre.length : Nat) : Int) + 1 + (formZ (idx c)).1 + (formZ (idx c)).2.1 + 1)) (some (((pre.length : Nat) : Int) + 1 + (formZ (idx c)).1 + (formZ (idx c)).2.1 + 1 + ((rowOf c).length : Int))))) ra = some (.lst ((rowOf c).map V.int)) := by rw [upd_same, hcut2]
        have t3 := same_new (o := .lst (cutV (l.map V.int) (some (((pre.length : Nat) : Int) + 1 + (formZ (idx c)).1 + (formZ (idx c)).2.1 + 1)) (some (((pre.length : Nat) : Int) + 1 + (formZ (idx c)).1 + (formZ (idx c)).2.1 + 1 + ((rowOf c).length : Int))))) nra
        have hna3 := t3 _ _ hna2
        have t13 := t12.trans t3
        have hpl : ((pre.length : Nat) : Int) + 1 + (formZ (idx c)).1 + (formZ (idx c)).2.1 + 1 + ((rowOf c).length : Int) = (((pre ++ encC c).length : Nat) : Int) := by
          rw [hrp]
          unfold encC
          rw [htl]
          simp only [List.length_append, List.length_cons, List.length_nil]
          omega
        generalize upd H2 ra (.lst (cutV (l.map V.int) (some (((pre.length : Nat) : Int) + 1 + (formZ (idx c)).1 + (formZ (idx c)).2.1 + 1)) (some (((pre.length : Nat) : Int) + 1 + (formZ (idx c)).1 + (formZ (idx c)).2.1 + 1 + ((rowOf c).length : Int))))) = H3 at *
      case' inr =>
        rw [hrow, if_neg Bool.false_ne_true] at fr1
        have htl : tailC c = [] := by unfold tailC; rw [hrow, if_neg Bool.false_ne_true]
        have hrw : rowOf c = [] := by cases c <;> first | rfl | (simp [hasRow] at hrow)
        refine if_false_of (by rw [fr1]; rfl) ?_
        have hra : H2 r0 = some (.lst ((rowOf c).map V.int)) := by rw [hrw]; exact hr0'
        have hna3 := hna2
        have t13 := t12
        have hpl : ((pre.length : Nat) : Int) + 1 + (formZ (idx c)).1 + (formZ (idx c)).2.1 = (((pre ++ encC c).length : Nat) : Int) := by
          rw [hrp]
          unfold encC
          rw [htl]
          simp only [List.length_append, List.length_cons, List.length_nil]
          omega
      all_goals
        refine ⟨_, rfl, _, rfl, _, rfl, _, rfl, x, wl, na, _, st, c, rfl, c6, L.G.same t13, L.ok, hna3, hra, cok.len, cok.i1, cok.i2, fun st' e1 e2 => ?_⟩
        intro H4 p wl' fr n4 h4 G4 hw hp hfo
        have hfd : ¬ Foot H4 wl' ad := hfo ad _ (t13 _ _ L.at_d) fun ⟨as, z1, z2⟩ => by
          obtain ⟨ow2, how2⟩ := L.G.wl
          rw [t13 _ _ how2] at z1
          exact L.df ⟨as, by rw [how2, z1], z2⟩
        have hd3 := t13 _ _ L.at_d
        have hd4 := fr _ _ hd3 L.dg L.dw
        have hpd : p ≠ ad := Ne.symm (ne_of_none hd3 n4)
        have hlens := congrArg List.length L.eq
        rw [List.length_append, runC_len] at hlens
        refine ⟨_, rfl, .inl ⟨rfl, _, SqL.of hd4⟩, _, rfl, p, _, rfl, .inl (SqL.of h4), ad, _, _, rfl, rfl, hd4, ?_, ?_⟩
        · rw [List.length_map, sz]; omega
        refine ⟨_, rfl, .inl ⟨rfl, _, SqL.of upd_same⟩, _, rfl, ad, p, _, _, rfl, rfl, upd_same, (upd_ne hpd).trans h4, ?_, ?_⟩
        · rw [List.length_append, List.length_map, List.length_map, sz]
          show _ + 1 + _ ≤ _
          omega
        have hdw' : ad ≠ wl' := by
          rcases hw with z | z
          · rw [z]; exact L.dw
          · exact ne_of_none hd3 z
        have hupd : ∀ o, upd (upd H4 ad o) ad = upd H4 ad := fun o => by funext u; exact upd_upd
        rw [hupd]
        have hlast : (((done ++ [c]).flatMap encC).length : Nat) = (pre ++ encC c).length := by
          rw [List.flatMap_append, hpre]; simp
        refine ⟨⟨_, _, _, _, _, _, done ++ [c], rest, wl', st', out ++ (((tellA (Sr80.step (absO st) c).2).length : Int) :: tellA (Sr80.step (absO st) c).2), _, rfl, ?_, ?_, ⟨fun b o e => ?_, L.ng, ?_, L.nd, ?_, e2, ?_, L.dg, hdw', ?_, ?_⟩⟩, ?_⟩
        · rw [hlast]; exact hpl
        · rw [hdr]; simp
        · have e1' := L.same b o e
          rw [upd_ne (ne_of_none e L.nd)]
          exact fr b o (t13 _ _ e1') (ne_of_none e L.ng) (ne_of_none e L.nw)
        · rcases hw with z | z
          · rw [z]; exact L.nw
          · exact (L.same.trans t13).free z
        · exact gat_upd G4 hdw' (Ne.symm L.dg) hfd
        · rw [upd_same, List.map_append, List.map_cons, List.length_map]
          simp
        · rintro ⟨as, z1, z2⟩
          rw [upd_ne (Ne.symm hdw')] at z1
          exact hfd ⟨as, z1, z2⟩
        · rw [e1, List.append_assoc]; exact L.eq
        · have hlt : pre.length < (pre ++ encC c).length := by
            unfold encC
            rw [List.length_append, List.length_cons]; omega
          have hle : (pre ++ encC c).length ≤ l.length := by
            rw [hl1, ← List.append_assoc, List.length_append (as := pre ++ encC c)]; omega
          have fin : ∀ z : Int, z = (((pre ++ encC c).length : Nat) : Int) → l.length - z.toNat < l.length - (((pre.length : Nat) : Int)).toNat := fun z hz => by omega
          exact fin _ hpl
  · rintro σ H' Q1 Q2 hq ⟨v, e1, v2, e2, p, ys, e3, h1, i, j, e4, e5, k, e6, h2⟩
    exact ⟨v, e1, v2, e2, p, ys, e3, h1, i, j, e4, e5, k, e6, hq _ _ h2⟩
end
end TT

set_option Elab.async false
set_option maxRecDepth 100000
set_option maxHeartbeats 4000000
namespace TT
open PySem PySem.Spec PyProof.Rows L2
structure FnAt (K : PySem.W.Frag) (mg : Str → Option Value) (x : Str) (st : Stmt) (f : Addr) (fd : FuncData) : Prop where
  mg : mg x = some (.ref f)
  fn : Fun K x x st f fd
theorem fn_mk {K : PySem.W.Frag} {h : Heap} {mg : Str → Option Value} {x : Str} {st : Stmt} {f : Addr} {od an : Option Addr} {sl : Array (Option Value)} {oc kV dc pm cd ct : Value} (X : K.In h) (G : h.Ns mainGlobals mg) (a : PySem.W.nsIn K mainGlobals x = some (some (.ref f)))
    (l : K.lookup f = some ⟨oc, od, .func (PySem.W.fnOf x x (defArgs st) (defBody st) (defScope st) .none kV dc pm an cd ct), sl⟩) (c : PySem.W.codeIn K cd x = true) (k : PySem.W.keepIn K (.ref f) = true) : FnAt K mg x st f (PySem.W.fnOf x x (defArgs st) (defBody st) (defScope st) .none kV dc pm an cd ct) :=
  ⟨PySem.W.mg_of X G a, fun_mk (st := st) l c k⟩
theorem sqt_of {K : PySem.W.Frag} {a : Addr} {d : Option Addr} {its : Array Value} {n : Nat} {sl : Array (Option Value)} {xs : List V} (l : K.lookup a = some ⟨.type "tuple", d, .seq its n, sl⟩) (hz : its.size ≤ sizeLine) (v : Vals xs its.toList) (H : Hp) : SqT K H a xs :=
  .inr ⟨_, its, n, l, rfl, rfl, hz, v⟩
theorem sqt3 {K : PySem.W.Frag} {a : Addr} {d : Option Addr} {n : Nat} {sl : Array (Option Value)} {i j k : Int} {t u v : Tok} (l : K.lookup a = some ⟨.type "tuple", d, .seq #[.int i t, .int j u, .int k v] n, sl⟩) (H : Hp) : SqT K H a [.int i, .int j, .int k] :=
  sqt_of (xs := [.int i, .int j, .int k]) l (by show 3 ≤ sizeLine; decide) (.cons ⟨_, rfl⟩ (.cons ⟨_, rfl⟩ (.cons ⟨_, rfl⟩ .nil))) H
theorem vals_refs : ∀ (l : List Addr), Vals (l.map V.ref) (l.map Value.ref)
  | [] => .nil
  | a :: l => .cons rfl (vals_refs l)
theorem held_all {P : Program} {w : World} {K : PySem.W.Frag} {mg : Str → Option Value} {base : Heap} {C : Addr} {k : Nat} {ads : List Addr} (h : ∀ i f, ads[i]? = some f → Held P w K mg base k f (spAn C i)) : ∀ f sp, sOf C ads f = some sp → Held P w K mg base k f sp := by
  intro f sp e
  unfold sOf at e
  cases e2 : ads.idxOf? f with
  | none => rw [e2] at e; cases e
  | some i =>
    rw [e2] at e
    cases e
    rw [List.idxOf?, List.findIdx?_eq_some_iff_getElem] at e2
    obtain ⟨hl, h1, _⟩ := e2
    exact h i f (by rw [List.getElem?_eq_getElem hl, eq_of_beq h1])
/-- the promise of the whole: the specification's answers -/
def spAll (K : PySem.W.Frag) : Sp := fun vs H Q _ => ∃ (a : Addr) (l : List Int), vs = [.ref a] ∧ SqL K H a (l.map V.int) ∧ l.length ≤ 4600 ∧ PySr80.answers_asked l = true ∧
  ∀ (H' : Hp) (p : Addr), H' p = some (.lst ((PySr80.answers l).map V.int)) → Q (.ref p) H'
theorem all_ok {P : Program} {w : World} {K : PySem.W.Frag} {mg : Str → Option Value} {base : Heap} {C CP CB fa aa fPI fGI fBI f0 f1 f2 f3 f4 f5 f6 f7 f8 f9 f10 f11 f12 f13 f14 f15 f16 f17 f18 f19 f20 f21 f22 f23 f24 f25 f26 f27 f28 f29 f30 f31 f32 f33 f34 f35 f36 : Addr} {dPI dGI dBI d0 d1 d2 d3 d4 d5 d6 d7 d8 d9 d10 d11 d12 d13 d14 d15 d16 d17 d18 d19 d20 d21 d22 d23 d24 d25 d26 d27 d28 d29 d30 d31 d32 d33 d34 d35 d36 : FuncData} {fts : List Addr} (B : Blt mg) (TC : Consts mg) (TP : PairTxt K mg CP) (TBh : BehTxt K mg CB) (T : GTxt K mg C) (TB : Tabs K mg fa aa fts [f23, f24, f25, f26, f27, f28, f29, f30, f31, f32, f33, f34])
    (MP : Mk K CP fPI) (FPI : Fun K "__init__" "Pair.__init__" sPair fPI dPI) (MG : Mk K C fGI) (FGI : Fun K "__init__" "Ground.__init__" sGInit fGI dGI) (MB : Mk K CB fBI) (FBI : Fun K "__init__" "Behind.__init__" sBehI fBI dBI)
    (n0 : FnAt K mg "greatest_in_common" sGcd f0 d0) (n1 : FnAt K mg "least_multiple" sLcm f1 d1) (n2 : FnAt K mg "told_fraction" sTF f2 d2) (n3 : FnAt K mg "told_fractions" sTFs f3 d3) (n4 : FnAt K mg "times" sTimes f4 d4) (n5 : FnAt K mg "surplus" sSurplus f5 d5) (n6 : FnAt K mg "set_number" sSetNo f6 d6) (n7 : FnAt K mg "pair_by_pair" sPBP f7 d7) (n8 : FnAt K mg "best_plan" sBest f8 d8) (n9 : FnAt K mg "differing" sDiff f9 d9) (n10 : FnAt K mg "in_rows" sInRows f10 d10) (n11 : FnAt K mg "in_one_row" sInOne f11 d11) (n12 : FnAt K mg "column_sum" sCol f12 d12) (n13 : FnAt K mg "is_plan" sIsPlan f13 d13) (n14 : FnAt K mg "factors_behind" sFac f14 d14) (n15 : FnAt K mg "rows_behind" sRowsB f15 d15) (n16 : FnAt K mg "least_weights" sLeast f16 d16) (n17 : FnAt K mg "image" sImage f17 d17) (n18 : FnAt K mg "mixture" sMixt f18 d18) (n19 : FnAt K mg "greatest_lower" sGLow f19 d19) (n20 : FnAt K mg "weight_in_set" sWSet f20 d20) (n21 : FnAt K mg "pair_of_slots" sPOS f21 d21) (n22 : FnAt K mg "told_plan" sTPlan f22 d22) (n23 : FnAt K mg "answer_begin" sABegin f23 d23) (n24 : FnAt K mg "answer_spread" sASpread f24 d24) (n25 : FnAt K mg "answer_told" sATold f25 d25) (n26 : FnAt K mg "answer_apart" sAApart f26 d26) (n27 : FnAt K mg "answer_plan" sAPlan f27 d27) (n28 : FnAt K mg "answer_test" sATest f28 d28) (n29 : FnAt K mg "answer_behind" sABehind f29 d29) (n30 : FnAt K mg "answer_image" sAImage f30 d30) (n31 : FnAt K mg "answer_mix" sAMix f31 d31) (n32 : FnAt K mg "answer_same" sASame f32 d32) (n33 : FnAt K mg "answer_set" sASet f33 d33) (n34 : FnAt K mg "answer_give" sAGive f34 d34) (n35 : FnAt K mg "answer_call" sACall f35 d35) (n36 : FnAt K mg "answers" sAnswers f36 d36) : FnOk P w K mg base CX0 8 f36 d36 ["calls"] (spAll K) := by
  have b0 := n0.fn.binds (ps := ["first", "second"]) fun _ _ _ _ _ _ us hl => match us, hl with | [_, _], _ => rfl
  have b1 := n1.fn.binds (ps := ["numbers"]) fun _ _ _ _ _ _ us hl => match us, hl with | [_], _ => rfl
  have b2 := n2.fn.binds (ps := ["upper", "lower"]) fun _ _ _ _ _ _ us hl => match us, hl with | [_, _], _ => rfl
  have b3 := n3.fn.binds (ps := ["uppers", "lower"]) fun _ _ _ _ _ _ us hl => match us, hl with | [_, _], _ => rfl
  have b4 := n4.fn.binds (ps := ["numbers", "factor"]) fun _ _ _ _ _ _ us hl => match us, hl with | [_, _], _ => rfl
  have b5 := n5.fn.binds (ps := ["ones", "others"]) fun _ _ _ _ _ _ us hl => match us, hl with | [_, _], _ => rfl
  have b6 := n6.fn.binds (ps := ["amounts"]) fun _ _ _ _ _ _ us hl => match us, hl with | [_], _ => rfl
  have b7 := n7.fn.binds (ps := ["first", "second"]) fun _ _ _ _ _ _ us hl => match us, hl with | [_, _], _ => rfl
  have b8 := n8.fn.binds (ps := ["pair"]) fun _ _ _ _ _ _ us hl => match us, hl with | [_], _ => rfl
  have b9 := n9.fn.binds (ps := ["plan"]) fun _ _ _ _ _ _ us hl => match us, hl with | [_], _ => rfl
  have b10 := n10.fn.binds (ps := ["numbers", "length"]) fun _ _ _ _ _ _ us hl => match us, hl with | [_, _], _ => rfl
  have b11 := n11.fn.binds (ps := ["plan"]) fun _ _ _ _ _ _ us hl => match us, hl with | [_], _ => rfl
  have b12 := n12.fn.binds (ps := ["plan", "point"]) fun _ _ _ _ _ _ us hl => match us, hl with | [_, _], _ => rfl
  have b13 := n13.fn.binds (ps := ["plan", "lower", "pair"]) fun _ _ _ _ _ _ us hl => match us, hl with | [_, _, _], _ => rfl
  have b14 := n14.fn.binds (ps := ["between", "multiple"]) fun _ _ _ _ _ _ us hl => match us, hl with | [_, _], _ => rfl
  have b15 := n15.fn.binds (ps := ["front", "back", "factors"]) fun _ _ _ _ _ _ us hl => match us, hl with | [_, _, _], _ => rfl
  have b16 := n16.fn.binds (ps := ["weights"]) fun _ _ _ _ _ _ us hl => match us, hl with | [_], _ => rfl
  have b17 := n17.fn.binds (ps := ["weights", "targets"]) fun _ _ _ _ _ _ us hl => match us, hl with | [_, _], _ => rfl
  have b18 := n18.fn.binds (ps := ["pair", "part", "whole"]) fun _ _ _ _ _ _ us hl => match us, hl with | [_, _, _], _ => rfl
  have b19 := n19.fn.binds (ps := ["weights"]) fun _ _ _ _ _ _ us hl => match us, hl with | [_], _ => rfl
  have b20 := n20.fn.binds (ps := ["weights", "number"]) fun _ _ _ _ _ _ us hl => match us, hl with | [_, _], _ => rfl
  have b21 := n21.fn.binds (ps := ["ground", "numbers"]) fun _ _ _ _ _ _ us hl => match us, hl with | [_, _], _ => rfl
  have b22 := n22.fn.binds (ps := ["rows", "lower"]) fun _ _ _ _ _ _ us hl => match us, hl with | [_, _], _ => rfl
  have b23 := n23.fn.binds (ps := ["ground", "numbers", "row"]) fun _ _ _ _ _ _ us hl => match us, hl with | [_, _, _], _ => rfl
  have b24 := n24.fn.binds (ps := ["ground", "numbers", "row"]) fun _ _ _ _ _ _ us hl => match us, hl with | [_, _, _], _ => rfl
  have b25 := n25.fn.binds (ps := ["ground", "numbers", "row"]) fun _ _ _ _ _ _ us hl => match us, hl with | [_, _, _], _ => rfl
  have b26 := n26.fn.binds (ps := ["ground", "numbers", "row"]) fun _ _ _ _ _ _ us hl => match us, hl with | [_, _, _], _ => rfl
  have b27 := n27.fn.binds (ps := ["ground", "numbers", "row"]) fun _ _ _ _ _ _ us hl => match us, hl with | [_, _, _], _ => rfl
  have b28 := n28.fn.binds (ps := ["ground", "numbers", "row"]) fun _ _ _ _ _ _ us hl => match us, hl with | [_, _, _], _ => rfl
  have b29 := n29.fn.binds (ps := ["ground", "numbers", "row"]) fun _ _ _ _ _ _ us hl => match us, hl with | [_, _, _], _ => rfl
  have b30 := n30.fn.binds (ps := ["ground", "numbers", "row"]) fun _ _ _ _ _ _ us hl => match us, hl with | [_, _, _], _ => rfl
  have b31 := n31.fn.binds (ps := ["ground", "numbers", "row"]) fun _ _ _ _ _ _ us hl => match us, hl with | [_, _, _], _ => rfl
  have b32 := n32.fn.binds (ps := ["ground", "numbers", "row"]) fun _ _ _ _ _ _ us hl => match us, hl with | [_, _, _], _ => rfl
  have b33 := n33.fn.binds (ps := ["ground", "numbers", "row"]) fun _ _ _ _ _ _ us hl => match us, hl with | [_, _, _], _ => rfl
  have b34 := n34.fn.binds (ps := ["ground", "numbers", "row"]) fun _ _ _ _ _ _ us hl => match us, hl with | [_, _, _], _ => rfl
  have b35 := n35.fn.binds (ps := ["ground", "call", "numbers", "row"]) fun _ _ _ _ _ _ us hl => match us, hl with | [_, _, _, _], _ => rfl
  have bPI := FPI.binds (ps := ["self", "first", "second"]) fun _ _ _ _ _ _ us hl => match us, hl with | [_, _, _], _ => rfl
  have bBI := FBI.binds (ps := ["self", "first", "between", "third"]) fun _ _ _ _ _ _ us hl => match us, hl with | [_, _, _, _], _ => rfl
  have bGI := FGI.binds (ps := ["self"]) fun _ _ _ _ _ _ us hl => match us, hl with | [_], _ => rfl
  have D0 : Def P w K mg base 1 "greatest_in_common" ["first", "second"] _ f0 d0 := ⟨ok_gcd n0.fn, n0.mg, n0.fn.kp, b0⟩
  have D1 : Def P w K mg base 2 "least_multiple" ["numbers"] _ f1 d1 := ⟨ok_lcm n1.fn D0, n1.mg, n1.fn.kp, b1⟩
  have D2 : Def P w K mg base 2 "told_fraction" ["upper", "lower"] _ f2 d2 := ⟨ok_tf n2.fn D0, n2.mg, n2.fn.kp, b2⟩
  have D3 : Def P w K mg base 3 "told_fractions" ["uppers", "lower"] _ f3 d3 := ⟨ok_tfs n3.fn D2, n3.mg, n3.fn.kp, b3⟩
  have D4 : Def P w K mg base 1 "times" ["numbers", "factor"] _ f4 d4 := ⟨ok_times n4.fn, n4.mg, n4.fn.kp, b4⟩
  have GPI : FnOk P w K mg base CX0 2 fPI dPI _ _ := ok_pairI FPI TP B D4
  have GGI : FnOk P w K mg base CX0 1 fGI dGI _ _ := ok_gi FGI T
  have D5 : Def P w K mg base 1 "surplus" ["ones", "others"] _ f5 d5 := ⟨ok_surplus n5.fn B, n5.mg, n5.fn.kp, b5⟩
  have D6 : Def P w K mg base 1 "set_number" ["amounts"] _ f6 d6 := ⟨ok_setNo n6.fn B, n6.mg, n6.fn.kp, b6⟩
  have D7 : Def P w K mg base 1 "pair_by_pair" ["first", "second"] _ f7 d7 := ⟨ok_pbp n7.fn B, n7.mg, n7.fn.kp, b7⟩
  have D8 : Def P w K mg base 2 "best_plan" ["pair"] _ f8 d8 := ⟨ok_best n8.fn TP B D5 D7, n8.mg, n8.fn.kp, b8⟩
  have D9 : Def P w K mg base 1 "differing" ["plan"] _ f9 d9 := ⟨ok_diff n9.fn B, n9.mg, n9.fn.kp, b9⟩
  have D10 : Def P w K mg base 1 "in_rows" ["numbers", "length"] _ f10 d10 := ⟨ok_inRows n10.fn B, n10.mg, n10.fn.kp, b10⟩
  have D11 : Def P w K mg base 1 "in_one_row" ["plan"] _ f11 d11 := ⟨ok_inOne n11.fn, n11.mg, n11.fn.kp, b11⟩
  have D12 : Def P w K mg base 1 "column_sum" ["plan", "point"] _ f12 d12 := ⟨ok_col n12.fn B, n12.mg, n12.fn.kp, b12⟩
  have D13 : Def P w K mg base 2 "is_plan" ["plan", "lower", "pair"] _ f13 d13 := ⟨ok_isPlan n13.fn TP B D11 D12 D4, n13.mg, n13.fn.kp, b13⟩
  have D14 : Def P w K mg base 1 "factors_behind" ["between", "multiple"] _ f14 d14 := ⟨ok_fac n14.fn, n14.mg, n14.fn.kp, b14⟩
  have D15 : Def P w K mg base 1 "rows_behind" ["front", "back", "factors"] _ f15 d15 := ⟨ok_rowsB n15.fn B, n15.mg, n15.fn.kp, b15⟩
  have GBI : FnOk P w K mg base CX0 4 fBI dBI _ _ := ok_behI FBI TBh TP B MP GPI bPI D8 D1 D15 D14
  have D16 : Def P w K mg base 2 "least_weights" ["weights"] _ f16 d16 := ⟨ok_least n16.fn B D0, n16.mg, n16.fn.kp, b16⟩
  have D17 : Def P w K mg base 3 "image" ["weights", "targets"] _ f17 d17 := ⟨ok_image n17.fn B D16, n17.mg, n17.fn.kp, b17⟩
  have D18 : Def P w K mg base 3 "mixture" ["pair", "part", "whole"] _ f18 d18 := ⟨ok_mixt n18.fn TP B D16, n18.mg, n18.fn.kp, b18⟩
  have D19 : Def P w K mg base 3 "greatest_lower" ["weights"] _ f19 d19 := ⟨ok_gLow n19.fn B D2, n19.mg, n19.fn.kp, b19⟩
  have D20 : Def P w K mg base 1 "weight_in_set" ["weights", "number"] _ f20 d20 := ⟨ok_wset n20.fn B, n20.mg, n20.fn.kp, b20⟩
  have D22 : Def P w K mg base 4 "told_plan" ["rows", "lower"] _ f22 d22 := ⟨ok_tplan n22.fn B D11 D3 D9, n22.mg, n22.fn.kp, b22⟩
  have D21 : Def P w K mg base 4 "pair_of_slots" ["ground", "numbers"] _ f21 d21 := ⟨ok_pos n21.fn T TP MP GPI bPI, n21.mg, n21.fn.kp, b21⟩
  have A23 : Held P w K mg base 6 f23 (spAn C 0) := ⟨d23, _, (ok_begin n23.fn T B TC : FnOk P w K mg base CX0 1 f23 d23 ["ground", "numbers", "row"] _).mono (by decide), n23.fn.kp, b23⟩
  have A24 : Held P w K mg base 6 f24 (spAn C 1) := ⟨d24, _, (ok_spread n24.fn T B TC D16 : FnOk P w K mg base CX0 3 f24 d24 ["ground", "numbers", "row"] _).mono (by decide), n24.fn.kp, b24⟩
  have A25 : Held P w K mg base 6 f25 (spAn C 2) := ⟨d25, _, (ok_told n25.fn T B D3 : FnOk P w K mg base CX0 4 f25 d25 ["ground", "numbers", "row"] _).mono (by decide), n25.fn.kp, b25⟩
  have A26 : Held P w K mg base 6 f26 (spAn C 3) := ⟨d26, _, (ok_apart n26.fn T TP B D21 D5 D6 D2 : FnOk P w K mg base CX0 5 f26 d26 ["ground", "numbers", "row"] _).mono (by decide), n26.fn.kp, b26⟩
  have A27 : Held P w K mg base 6 f27 (spAn C 4) := ⟨d27, _, (ok_plan n27.fn T TP D21 D8 D22 : FnOk P w K mg base CX0 5 f27 d27 ["ground", "numbers", "row"] _).mono (by decide), n27.fn.kp, b27⟩
  have A28 : Held P w K mg base 6 f28 (spAn C 5) := ⟨d28, _, (ok_test n28.fn T TP B TC D21 D10 D13 D2 D9 : FnOk P w K mg base CX0 5 f28 d28 ["ground", "numbers", "row"] _).mono (by decide), n28.fn.kp, b28⟩
  have A29 : Held P w K mg base 6 f29 (spAn C 6) := ⟨d29, _, (ok_behind n29.fn T TBh MB GBI bBI D22 : FnOk P w K mg base CX0 6 f29 d29 ["ground", "numbers", "row"] _).mono (by decide), n29.fn.kp, b29⟩
  have A30 : Held P w K mg base 6 f30 (spAn C 7) := ⟨d30, _, (ok_aimage n30.fn T B TC D17 : FnOk P w K mg base CX0 4 f30 d30 ["ground", "numbers", "row"] _).mono (by decide), n30.fn.kp, b30⟩
  have A31 : Held P w K mg base 6 f31 (spAn C 8) := ⟨d31, _, (ok_mix n31.fn T TC D21 D18 D19 : FnOk P w K mg base CX0 5 f31 d31 ["ground", "numbers", "row"] _).mono (by decide), n31.fn.kp, b31⟩
  have A32 : Held P w K mg base 6 f32 (spAn C 9) := ⟨d32, _, (ok_same n32.fn T TP D21 : FnOk P w K mg base CX0 5 f32 d32 ["ground", "numbers", "row"] _).mono (by decide), n32.fn.kp, b32⟩
  have A33 : Held P w K mg base 6 f33 (spAn C 10) := ⟨d33, _, (ok_set n33.fn T B TC D2 D20 : FnOk P w K mg base CX0 3 f33 d33 ["ground", "numbers", "row"] _).mono (by decide), n33.fn.kp, b33⟩
  have A34 : Held P w K mg base 6 f34 (spAn C 11) := ⟨d34, _, (ok_give n34.fn T B : FnOk P w K mg base CX0 1 f34 d34 ["ground", "numbers", "row"] _).mono (by decide), n34.fn.kp, b34⟩
  have HA := held_all (P := P) (w := w) (K := K) (mg := mg) (base := base) (C := C) (k := 6) (ads := [f23, f24, f25, f26, f27, f28, f29, f30, f31, f32, f33, f34]) fun i f h => by
    match i, h with
    | 0, h => cases h; exact A23
    | 1, h => cases h; exact A24
    | 2, h => cases h; exact A25
    | 3, h => cases h; exact A26
    | 4, h => cases h; exact A27
    | 5, h => cases h; exact A28
    | 6, h => cases h; exact A29
    | 7, h => cases h; exact A30
    | 8, h => cases h; exact A31
    | 9, h => cases h; exact A32
    | 10, h => cases h; exact A33
    | 11, h => cases h; exact A34
    | i + 12, h => simp at h
  have D35 : Def P w K mg base 7 "answer_call" ["ground", "call", "numbers", "row"] _ f35 d35 := ⟨ok_call n35.fn T B TC TB rfl HA, n35.mg, n35.fn.kp, b35⟩
  refine (ok_answers (kk := 5) n36.fn T B TB MG GGI bGI D35).imp fun vs H Q E h => ?_
  obtain ⟨a, l, rfl, hS, hl, hask, q⟩ := h
  obtain ⟨cs, h1, h2, h3, h4⟩ := asked_dec hask
  refine ⟨a, l, cs, rfl, hS, hl, h1, fun c hc => ⟨h2 c hc, ?_⟩, h4, fun H' p hp => q H' p (by rw [h3]; exact hp)⟩
  exact idx_lt c
theorem all_mk {P : Program} {w : World} {K : PySem.W.Frag} {h : Heap} {mg : Str → Option Value} {fm C CP CB fa aa fPI fGI fBI f0 f1 f2 f3 f4 f5 f6 f7 f8 f9 f10 f11 f12 f13 f14 f15 f16 f17 f18 f19 f20 f21 f22 f23 f24 f25 f26 f27 f28 f29 f30 f31 f32 f33 f34 f35 f36 t0 t1 t2 t3 t4 t5 t6 t7 t8 t9 t10 t11 : Addr} {d0 d1 d2 d3 d4 d5 d6 d7 d8 d9 d10 d11 d12 d13 d14 d15 d16 d17 d18 d19 d20 d21 d22 d23 d24 d25 d26 d27 d28 d29 d30 d31 d32 d33 d34 d35 d36 : FuncData} (X : K.In h) (G : h.Ns mainGlobals mg) (hfm : mg "answers" = some (.ref fm))
    {odP anP odG anG odB anB dF dA : Option Addr} {slP slG slB slF slA : Array (Option Value)} {ocP kVP dcP pmP cdP ctP ocG kVG dcG pmG cdG ctG ocB kVB dcB pmB cdB ctB : Value} {nF nA : Nat} {c0 c1 c2 c3 c4 c5 c6 c7 c8 : Tok}
    {td0 td1 td2 td3 td4 td5 td6 td7 td8 td9 td10 td11 : Option Addr} {ts0 ts1 ts2 ts3 ts4 ts5 ts6 ts7 ts8 ts9 ts10 ts11 : Array (Option Value)} {tn0 tn1 tn2 tn3 tn4 tn5 tn6 tn7 tn8 tn9 tn10 tn11 : Nat} {u0 v0 w0 u1 v1 w1 u2 v2 w2 u3 v3 w3 u4 v4 w4 u5 v5 w5 u6 v6 w6 u7 v7 w7 u8 v8 w8 u9 v9 w9 u10 v10 w10 u11 v11 w11 : Tok}
    (hb0 : PySem.W.nsIn K mainGlobals "sum" = some none)
    (hb1 : PySem.W.nsIn K mainGlobals "len" = some none)
    (hb2 : PySem.W.nsIn K mainGlobals "range" = some none)
    (hb3 : PySem.W.nsIn K mainGlobals "min" = some none)
    (hb4 : PySem.W.nsIn K mainGlobals "max" = some none)
    (hb5 : PySem.W.nsIn K mainGlobals "zip" = some none)
    (hb6 : PySem.W.nsIn K mainGlobals "enumerate" = some none)
    (hb7 : PySem.W.nsIn K mainGlobals "list" = some none)
    (hb8 : PySem.W.nsIn K mainGlobals "any" = some none)
    (hc0 : PySem.W.nsIn K mainGlobals "NO_SLOT" = some (some (.int (-2) c0)))
    (hc1 : PySem.W.nsIn K mainGlobals "NOT_BEGUN" = some (some (.int (-11) c1)))
    (hc2 : PySem.W.nsIn K mainGlobals "WRONG_NUMBERS" = some (some (.int (-22) c2)))
    (hc3 : PySem.W.nsIn K mainGlobals "SLOT_COUNT" = some (some (.int (4) c3)))
    (hc4 : PySem.W.nsIn K mainGlobals "MOST_POINTS" = some (some (.int (6) c4)))
    (hc5 : PySem.W.nsIn K mainGlobals "MOST_WEIGHT" = some (some (.int (20) c5)))
    (hc6 : PySem.W.nsIn K mainGlobals "BEGIN" = some (some (.int (0) c6)))
    (hc7 : PySem.W.nsIn K mainGlobals "TOO_FINE" = some (some (.int (-75) c7)))
    (hc8 : PySem.W.nsIn K mainGlobals "MOST_PARTS" = some (some (.int (20) c8)))
    (gP : PySem.W.nsIn K mainGlobals "Pair" = some (some (.ref CP)))
    (pgP : PySem.W.plainGet K CP Str.empty = true)
    (hdP : PySem.W.hasDictIn K CP = true)
    (poP : PySem.W.plainOver K CP = true)
    (saP : PySem.W.findIn K (.ref CP) "__setattr__" = some (some (.builtin "object.__setattr__")))
    (mkP : PySem.W.makesIn K CP = true)
    (kcP : PySem.W.keepIn K (.ref CP) = true)
    (naP0 : PySem.W.findIn K (.ref CP) "total" = some none)
    (naP1 : PySem.W.findIn K (.ref CP) "first" = some none)
    (naP2 : PySem.W.findIn K (.ref CP) "second" = some none)
    (fiP : PySem.W.findIn K (.ref CP) "__init__" = some (some (.ref fPI)))
    (ifP : PySem.W.isFn K (.ref fPI) = true)
    (liP : K.lookup fPI = some ⟨ocP, odP, .func (PySem.W.fnOf "__init__" "Pair.__init__" (defArgs sPair) (defBody sPair) (defScope sPair) .none kVP dcP pmP anP cdP ctP), slP⟩)
    (ciP : PySem.W.codeIn K cdP "Pair.__init__" = true)
    (kiP : PySem.W.keepIn K (.ref fPI) = true)
    (gG : PySem.W.nsIn K mainGlobals "Ground" = some (some (.ref C)))
    (pgG : PySem.W.plainGet K C Str.empty = true)
    (hdG : PySem.W.hasDictIn K C = true)
    (poG : PySem.W.plainOver K C = true)
    (saG : PySem.W.findIn K (.ref C) "__setattr__" = some (some (.builtin "object.__setattr__")))
    (mkG : PySem.W.makesIn K C = true)
    (kcG : PySem.W.keepIn K (.ref C) = true)
    (naG0 : PySem.W.findIn K (.ref C) "points" = some none)
    (naG1 : PySem.W.findIn K (.ref C) "weights" = some none)
    (fiG : PySem.W.findIn K (.ref C) "__init__" = some (some (.ref fGI)))
    (ifG : PySem.W.isFn K (.ref fGI) = true)
    (liG : K.lookup fGI = some ⟨ocG, odG, .func (PySem.W.fnOf "__init__" "Ground.__init__" (defArgs sGInit) (defBody sGInit) (defScope sGInit) .none kVG dcG pmG anG cdG ctG), slG⟩)
    (ciG : PySem.W.codeIn K cdG "Ground.__init__" = true)
    (kiG : PySem.W.keepIn K (.ref fGI) = true)
    (gB : PySem.W.nsIn K mainGlobals "Behind" = some (some (.ref CB)))
    (pgB : PySem.W.plainGet K CB Str.empty = true)
    (hdB : PySem.W.hasDictIn K CB = true)
    (poB : PySem.W.plainOver K CB = true)
    (saB : PySem.W.findIn K (.ref CB) "__setattr__" = some (some (.builtin "object.__setattr__")))
    (mkB : PySem.W.makesIn K CB = true)
    (kcB : PySem.W.keepIn K (.ref CB) = true)
    (naB0 : PySem.W.findIn K (.ref CB) "rows" = some none)
    (naB1 : PySem.W.findIn K (.ref CB) "total" = some none)
    (fiB : PySem.W.findIn K (.ref CB) "__init__" = some (some (.ref fBI)))
    (ifB : PySem.W.isFn K (.ref fBI) = true)
    (liB : K.lookup fBI = some ⟨ocB, odB, .func (PySem.W.fnOf "__init__" "Behind.__init__" (defArgs sBehI) (defBody sBehI) (defScope sBehI) .none kVB dcB pmB anB cdB ctB), slB⟩)
    (ciB : PySem.W.codeIn K cdB "Behind.__init__" = true)
    (kiB : PySem.W.keepIn K (.ref fBI) = true)
    (hF : PySem.W.nsIn K mainGlobals "FORMS" = some (some (.ref fa)))
    (lF : K.lookup fa = some ⟨.type "tuple", dF, .seq #[.ref t0, .ref t1, .ref t2, .ref t3, .ref t4, .ref t5, .ref t6, .ref t7, .ref t8, .ref t9, .ref t10, .ref t11] nF, slF⟩)
    (lt0 : K.lookup t0 = some ⟨.type "tuple", td0, .seq #[.int 0 u0, .int 1 v0, .int 0 w0] tn0, ts0⟩)
    (lt1 : K.lookup t1 = some ⟨.type "tuple", td1, .seq #[.int 1 u1, .int 0 v1, .int 1 w1] tn1, ts1⟩)
    (lt2 : K.lookup t2 = some ⟨.type "tuple", td2, .seq #[.int 1 u2, .int 0 v2, .int 0 w2] tn2, ts2⟩)
    (lt3 : K.lookup t3 = some ⟨.type "tuple", td3, .seq #[.int 2 u3, .int 0 v3, .int 0 w3] tn3, ts3⟩)
    (lt4 : K.lookup t4 = some ⟨.type "tuple", td4, .seq #[.int 2 u4, .int 0 v4, .int 0 w4] tn4, ts4⟩)
    (lt5 : K.lookup t5 = some ⟨.type "tuple", td5, .seq #[.int 2 u5, .int 1 v5, .int 1 w5] tn5, ts5⟩)
    (lt6 : K.lookup t6 = some ⟨.type "tuple", td6, .seq #[.int 3 u6, .int 0 v6, .int 0 w6] tn6, ts6⟩)
    (lt7 : K.lookup t7 = some ⟨.type "tuple", td7, .seq #[.int 2 u7, .int 0 v7, .int 1 w7] tn7, ts7⟩)
    (lt8 : K.lookup t8 = some ⟨.type "tuple", td8, .seq #[.int 3 u8, .int 2 v8, .int 0 w8] tn8, ts8⟩)
    (lt9 : K.lookup t9 = some ⟨.type "tuple", td9, .seq #[.int 2 u9, .int 0 v9, .int 0 w9] tn9, ts9⟩)
    (lt10 : K.lookup t10 = some ⟨.type "tuple", td10, .seq #[.int 1 u10, .int 1 v10, .int 0 w10] tn10, ts10⟩)
    (lt11 : K.lookup t11 = some ⟨.type "tuple", td11, .seq #[.int 2 u11, .int 0 v11, .int 0 w11] tn11, ts11⟩)
    (n0 : FnAt K mg "greatest_in_common" sGcd f0 d0)
    (n1 : FnAt K mg "least_multiple" sLcm f1 d1)
    (n2 : FnAt K mg "told_fraction" sTF f2 d2)
    (n3 : FnAt K mg "told_fractions" sTFs f3 d3)
    (n4 : FnAt K mg "times" sTimes f4 d4)
    (n5 : FnAt K mg "surplus" sSurplus f5 d5)
    (n6 : FnAt K mg "set_number" sSetNo f6 d6)
    (n7 : FnAt K mg "pair_by_pair" sPBP f7 d7)
    (n8 : FnAt K mg "best_plan" sBest f8 d8)
    (n9 : FnAt K mg "differing" sDiff f9 d9)
    (n10 : FnAt K mg "in_rows" sInRows f10 d10)
    (n11 : FnAt K mg "in_one_row" sInOne f11 d11)
    (n12 : FnAt K mg "column_sum" sCol f12 d12)
    (n13 : FnAt K mg "is_plan" sIsPlan f13 d13)
    (n14 : FnAt K mg "factors_behind" sFac f14 d14)
    (n15 : FnAt K mg "rows_behind" sRowsB f15 d15)
    (n16 : FnAt K mg "least_weights" sLeast f16 d16)
    (n17 : FnAt K mg "image" sImage f17 d17)
    (n18 : FnAt K mg "mixture" sMixt f18 d18)
    (n19 : FnAt K mg "greatest_lower" sGLow f19 d19)
    (n20 : FnAt K mg "weight_in_set" sWSet f20 d20)
    (n21 : FnAt K mg "pair_of_slots" sPOS f21 d21)
    (n22 : FnAt K mg "told_plan" sTPlan f22 d22)
    (n23 : FnAt K mg "answer_begin" sABegin f23 d23)
    (n24 : FnAt K mg "answer_spread" sASpread f24 d24)
    (n25 : FnAt K mg "answer_told" sATold f25 d25)
    (n26 : FnAt K mg "answer_apart" sAApart f26 d26)
    (n27 : FnAt K mg "answer_plan" sAPlan f27 d27)
    (n28 : FnAt K mg "answer_test" sATest f28 d28)
    (n29 : FnAt K mg "answer_behind" sABehind f29 d29)
    (n30 : FnAt K mg "answer_image" sAImage f30 d30)
    (n31 : FnAt K mg "answer_mix" sAMix f31 d31)
    (n32 : FnAt K mg "answer_same" sASame f32 d32)
    (n33 : FnAt K mg "answer_set" sASet f33 d33)
    (n34 : FnAt K mg "answer_give" sAGive f34 d34)
    (n35 : FnAt K mg "answer_call" sACall f35 d35)
    (n36 : FnAt K mg "answers" sAnswers f36 d36)
    (hA : PySem.W.nsIn K mainGlobals "ANSWERING" = some (some (.ref aa)))
    (lA : K.lookup aa = some ⟨.type "tuple", dA, .seq #[.ref f23, .ref f24, .ref f25, .ref f26, .ref f27, .ref f28, .ref f29, .ref f30, .ref f31, .ref f32, .ref f33, .ref f34] nA, slA⟩)
    (ndA : ([f23, f24, f25, f26, f27, f28, f29, f30, f31, f32, f33, f34] : List Addr).Nodup)
    (bm : ∀ (s : Shared) (us : List Value), us.length = (["calls"] : List Str).length → BindsTo s d36 ⟨us, []⟩ ((["calls"] : List Str).zip us)) :
    ∃ fd : FuncData, (∀ (s : Shared) (us : List Value), us.length = (["calls"] : List Str).length → BindsTo s fd ⟨us, []⟩ ((["calls"] : List Str).zip us)) ∧ ∀ base : Heap, K.In base → base.Ns mainGlobals mg → FnOk P w K mg base CX0 8 fm fd ["calls"] (spAll K) := by
  have e := hfm.symm.trans n36.mg
  cases e
  have B : Blt mg := ⟨PySem.W.mg_none_of X G hb0, PySem.W.mg_none_of X G hb1, PySem.W.mg_none_of X G hb2, PySem.W.mg_none_of X G hb3, PySem.W.mg_none_of X G hb4, PySem.W.mg_none_of X G hb5, PySem.W.mg_none_of X G hb6, PySem.W.mg_none_of X G hb7, PySem.W.mg_none_of X G hb8⟩
  have TC : Consts mg := ⟨⟨_, PySem.W.mg_of X G hc0⟩, ⟨_, PySem.W.mg_of X G hc1⟩, ⟨_, PySem.W.mg_of X G hc2⟩, ⟨_, PySem.W.mg_of X G hc3⟩, ⟨_, PySem.W.mg_of X G hc4⟩, ⟨_, PySem.W.mg_of X G hc5⟩, ⟨_, PySem.W.mg_of X G hc6⟩, ⟨_, PySem.W.mg_of X G hc7⟩, ⟨_, PySem.W.mg_of X G hc8⟩⟩
  have TP : PairTxt K mg CP := ⟨⟨pgP, hdP, poP, saP⟩, naP0, naP1, naP2, PySem.W.mg_of X G gP⟩
  have TBh : BehTxt K mg CB := ⟨⟨pgB, hdB, poB, saB⟩, naB0, naB1, PySem.W.mg_of X G gB⟩
  have T : GTxt K mg C := ⟨⟨pgG, hdG, poG, saG⟩, naG0, naG1, PySem.W.mg_of X G gG⟩
  have TB : Tabs K mg fa aa [t0, t1, t2, t3, t4, t5, t6, t7, t8, t9, t10, t11] [f23, f24, f25, f26, f27, f28, f29, f30, f31, f32, f33, f34] := by
    refine ⟨PySem.W.mg_of X G hF, PySem.W.mg_of X G hA, fun H => sqt_of lF (by show 12 ≤ sizeLine; decide) (vals_refs [t0, t1, t2, t3, t4, t5, t6, t7, t8, t9, t10, t11]) H, rfl, fun H i t e => ?_, fun H => sqt_of lA (by show 12 ≤ sizeLine; decide) (vals_refs [f23, f24, f25, f26, f27, f28, f29, f30, f31, f32, f33, f34]) H, ndA⟩
    match i, e with
    | 0, e => cases e; exact sqt3 lt0 H
    | 1, e => cases e; exact sqt3 lt1 H
    | 2, e => cases e; exact sqt3 lt2 H
    | 3, e => cases e; exact sqt3 lt3 H
    | 4, e => cases e; exact sqt3 lt4 H
    | 5, e => cases e; exact sqt3 lt5 H
    | 6, e => cases e; exact sqt3 lt6 H
    | 7, e => cases e; exact sqt3 lt7 H
    | 8, e => cases e; exact sqt3 lt8 H
    | 9, e => cases e; exact sqt3 lt9 H
    | 10, e => cases e; exact sqt3 lt10 H
    | 11, e => cases e; exact sqt3 lt11 H
    | i + 12, e => simp at e
  exact ⟨_, bm, fun base _ _ => all_ok B TC TP TBh T TB ⟨mkP, fiP, ifP, kcP⟩ (fun_mk (st := sPair) liP ciP kiP) ⟨mkG, fiG, ifG, kcG⟩ (fun_mk (st := sGInit) liG ciG kiG) ⟨mkB, fiB, ifB, kcB⟩ (fun_mk (st := sBehI) liB ciB kiB) n0 n1 n2 n3 n4 n5 n6 n7 n8 n9 n10 n11 n12 n13 n14 n15 n16 n17 n18 n19 n20 n21 n22 n23 n24 n25 n26 n27 n28 n29 n30 n31 n32 n33 n34 n35 n36⟩
end TT
open PySem PySem.W PyProof.Rows
set_option maxRecDepth 100000 in
set_option maxHeartbeats 8000000 in
theorem PySem.Challenge.cw_throwntogether_s01_answers_holds : PySem.Challenge.rw_throwntogether_s01_answers.Holds := by
  w_on; k_headS; (case hw => exact ⟨[.list [.int 0, .int 1]], by decide +kernel, by decide +kernel⟩)
  k_fillS
  refine L2.walk_specK (r := PySem.Challenge.rw_throwntogether_s01_answers) (k := 8) (CX := L2.CX0) (ps := ["calls"]) (sp := TT.spAll) (by decide +kernel) rfl rfl ⟨rfl, by decide, by decide⟩ (fun w h Y => PySem.W.kIn_of Y) ?F ?S (fun _ _ _ _ z => z)
  case F =>
    intro w mg fm h Y KX G hmg
    refine' TT.all_mk KX G hmg ?q_hb0 ?q_hb1 ?q_hb2 ?q_hb3 ?q_hb4 ?q_hb5 ?q_hb6 ?q_hb7 ?q_hb8 ?q_hc0 ?q_hc1 ?q_hc2 ?q_hc3 ?q_hc4 ?q_hc5 ?q_hc6 ?q_hc7 ?q_hc8 ?q_gP ?q_pgP ?q_hdP ?q_poP ?q_saP ?q_mkP ?q_kcP ?q_naP0 ?q_naP1 ?q_naP2 ?q_fiP ?q_ifP ?q_liP ?q_ciP ?q_kiP ?q_gG ?q_pgG ?q_hdG ?q_poG ?q_saG ?q_mkG ?q_kcG ?q_naG0 ?q_naG1 ?q_fiG ?q_ifG ?q_liG ?q_ciG ?q_kiG ?q_gB ?q_pgB ?q_hdB ?q_poB ?q_saB ?q_mkB ?q_kcB ?q_naB0 ?q_naB1 ?q_fiB ?q_ifB ?q_liB ?q_ciB ?q_kiB ?q_hF ?q_lF ?q_lt0 ?q_lt1 ?q_lt2 ?q_lt3 ?q_lt4 ?q_lt5 ?q_lt6 ?q_lt7 ?q_lt8 ?q_lt9 ?q_lt10 ?q_lt11 (TT.fn_mk KX G ?qa0 ?ql0 ?qc0 ?qk0) (TT.fn_mk KX G ?qa1 ?ql1 ?qc1 ?qk1) (TT.fn_mk KX G ?qa2 ?ql2 ?qc2 ?qk2) (TT.fn_mk KX G ?qa3 ?ql3 ?qc3 ?qk3) (TT.fn_mk KX G ?qa4 ?ql4 ?qc4 ?qk4) (TT.fn_mk KX G ?qa5 ?ql5 ?qc5 ?qk5) (TT.fn_mk KX G ?qa6 ?ql6 ?qc6 ?qk6) (TT.fn_mk KX G ?qa7 ?ql7 ?qc7 ?qk7) (TT.fn_mk KX G ?qa8 ?ql8 ?qc8 ?qk8) (TT.fn_mk KX G ?qa9 ?ql9 ?qc9 ?qk9) (TT.fn_mk KX G ?qa10 ?ql10 ?qc10 ?qk10) (TT.fn_mk KX G ?qa11 ?ql11 ?qc11 ?qk11) (TT.fn_mk KX G ?qa12 ?ql12 ?qc12 ?qk12) (TT.fn_mk KX G ?qa13 ?ql13 ?qc13 ?qk13) (TT.fn_mk KX G ?qa14 ?ql14 ?qc14 ?qk14) (TT.fn_mk KX G ?qa15 ?ql15 ?qc15 ?qk15) (TT.fn_mk KX G ?qa16 ?ql16 ?qc16 ?qk16) (TT.fn_mk KX G ?qa17 ?ql17 ?qc17 ?qk17) (TT.fn_mk KX G ?qa18 ?ql18 ?qc18 ?qk18) (TT.fn_mk KX G ?qa19 ?ql19 ?qc19 ?qk19) (TT.fn_mk KX G ?qa20 ?ql20 ?qc20 ?qk20) (TT.fn_mk KX G ?qa21 ?ql21 ?qc21 ?qk21) (TT.fn_mk KX G ?qa22 ?ql22 ?qc22 ?qk22) (TT.fn_mk KX G ?qa23 ?ql23 ?qc23 ?qk23) (TT.fn_mk KX G ?qa24 ?ql24 ?qc24 ?qk24) (TT.fn_mk KX G ?qa25 ?ql25 ?qc25 ?qk25) (TT.fn_mk KX G ?qa26 ?ql26 ?qc26 ?qk26) (TT.fn_mk KX G ?qa27 ?ql27 ?qc27 ?qk27) (TT.fn_mk KX G ?qa28 ?ql28 ?qc28 ?qk28) (TT.fn_mk KX G ?qa29 ?ql29 ?qc29 ?qk29) (TT.fn_mk KX G ?qa30 ?ql30 ?qc30 ?qk30) (TT.fn_mk KX G ?qa31 ?ql31 ?qc31 ?qk31) (TT.fn_mk KX G ?qa32 ?ql32 ?qc32 ?qk32) (TT.fn_mk KX G ?qa33 ?ql33 ?qc33 ?qk33) (TT.fn_mk KX G ?qa34 ?ql34 ?qc34 ?qk34) (TT.fn_mk KX G ?qa35 ?ql35 ?qc35 ?qk35) (TT.fn_mk KX G ?qa36 ?ql36 ?qc36 ?qk36) ?q_hA ?q_lA ?q_nd ?q_bm
    (case q_hb0 => k_is); (case q_hb1 => k_is); (case q_hb2 => k_is); (case q_hb3 => k_is); (case q_hb4 => k_is); (case q_hb5 => k_is)
    (case q_hb6 => k_is); (case q_hb7 => k_is); (case q_hb8 => k_is); (case q_hc0 => k_is); (case q_hc1 => k_is); (case q_hc2 => k_is)
    (case q_hc3 => k_is); (case q_hc4 => k_is); (case q_hc5 => k_is); (case q_hc6 => k_is); (case q_hc7 => k_is); (case q_hc8 => k_is)
    (case q_gP => k_is); (case q_pgP => k_is); (case q_hdP => k_is); (case q_poP => k_is); (case q_saP => k_is); (case q_mkP => k_is)
    (case q_kcP => k_is); (case q_naP0 => k_is); (case q_naP1 => k_is); (case q_naP2 => k_is); (case q_fiP => k_is); (case q_ifP => k_is)
    (case q_liP => k_is); (case q_ciP => k_is); (case q_kiP => k_is); (case q_gG => k_is); (case q_pgG => k_is); (case q_hdG => k_is)
    (case q_poG => k_is); (case q_saG => k_is); (case q_mkG => k_is); (case q_kcG => k_is); (case q_naG0 => k_is); (case q_naG1 => k_is)
    (case q_fiG => k_is); (case q_ifG => k_is); (case q_liG => k_is); (case q_ciG => k_is); (case q_kiG => k_is); (case q_gB => k_is)
    (case q_pgB => k_is); (case q_hdB => k_is); (case q_poB => k_is); (case q_saB => k_is); (case q_mkB => k_is); (case q_kcB => k_is)
    (case q_naB0 => k_is); (case q_naB1 => k_is); (case q_fiB => k_is); (case q_ifB => k_is); (case q_liB => k_is); (case q_ciB => k_is)
    (case q_kiB => k_is); (case q_hF => k_is); (case q_lF => k_is); (case q_lt0 => k_is); (case q_lt1 => k_is); (case q_lt2 => k_is)
    (case q_lt3 => k_is); (case q_lt4 => k_is); (case q_lt5 => k_is); (case q_lt6 => k_is); (case q_lt7 => k_is); (case q_lt8 => k_is)
    (case q_lt9 => k_is); (case q_lt10 => k_is); (case q_lt11 => k_is); (case qa0 => k_is); (case ql0 => k_is); (case qc0 => k_is)
    (case qk0 => k_is); (case qa1 => k_is); (case ql1 => k_is); (case qc1 => k_is); (case qk1 => k_is); (case qa2 => k_is)
    (case ql2 => k_is); (case qc2 => k_is); (case qk2 => k_is); (case qa3 => k_is); (case ql3 => k_is); (case qc3 => k_is)
    (case qk3 => k_is); (case qa4 => k_is); (case ql4 => k_is); (case qc4 => k_is); (case qk4 => k_is); (case qa5 => k_is)
    (case ql5 => k_is); (case qc5 => k_is); (case qk5 => k_is); (case qa6 => k_is); (case ql6 => k_is); (case qc6 => k_is)
    (case qk6 => k_is); (case qa7 => k_is); (case ql7 => k_is); (case qc7 => k_is); (case qk7 => k_is); (case qa8 => k_is)
    (case ql8 => k_is); (case qc8 => k_is); (case qk8 => k_is); (case qa9 => k_is); (case ql9 => k_is); (case qc9 => k_is)
    (case qk9 => k_is); (case qa10 => k_is); (case ql10 => k_is); (case qc10 => k_is); (case qk10 => k_is); (case qa11 => k_is)
    (case ql11 => k_is); (case qc11 => k_is); (case qk11 => k_is); (case qa12 => k_is); (case ql12 => k_is); (case qc12 => k_is)
    (case qk12 => k_is); (case qa13 => k_is); (case ql13 => k_is); (case qc13 => k_is); (case qk13 => k_is); (case qa14 => k_is)
    (case ql14 => k_is); (case qc14 => k_is); (case qk14 => k_is); (case qa15 => k_is); (case ql15 => k_is); (case qc15 => k_is)
    (case qk15 => k_is); (case qa16 => k_is); (case ql16 => k_is); (case qc16 => k_is); (case qk16 => k_is); (case qa17 => k_is)
    (case ql17 => k_is); (case qc17 => k_is); (case qk17 => k_is); (case qa18 => k_is); (case ql18 => k_is); (case qc18 => k_is)
    (case qk18 => k_is); (case qa19 => k_is); (case ql19 => k_is); (case qc19 => k_is); (case qk19 => k_is); (case qa20 => k_is)
    (case ql20 => k_is); (case qc20 => k_is); (case qk20 => k_is); (case qa21 => k_is); (case ql21 => k_is); (case qc21 => k_is)
    (case qk21 => k_is); (case qa22 => k_is); (case ql22 => k_is); (case qc22 => k_is); (case qk22 => k_is); (case qa23 => k_is)
    (case ql23 => k_is); (case qc23 => k_is); (case qk23 => k_is); (case qa24 => k_is); (case ql24 => k_is); (case qc24 => k_is)
    (case qk24 => k_is); (case qa25 => k_is); (case ql25 => k_is); (case qc25 => k_is); (case qk25 => k_is); (case qa26 => k_is)
    (case ql26 => k_is); (case qc26 => k_is); (case qk26 => k_is); (case qa27 => k_is); (case ql27 => k_is); (case qc27 => k_is)
    (case qk27 => k_is); (case qa28 => k_is); (case ql28 => k_is); (case qc28 => k_is); (case qk28 => k_is); (case qa29 => k_is)
    (case ql29 => k_is); (case qc29 => k_is); (case qk29 => k_is); (case qa30 => k_is); (case ql30 => k_is); (case qc30 => k_is)
    (case qk30 => k_is); (case qa31 => k_is); (case ql31 => k_is); (case qc31 => k_is); (case qk31 => k_is); (case qa32 => k_is)
    (case ql32 => k_is); (case qc32 => k_is); (case qk32 => k_is); (case qa33 => k_is); (case ql33 => k_is); (case qc33 => k_is)
    (case qk33 => k_is); (case qa34 => k_is); (case ql34 => k_is); (case qc34 => k_is); (case qk34 => k_is); (case qa35 => k_is)
    (case ql35 => k_is); (case qc35 => k_is); (case qk35 => k_is); (case qa36 => k_is); (case ql36 => k_is); (case qc36 => k_is)
    (case qk36 => k_is); (case q_hA => k_is); (case q_lA => k_is)
    (case q_nd => decide)
    (case q_bm => exact fun s us hu => match us, hu with | [_], _ => .of_eq rfl)
  case S =>
    intro K H xs a hO hwi hask hx
    cases hx with
    | cons h1 h2 =>
      cases h2
      cases h1 with
      | lst hs ha =>
        have e := L2.ints_dw a.1 _ ha
        subst e
        have q : ((Codec.inLen 0 4600 a.1 && a.1.all (Codec.inInt (-2147483648) 2147483647)) && true) = true := hwi
        rw [Bool.and_eq_true, Bool.and_eq_true] at q
        exact ⟨_, a.1, rfl, hs, (Codec.inNat_iff.mp q.1.1).2, hask, fun H' p hp => .lst (L2.SqL.of hp) (L2.dw_ints _)⟩


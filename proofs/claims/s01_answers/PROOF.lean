import PyProof.Rows.All
import Wide.All
import OpenK.AllK
import Wide.FinOn
import KE.DatumOrd
import KE.DatumIndex
import HandS.SortKw
import HandS.ForMost
import HandS.Walk
import HandS.ForSpec
import HandS.Flow
import HandS.Deep
import KE.OsGo
import Open.SpecLaws
import PyWideLaws
import PySi93
import PySem.Challenge.RW_waitingballoons_s01_answers
set_option Elab.async false
set_option linter.unusedVariables false
set_option maxRecDepth 100000
set_option maxHeartbeats 2000000
namespace Wb
open Si93
/-! ### ranges -/
theorem findSome_range {α : Type} (g : Nat → Option α) (y : α) : ∀ (n i : Nat), (∀ j, j < i → g j = none) → g i = some y → i < n → (List.range n).findSome? g = some y := by
  intro n i h1 h2 h3
  rw [List.findSome?_eq_some_iff]
  refine ⟨List.range i, i, (List.range' (i + 1) (n - (i + 1))), ?_, h2, ?_⟩
  · have e : n = i + (1 + (n - (i + 1))) := by omega
    conv => lhs; rw [e, List.range_eq_range', ← List.range'_append_1, ← List.range'_append_1]
    simp [List.range_eq_range', List.range'_one]
  · intro x hx
    exact h1 x (List.mem_range.mp hx)
theorem findSome_range_none {α : Type} (g : Nat → Option α) (n : Nat) (h : ∀ j, j < n → g j = none) : (List.range n).findSome? g = none := by
  rw [List.findSome?_eq_none_iff]
  intro x hx
  exact h x (List.mem_range.mp hx)
theorem find_range {p : Nat → Bool} {n i : Nat} (h1 : ∀ j, j < i → p j = false) (h2 : p i = true) (h3 : i < n) : (List.range n).find? p = some i := by
  rw [List.find?_range_eq_some]
  refine ⟨h2, List.mem_range.mpr h3, fun j hj => ?_⟩
  simp [h1 j hj]
theorem find_range_none {p : Nat → Bool} {n : Nat} (h1 : ∀ j, j < n → p j = false) : (List.range n).find? p = none := by
  rw [List.find?_eq_none]
  intro x hx
  simp [h1 x (List.mem_range.mp hx)]
/-! ### all plans -/
theorem rows_snoc (k : Nat) : ∀ n, rows k (n + 1) = (rows k n).flatMap fun l => (List.range (k + 1)).map fun t => l ++ [t]
  | 0 => by
    simp [rows, List.map_eq_flatMap]
  | n + 1 => by
    have ih := rows_snoc k n
    show (List.range (k + 1)).flatMap (fun t => (rows k (n + 1)).map fun l => t :: l) = ((List.range (k + 1)).flatMap fun t => (rows k n).map fun l => t :: l).flatMap fun l => (List.range (k + 1)).map fun t => l ++ [t]
    rw [List.flatMap_assoc]
    congr 1
    funext t
    rw [ih, List.map_flatMap, List.flatMap_map]
    congr 1
    funext l
    rw [List.map_map]
    rfl
theorem rows_mem {k : Nat} : ∀ {n : Nat} {l : List Nat}, l ∈ rows k n → l.length = n ∧ ∀ x ∈ l, x ≤ k
  | 0, l, h => by
    have e : l = [] := by simpa [rows] using h
    subst e
    exact ⟨rfl, fun x hx => by cases hx⟩
  | n + 1, l, h => by
    have h' : l ∈ (List.range (k + 1)).flatMap fun t => (rows k n).map fun l => t :: l := h
    obtain ⟨t, ht, h2⟩ := List.mem_flatMap.mp h'
    obtain ⟨m, hm, rfl⟩ := List.mem_map.mp h2
    obtain ⟨i1, i2⟩ := rows_mem hm
    refine ⟨by simp [i1], fun x hx => ?_⟩
    rcases List.mem_cons.mp hx with e | hx
    · have := List.mem_range.mp ht
      omega
    · exact i2 x hx
theorem rows_len (k : Nat) : ∀ n, (rows k n).length = (k + 1) ^ n
  | 0 => rfl
  | n + 1 => by
    rw [rows_snoc, List.length_flatMap]
    simp only [List.length_map, List.length_range]
    rw [List.map_const', List.sum_replicate_nat, rows_len k n, Nat.pow_succ]
theorem told_rows {f : Field} {l : List Nat} (h : l ∈ rows f.waits f.count) : f.told l = true := by
  obtain ⟨h1, h2⟩ := rows_mem h
  unfold Field.told
  rw [Bool.and_eq_true]
  exact ⟨by simp [h1], List.all_eq_true.mpr fun x hx => decide_eq_true (h2 x hx)⟩
theorem plans_eq (f : Field) : f.plans = (rows f.waits f.count).filter fun l => (f.late l).isNone && (f.bad l).isNone := by
  unfold Field.plans
  refine List.filter_congr fun l hl => ?_
  unfold Field.right
  rw [told_rows hl, Bool.true_and]
/-! ### drift -/
theorem drift_snoc (f : Field) : ∀ (l : List Nat) (t : Nat) (p : Place) (h : Nat), f.drift t p (l ++ [h]) = ((f.drift t p l).1 + (f.wind (t + l.length) h).1, (f.drift t p l).2 + (f.wind (t + l.length) h).2)
  | [], t, p, h => rfl
  | x :: l, t, p, h => by
    show f.drift (t + 1) _ (l ++ [h]) = _
    rw [drift_snoc f l (t + 1)]
    show _ = ((f.drift (t + 1) (p.1 + (f.wind t x).1, p.2 + (f.wind t x).2) l).1 + _, _)
    have e : t + 1 + l.length = t + (x :: l).length := by simp; omega
    rw [e]
    rfl
def near9 (z : Int) (b : Int) : Prop := -b ≤ z ∧ z ≤ b
/-- what is so of a field as long as it lives -/
structure WF (f : Field) : Prop where
  h1 : 1 ≤ f.heights
  h4 : f.heights ≤ 4
  w3 : f.waits ≤ 3
  nr : f.near ≤ 1000
  hrs : f.winds.length ≤ 8
  wid : ∀ w ∈ f.winds, w.length = f.heights
  wnd : ∀ w ∈ f.winds, ∀ p ∈ w, near9 p.1 9 ∧ near9 p.2 9
  bal : f.balloons.length ≤ 4
  len : ∀ b ∈ f.balloons, b.flight.length ≤ 5
  hts : ∀ b ∈ f.balloons, ∀ h ∈ b.flight, h < f.heights
  pls : ∀ b ∈ f.balloons, near9 b.at_.1 100 ∧ near9 b.at_.2 100
theorem wf_init : WF init := by
  refine ⟨by decide, by decide, by decide, by decide, by decide, ?_, ?_, by decide, ?_, ?_, ?_⟩ <;> intro x hx <;> cases hx
theorem getD_mem {α : Type} (P : α → Prop) (l : List α) (i : Nat) (d : α) (hd : P d) (h : ∀ x ∈ l, P x) : P (l.getD i d) := by
  rw [List.getD_eq_getElem?_getD]
  cases e : l[i]? with
  | none => exact hd
  | some x => exact h x (List.mem_of_getElem? e)
theorem wind_bd {f : Field} (W : WF f) (t h : Nat) : near9 (f.wind t h).1 9 ∧ near9 (f.wind t h).2 9 := by
  unfold Field.wind
  have d0 : near9 ((0 : Int), (0 : Int)).1 9 ∧ near9 ((0 : Int), (0 : Int)).2 9 := ⟨⟨by decide, by decide⟩, by decide, by decide⟩
  refine getD_mem (fun p : Place => near9 p.1 9 ∧ near9 p.2 9) _ h _ d0 ?_
  exact getD_mem (fun w : List Place => ∀ p ∈ w, near9 p.1 9 ∧ near9 p.2 9) f.winds t [] (fun p hp => by cases hp) W.wnd
theorem drift_bd {f : Field} (W : WF f) : ∀ (l : List Nat) (t : Nat) (p : Place) (b : Int), near9 p.1 b → near9 p.2 b → near9 (f.drift t p l).1 (b + 9 * (l.length : Int)) ∧ near9 (f.drift t p l).2 (b + 9 * (l.length : Int))
  | [], t, p, b, h1, h2 => by
    unfold Field.drift
    simpa using ⟨h1, h2⟩
  | h :: l, t, p, b, h1, h2 => by
    obtain ⟨w1, w2⟩ := wind_bd W t h
    have e : b + 9 * ((h :: l).length : Int) = (b + 9) + 9 * (l.length : Int) := by
      rw [List.length_cons]
      omega
    rw [e]
    refine drift_bd W l (t + 1) _ (b + 9) ?_ ?_
    · unfold near9 at *
      show _ ≤ p.1 + (f.wind t h).1 ∧ p.1 + (f.wind t h).1 ≤ _
      omega
    · unfold near9 at *
      show _ ≤ p.2 + (f.wind t h).2 ∧ p.2 + (f.wind t h).2 ≤ _
      omega
/-! ### where a balloon is -/
def thereB (f : Field) (b : Balloon) (e t : Nat) : Option (Nat × Place) :=
  if e ≤ t ∧ t < e + b.flight.length then some (b.flight.getD (t - e) 0, f.drift e b.at_ (b.flight.take (t + 1 - e))) else none
theorem there_eq (f : Field) (i e t : Nat) : f.there i e t = thereB f (f.balloon i) e t := rfl
/-- what clash asks of two -/
def near2 (n : Nat) (x y : Option (Nat × Place)) : Bool := match x, y with
  | some x, some y => x.1 == y.1 && decide (between x.2 y.2 < n)
  | _, _ => false
theorem clash_eq (f : Field) (i e k d t : Nat) : f.clash i e k d t = near2 f.near (thereB f (f.balloon i) e t) (thereB f (f.balloon k) d t) := by
  unfold Field.clash near2
  rw [there_eq, there_eq]
  cases thereB f (f.balloon i) e t <;> cases thereB f (f.balloon k) d t <;> rfl
theorem between_lt (p q : Place) (n : Nat) : (between p q < n) ↔ ((p.1 - q.1) * (p.1 - q.1) + (p.2 - q.2) * (p.2 - q.2) < (n : Int)) := by
  unfold between
  have h1 : 0 ≤ (p.1 - q.1) * (p.1 - q.1) := by
    rcases Int.le_total 0 (p.1 - q.1) with h | h
    · exact Int.mul_nonneg h h
    · exact Int.mul_nonneg_of_nonpos_of_nonpos h h
  have h2 : 0 ≤ (p.2 - q.2) * (p.2 - q.2) := by
    rcases Int.le_total 0 (p.2 - q.2) with h | h
    · exact Int.mul_nonneg h h
    · exact Int.mul_nonneg_of_nonpos_of_nonpos h h
  generalize (p.1 - q.1) * (p.1 - q.1) = a at *
  generalize (p.2 - q.2) * (p.2 - q.2) = b at *
  omega
theorem thereB_some {f : Field} {b : Balloon} {e t : Nat} {x : Nat × Place} (h : thereB f b e t = some x) : ∃ i, i < b.flight.length ∧ t = e + i ∧ x.1 = b.flight.getD i 0 ∧ x.2 = f.drift e b.at_ (b.flight.take (i + 1)) := by
  unfold thereB at h
  by_cases c : e ≤ t ∧ t < e + b.flight.length
  · rw [if_pos c] at h
    cases h
    refine ⟨t - e, by omega, by omega, rfl, ?_⟩
    have e2 : t + 1 - e = t - e + 1 := by omega
    rw [e2]
  · rw [if_neg c] at h
    cases h
theorem thereB_at (f : Field) (b : Balloon) (e i : Nat) (h : i < b.flight.length) : thereB f b e (e + i) = some (b.flight.getD i 0, f.drift e b.at_ (b.flight.take (i + 1))) := by
  unfold thereB
  rw [if_pos (by omega)]
  have e1 : e + i - e = i := by omega
  have e2 : e + i + 1 - e = i + 1 := by omega
  rw [e1, e2]
theorem thereB_not (f : Field) (b : Balloon) (e t : Nat) (h : ∀ i, i < b.flight.length → t ≠ e + i) : thereB f b e t = none := by
  unfold thereB
  rw [if_neg]
  intro c
  exact h (t - e) (by omega) (by omega)
theorem there_bd {f : Field} (W : WF f) {b : Balloon} (hb : b ∈ f.balloons) {e t : Nat} {x : Nat × Place} (h : thereB f b e t = some x) : near9 x.2.1 145 ∧ near9 x.2.2 145 := by
  obtain ⟨i, hi, _, _, e2⟩ := thereB_some h
  have l5 := W.len b hb
  obtain ⟨p1, p2⟩ := W.pls b hb
  obtain ⟨q1, q2⟩ := drift_bd W (b.flight.take (i + 1)) e b.at_ 100 p1 p2
  have hl : (b.flight.take (i + 1)).length ≤ 5 := by
    rw [List.length_take]
    omega
  rw [← e2] at q1 q2
  unfold near9 at *
  omega
/-! ### late, bad -/
theorem late_some {f : Field} {l : List Nat} {i : Nat} (hi : i < f.count) (h : f.winds.length < l.getD i 0 + (f.balloon i).flight.length) (hn : ∀ j, j < i → ¬ f.winds.length < l.getD j 0 + (f.balloon j).flight.length) : f.late l = some i :=
  find_range (fun j hj => decide_eq_false (hn j hj)) (decide_eq_true h) hi
theorem late_none {f : Field} {l : List Nat} (hn : ∀ j, j < f.count → ¬ f.winds.length < l.getD j 0 + (f.balloon j).flight.length) : f.late l = none :=
  find_range_none fun j hj => decide_eq_false (hn j hj)
theorem late_fit {f : Field} {l : List Nat} (h : f.late l = none) {i : Nat} (hi : i < f.count) : l.getD i 0 + (f.balloon i).flight.length ≤ f.winds.length := by
  have q := List.find?_eq_none.mp h i (List.mem_range.mpr hi)
  simp only [decide_eq_true_eq] at q
  omega
def hit (f : Field) (l : List Nat) (t i k : Nat) : Bool := f.clash i (l.getD i 0) k (l.getD k 0) t
def seek3 (f : Field) (l : List Nat) (t i : Nat) : Option Nat := (List.range f.count).find? fun k => decide (i < k) && hit f l t i k
def seek2 (f : Field) (l : List Nat) (t : Nat) : Option (Nat × Nat) := (List.range f.count).findSome? fun i => (seek3 f l t i).map fun k => (i, k)
theorem bad_eq (f : Field) (l : List Nat) : f.bad l = (List.range f.winds.length).findSome? fun t => (seek2 f l t).map fun x => (t, x.1, x.2) := by
  unfold Field.bad
  rw [List.find?_flatMap]
  congr 1
  funext t
  rw [List.find?_map]
  congr 1
  unfold Field.pairs
  rw [List.find?_flatMap]
  unfold seek2
  congr 1
  funext i
  rw [List.find?_map, List.find?_filter]
  unfold seek3
  congr 1
  congr 1
  funext k
  show decide (decide (i < k) = true ∧ hit f l t i k = true) = (decide (i < k) && hit f l t i k)
  cases hit f l t i k <;> by_cases c : i < k <;> simp [c]
theorem seek3_some {f : Field} {l : List Nat} {t i k : Nat} (h1 : i < k) (h2 : k < f.count) (h3 : hit f l t i k = true) (hn : ∀ j, i < j → j < k → hit f l t i j = false) : seek3 f l t i = some k := by
  refine find_range (fun j hj => ?_) ?_ h2
  · by_cases c : i < j
    · rw [hn j c hj, Bool.and_false]
    · rw [decide_eq_false c, Bool.false_and]
  · rw [decide_eq_true h1, h3] <;> rfl
theorem seek3_none {f : Field} {l : List Nat} {t i : Nat} (hn : ∀ j, i < j → j < f.count → hit f l t i j = false) : seek3 f l t i = none := by
  refine find_range_none fun j hj => ?_
  by_cases c : i < j
  · rw [hn j c hj, Bool.and_false]
  · rw [decide_eq_false c, Bool.false_and]
theorem seek2_some {f : Field} {l : List Nat} {t i k : Nat} (hi : i < f.count) (h : seek3 f l t i = some k) (hn : ∀ j, j < i → seek3 f l t j = none) : seek2 f l t = some (i, k) := by
  refine findSome_range _ _ _ i (fun j hj => ?_) ?_ hi
  · (try dsimp only); rw [hn j hj] <;> rfl
  · (try dsimp only); rw [h] <;> rfl
theorem seek2_none {f : Field} {l : List Nat} {t : Nat} (hn : ∀ j, j < f.count → seek3 f l t j = none) : seek2 f l t = none := by
  refine findSome_range_none _ _ fun j hj => ?_
  (try dsimp only); rw [hn j hj] <;> rfl
theorem bad_some {f : Field} {l : List Nat} {t i k : Nat} (ht : t < f.winds.length) (h : seek2 f l t = some (i, k)) (hn : ∀ j, j < t → seek2 f l j = none) : f.bad l = some (t, i, k) := by
  rw [bad_eq]
  refine findSome_range _ _ _ t (fun j hj => ?_) ?_ ht
  · (try dsimp only); rw [hn j hj] <;> rfl
  · (try dsimp only); rw [h] <;> rfl
theorem bad_none {f : Field} {l : List Nat} (hn : ∀ j, j < f.winds.length → seek2 f l j = none) : f.bad l = none := by
  rw [bad_eq]
  refine findSome_range_none _ _ fun j hj => ?_
  (try dsimp only); rw [hn j hj] <;> rfl
end Wb
namespace Wb
open Si93
/-! ### the greatest -/
def maxL : List Int → Int
  | [] => 0
  | x :: xs => xs.foldl max x
theorem foldl_max_cast : ∀ (l : List Nat) (a : Nat), (l.map fun (n : Nat) => (n : Int)).foldl max (a : Int) = ((l.foldl max a : Nat) : Int)
  | [], a => rfl
  | x :: l, a => by
    rw [List.map_cons, List.foldl_cons, List.foldl_cons, ← foldl_max_cast l]
    congr 1
    omega
theorem maxL_nat (l : List Nat) : maxL (l.map fun (n : Nat) => (n : Int)) = ((l.foldl max 0 : Nat) : Int) := by
  cases l with
  | nil => rfl
  | cons x l =>
    show (l.map fun (n : Nat) => (n : Int)).foldl max (x : Int) = _
    rw [foldl_max_cast, List.foldl_cons, Nat.zero_max]
theorem foldl_max_le (w : Nat) : ∀ (l : List Nat) (a : Nat), l.foldl max a ≤ w ↔ a ≤ w ∧ ∀ x ∈ l, x ≤ w
  | [], a => by simp
  | x :: l, a => by
    rw [List.foldl_cons, foldl_max_le w l]
    simp only [List.mem_cons, forall_eq_or_imp]
    constructor
    · rintro ⟨h1, h2⟩
      exact ⟨by omega, by omega, h2⟩
    · rintro ⟨h1, h2, h3⟩
      exact ⟨by omega, h3⟩
theorem down_eq (f : Field) (l : List Nat) : ((f.down l : Nat) : Int) = maxL (((List.range f.count).map fun i => l.getD i 0 + (f.balloon i).flight.length).map fun (n : Nat) => (n : Int)) := by
  rw [maxL_nat] <;> rfl
/-! ### the best -/
def stepB (g h : List Nat → Nat) (r : Option Best) (l : List Nat) : Option Best := match r with
  | none => some ⟨g l, h l, 1, l⟩
  | some x => if better (g l) (h l) x.first x.second = true then some ⟨g l, h l, 1, l⟩ else if g l = x.first ∧ h l = x.second then some { x with many := x.many + 1 } else some x
theorem bestBy_fold (f : Field) (g h : List Nat → Nat) : f.bestBy g h = f.plans.foldl (stepB g h) none := rfl
theorem better_iff (a b c d : Nat) : better a b c d = true ↔ a < c ∨ (a = c ∧ b < d) := by
  unfold better
  simp
theorem better_not (a b c d : Nat) : better a b c d = false ↔ ¬ (a < c ∨ (a = c ∧ b < d)) := by
  rw [← better_iff]
  simp
theorem stepB_worse {g h : List Nat → Nat} {a b n : Nat} {row : List Nat} : ∀ (ps : List (List Nat)) (n : Nat), (∀ l ∈ ps, better (g l) (h l) a b = false) →
    ps.foldl (stepB g h) (some ⟨a, b, n, row⟩) = some ⟨a, b, n + ps.countP (fun l => g l == a && h l == b), row⟩
  | [], n, _ => rfl
  | l :: ps, n, hm => by
    have h1 := hm l (List.mem_cons_self ..)
    have ih := fun k => stepB_worse (a := a) (b := b) (n := n) (row := row) ps k fun x hx => hm x (List.mem_cons_of_mem _ hx)
    rw [List.foldl_cons]
    have e : stepB g h (some ⟨a, b, n, row⟩) l = if g l = a ∧ h l = b then some ⟨a, b, n + 1, row⟩ else some ⟨a, b, n, row⟩ := by
      show (if better (g l) (h l) a b = true then _ else _) = _
      rw [h1, if_neg Bool.false_ne_true]
    rw [e, List.countP_cons]
    by_cases c : g l = a ∧ h l = b
    · rw [if_pos c, ih]
      have e2 : (g l == a && h l == b) = true := by simp [c.1, c.2]
      rw [if_pos e2]
      congr 2
      omega
    · rw [if_neg c, ih]
      have e2 : ¬ (g l == a && h l == b) = true := by simpa using c
      rw [if_neg e2]
      rfl
theorem stepB_before {g h : List Nat → Nat} {a b : Nat} : ∀ (ps : List (List Nat)) (r : Option Best), (∀ l ∈ ps, better a b (g l) (h l) = true) → (∀ x, r = some x → better a b x.first x.second = true) →
    ∀ x, ps.foldl (stepB g h) r = some x → better a b x.first x.second = true
  | [], r, _, hr => hr
  | l :: ps, r, hm, hr => by
    rw [List.foldl_cons]
    refine stepB_before ps _ (fun x hx => hm x (List.mem_cons_of_mem _ hx)) fun x hx => ?_
    have h1 := hm l (List.mem_cons_self ..)
    cases r with
    | none =>
      have e : (⟨g l, h l, 1, l⟩ : Best) = x := Option.some.inj hx
      subst e
      exact h1
    | some y =>
      have hy := hr y rfl
      have hx' : (if better (g l) (h l) y.first y.second = true then some (⟨g l, h l, 1, l⟩ : Best) else if g l = y.first ∧ h l = y.second then some { y with many := y.many + 1 } else some y) = some x := hx
      by_cases c : better (g l) (h l) y.first y.second = true
      · rw [if_pos c] at hx'
        cases hx'
        exact h1
      · rw [if_neg c] at hx'
        by_cases c2 : g l = y.first ∧ h l = y.second
        · rw [if_pos c2] at hx'
          cases hx'
          exact hy
        · rw [if_neg c2] at hx'
          cases hx'
          exact hy
theorem bestBy_is {g h : List Nat → Nat} {ps : List (List Nat)} {a b j : Nat} {row : List Nat} (hj : ps[j]? = some row) (ha : g row = a) (hb : h row = b) (hmin : ∀ l ∈ ps, better (g l) (h l) a b = false)
    (hfirst : ∀ i, i < j → ∀ l, ps[i]? = some l → ¬ (g l = a ∧ h l = b)) : ps.foldl (stepB g h) none = some ⟨a, b, ps.countP (fun l => g l == a && h l == b), row⟩ := by
  obtain ⟨hlt, hrow⟩ := List.getElem?_eq_some_iff.mp hj
  have e : ps = ps.take j ++ row :: ps.drop (j + 1) := by
    rw [← hrow, List.getElem_cons_drop, List.take_append_drop]
  have hb0 : ∀ l ∈ ps.take j, better a b (g l) (h l) = true := fun l hl => by
    obtain ⟨i, hi, rfl⟩ := List.mem_iff_getElem.mp hl
    rw [List.length_take] at hi
    have hi2 : i < ps.length := by omega
    have q1 := hfirst i (by omega) _ (List.getElem?_eq_getElem hi2)
    have q2 := hmin _ (List.getElem_mem hi2)
    rw [List.getElem_take]
    rw [better_iff]
    rw [better_not] at q2
    omega
  have hc0 : (ps.take j).countP (fun l => g l == a && h l == b) = 0 := by
    rw [List.countP_eq_zero]
    intro l hl q
    have := hb0 l hl
    rw [better_iff] at this
    simp only [Bool.and_eq_true, beq_iff_eq] at q
    omega
  have hcnt : ps.countP (fun l => g l == a && h l == b) = 1 + (ps.drop (j + 1)).countP (fun l => g l == a && h l == b) := by
    conv => lhs; rw [e]
    rw [List.countP_append, hc0, List.countP_cons]
    simp [ha, hb]
    omega
  rw [hcnt]
  conv => lhs; rw [e]
  rw [List.foldl_append, List.foldl_cons]
  have hs : stepB g h ((ps.take j).foldl (stepB g h) none) row = some ⟨a, b, 1, row⟩ := by
    cases q : (ps.take j).foldl (stepB g h) none with
    | none =>
      show some (⟨g row, h row, 1, row⟩ : Best) = _
      rw [ha, hb]
    | some x =>
      have hx := stepB_before (a := a) (b := b) (ps.take j) none hb0 (fun x hx => by cases hx) x q
      show (if better (g row) (h row) x.first x.second = true then some (⟨g row, h row, 1, row⟩ : Best) else _) = _
      rw [ha, hb, if_pos hx]
  rw [hs]
  exact stepB_worse (n := 0) _ 1 fun l hl => hmin l (List.mem_of_mem_drop hl)
/-! ### winds from numbers -/
theorem pairs_eq : ∀ (n : Nat) (w : List Nat), w.length = 2 * n → pairsOf w = (List.range n).map fun h => (Si93.told (w.getD (2 * h) 0) 9, Si93.told (w.getD (2 * h + 1) 0) 9)
  | 0, w, h => by
    have e : w = [] := List.eq_nil_of_length_eq_zero (by omega)
    subst e
    rfl
  | n + 1, w, h => by
    match w, h with
    | [], h => simp at h
    | [a], h => simp at h; omega
    | a :: b :: l, h =>
      have hl : l.length = 2 * n := by
        simp only [List.length_cons] at h
        omega
      show (Si93.told a 9, Si93.told b 9) :: pairsOf l = _
      rw [pairs_eq n l hl, List.range_succ_eq_map, List.map_cons, List.map_map]
      congr 1
theorem pairs_bd : ∀ (n : Nat) (w : List Nat), w.length = 2 * n → (∀ x ∈ w, x ≤ 18) → ∀ p ∈ pairsOf w, near9 p.1 9 ∧ near9 p.2 9
  | 0, w, h, _ => by
    have e : w = [] := List.eq_nil_of_length_eq_zero (by omega)
    subst e
    intro p hp
    cases hp
  | n + 1, w, h, hw => by
    match w, h, hw with
    | [], h, _ => simp at h
    | [a], h, _ => simp at h; omega
    | a :: b :: l, h, hw =>
      have hl : l.length = 2 * n := by
        simp only [List.length_cons] at h
        omega
      have ha := hw a (by simp)
      have hb := hw b (by simp)
      intro p hp
      have hp' : p ∈ (Si93.told a 9, Si93.told b 9) :: pairsOf l := hp
      rcases List.mem_cons.mp hp' with e | hp'
      · subst e
        unfold Si93.told near9
        show (-9 ≤ (a : Int) - ((9 : Nat) : Int) ∧ _) ∧ (-9 ≤ (b : Int) - ((9 : Nat) : Int) ∧ _)
        omega
      · exact pairs_bd n l hl (fun x hx => hw x (by simp [hx])) p hp'
theorem pairs_len (n : Nat) (w : List Nat) (h : w.length = 2 * n) : (pairsOf w).length = n := by
  rw [pairs_eq n w h]
  simp
/-! ### the state stays well -/
theorem wf_begins {h d w : Nat} (c : ¬ (h < 1 ∨ HEIGHTS < h ∨ 1000 < d ∨ WAITS < w)) : WF ⟨h, d, w, [], []⟩ := by
  have e1 : HEIGHTS = 4 := rfl
  have e2 : WAITS = 3 := rfl
  rw [e1, e2] at c
  refine ⟨?_, ?_, ?_, ?_, ?_, ?_, ?_, ?_, ?_, ?_, ?_⟩ <;> simp only [List.length_nil]
  · omega
  · omega
  · omega
  · omega
  · omega
  · intro x hx; cases hx
  · intro x hx; cases hx
  · omega
  · intro x hx; cases hx
  · intro x hx; cases hx
  · intro x hx; cases hx
theorem wf_hour {f : Field} (W : WF f) {w : List Nat} (h1 : w.length = 2 * f.heights) (h2 : ∀ x ∈ w, x ≤ 18) (h3 : f.winds.length < 8) : WF { f with winds := f.winds ++ [pairsOf w] } := by
  refine ⟨W.h1, W.h4, W.w3, W.nr, ?_, ?_, ?_, W.bal, W.len, W.hts, W.pls⟩
  · show (f.winds ++ [pairsOf w]).length ≤ 8
    simp
    omega
  · intro x hx
    have hx' : x ∈ f.winds ++ [pairsOf w] := hx
    rcases List.mem_append.mp hx' with hx' | hx'
    · exact W.wid x hx'
    · rw [List.mem_singleton.mp hx']
      exact pairs_len _ _ h1
  · intro x hx
    have hx' : x ∈ f.winds ++ [pairsOf w] := hx
    rcases List.mem_append.mp hx' with hx' | hx'
    · exact W.wnd x hx'
    · rw [List.mem_singleton.mp hx']
      exact pairs_bd _ _ h1 h2
theorem wf_balloon {f : Field} (W : WF f) {x y : Nat} {l : List Nat} (hx : x ≤ 200) (hy : y ≤ 200) (h1 : l.length ≤ 5) (h2 : ∀ h ∈ l, h < f.heights) (h3 : f.balloons.length < 4) :
    WF { f with balloons := f.balloons ++ [⟨(Si93.told x 100, Si93.told y 100), l⟩] } := by
  have at_ : ∀ (P : Balloon → Prop), (∀ b ∈ f.balloons, P b) → P ⟨(Si93.told x 100, Si93.told y 100), l⟩ → ∀ b ∈ f.balloons ++ [⟨(Si93.told x 100, Si93.told y 100), l⟩], P b := fun P a b c hc => by
    rcases List.mem_append.mp hc with hc | hc
    · exact a c hc
    · rw [List.mem_singleton.mp hc]
      exact b
  refine ⟨W.h1, W.h4, W.w3, W.nr, W.hrs, W.wid, W.wnd, ?_, ?_, ?_, ?_⟩
  · show (f.balloons ++ [_]).length ≤ 4
    simp
    omega
  · exact at_ _ W.len h1
  · exact at_ _ W.hts h2
  · refine at_ _ W.pls ?_
    show (-100 ≤ (x : Int) - ((100 : Nat) : Int) ∧ (x : Int) - ((100 : Nat) : Int) ≤ 100) ∧ (-100 ≤ (y : Int) - ((100 : Nat) : Int) ∧ (y : Int) - ((100 : Nat) : Int) ≤ 100)
    omega
/-! ### calls from numbers -/
def ofNats (l : List Nat) : List Int := l.map fun (n : Nat) => (n : Int)
theorem ofNats_toNat (l : List Nat) : (ofNats l).map Int.toNat = l := by
  unfold ofNats
  rw [List.map_map]
  have e : (Int.toNat ∘ fun (n : Nat) => (n : Int)) = id := by
    funext n
    simp
  rw [e, List.map_id]
theorem nats_of : ∀ l : List Int, (∀ z ∈ l, 0 ≤ z) → l = ofNats (l.map Int.toNat)
  | [], _ => rfl
  | z :: l, h => by
    have h1 := h z (List.mem_cons_self ..)
    have h2 := nats_of l fun x hx => h x (List.mem_cons_of_mem _ hx)
    show z :: l = ((z.toNat : Nat) : Int) :: ofNats (l.map Int.toNat)
    rw [← h2]
    congr 1
    omega
/-- a call: its number, what is told -/
abbrev Cal := Nat × List Nat
def row (q : Cal) : List Int := ofNats (q.1 :: q.2)
def callN (q : Cal) : Option Call := Si93Neutral.callOf (row q)
theorem callN_eq (q : Cal) : callN q = match q.1 :: q.2 with
  | [0, h, d, w] => some (.begins h d w)
  | 1 :: r => if r.length ≤ 10 then some (.hour r) else none
  | 2 :: x :: y :: r => if r.length ≤ 8 then some (.balloon x y r) else none
  | 3 :: r => if r.length ≤ 6 then some (.check r) else none
  | [4] => some .best
  | [5] => some .soonest
  | [6, i, e] => some (.lands i e)
  | _ => none := by
  unfold callN Si93Neutral.callOf row
  rw [ofNats_toNat] <;> rfl
/-- which call it is -/
inductive Kind : Cal → Call → Prop
  | begins (h d w : Nat) : Kind (0, [h, d, w]) (.begins h d w)
  | hour (r : List Nat) : r.length ≤ 10 → Kind (1, r) (.hour r)
  | balloon (x y : Nat) (r : List Nat) : r.length ≤ 8 → Kind (2, x :: y :: r) (.balloon x y r)
  | check (r : List Nat) : r.length ≤ 6 → Kind (3, r) (.check r)
  | best : Kind (4, []) .best
  | soonest : Kind (5, []) .soonest
  | lands (i e : Nat) : Kind (6, [i, e]) (.lands i e)
theorem kind_of {q : Cal} {c : Call} (h : callN q = some c) : Kind q c := by
  rw [callN_eq] at h
  obtain ⟨k, ts⟩ := q
  simp only at h
  split at h
  any_goals (rename_i e; obtain ⟨e1, e2⟩ := List.cons.inj e; subst e1)
  · subst e2; cases h; exact .begins _ _ _
  · subst e2
    split at h
    · cases h; exact .hour _ (by assumption)
    · cases h
  · subst e2
    split at h
    · cases h; exact .balloon _ _ _ (by assumption)
    · cases h
  · subst e2
    split at h
    · cases h; exact .check _ (by assumption)
    · cases h
  · subst e2; cases h; exact .best
  · subst e2; cases h; exact .soonest
  · subst e2; cases h; exact .lands _ _
  · cases h
def enc1 (q : Cal) : List Int := (q.1 : Int) :: (q.2.length : Int) :: (ofNats q.2 ++ [0])
def encs (qs : List Cal) : List Int := qs.flatMap enc1
theorem asked_kinds {cs : List (List (List Int))} (h1 : ∀ c ∈ cs, PyWide.okCall c) (h2 : cs.all Si93Neutral.asked1 = true) : ∃ qs : List Cal, cs = qs.map (fun q => [row q]) ∧ PyWide.put cs = encs qs ∧ ∀ q ∈ qs, ∃ c, callN q = some c := by
  induction cs with
  | nil => exact ⟨[], rfl, rfl, fun q hq => by cases hq⟩
  | cons c cs ih =>
    rw [List.all_cons, Bool.and_eq_true] at h2
    obtain ⟨qs, e1, e2, e3⟩ := ih (fun d hd => h1 d (List.mem_cons_of_mem _ hd)) h2.2
    obtain ⟨p, ns, xs, rfl⟩ := h1 c (List.mem_cons_self ..)
    have h3 : (((p :: ns) :: xs).length == 1 && ((p :: ns).all (fun (z : Int) => Si93Neutral.natural z 32) && (Si93Neutral.callOf (p :: ns)).isSome)) = true := h2.1
    rw [Bool.and_eq_true, Bool.and_eq_true] at h3
    obtain ⟨h4, h5, h6⟩ := h3
    have hx : xs = [] := by
      simpa using h4
    subst hx
    have h7 : ∀ z ∈ p :: ns, 0 ≤ z := fun z hz => by
      have := List.all_eq_true.mp h5 z hz
      unfold Si93Neutral.natural at this
      rw [Bool.and_eq_true] at this
      exact of_decide_eq_true this.1
    have e := nats_of (p :: ns) h7
    have er : row (p.toNat, ns.map Int.toNat) = p :: ns := e.symm
    have en : ofNats (ns.map Int.toNat) = ns := (nats_of ns fun z hz => h7 z (List.mem_cons_of_mem _ hz)).symm
    have ep : ((p.toNat : Nat) : Int) = p := by
      have := h7 p (List.mem_cons_self ..)
      omega
    refine ⟨(p.toNat, ns.map Int.toNat) :: qs, ?_, ?_, ?_⟩
    · rw [List.map_cons, er, ← e1]
    · show PyWide.put1 [p :: ns] ++ PyWide.put cs = enc1 _ ++ encs qs
      rw [e2]
      congr 1
      show p :: (PyFlat.putRow ns ++ (((0 : Nat) : Int) :: [])) = ((p.toNat : Nat) : Int) :: (((ns.map Int.toNat).length : Nat) : Int) :: (ofNats (ns.map Int.toNat) ++ [0])
      rw [ep, en, List.length_map]
      rfl
    · intro q hq
      rcases List.mem_cons.mp hq with rfl | hq
      · unfold callN
        rw [er]
        exact Option.isSome_iff_exists.mp h6
      · exact e3 q hq
theorem encs_cons (q : Cal) (qs : List Cal) : encs (q :: qs) = enc1 q ++ encs qs := rfl
theorem enc1_len (q : Cal) : (enc1 q).length = q.2.length + 3 := by
  unfold enc1 ofNats
  simp
theorem drop_at {ns : List Int} {p : Nat} {q : Cal} {r : List Int} (h : ns.drop p = enc1 q ++ r) : ns[p]? = some (q.1 : Int) ∧ ns[p + 1]? = some (q.2.length : Int) ∧ (ns.drop (p + 2)).take q.2.length = ofNats q.2 ∧ ns.drop (p + (q.2.length + 3)) = r := by
  have hl : (ofNats q.2).length = q.2.length := by
    unfold ofNats
    simp
  have h0 : ∀ i, ns[p + i]? = (enc1 q ++ r)[i]? := fun i => by rw [← h, List.getElem?_drop]
  refine ⟨?_, ?_, ?_, ?_⟩
  · have := h0 0
    rw [Nat.add_zero] at this
    rw [this]
    rfl
  · rw [h0 1]
    rfl
  · rw [← List.drop_drop, h]
    show ((ofNats q.2 ++ [0]) ++ r).take q.2.length = _
    rw [List.append_assoc, ← hl, List.take_left]
  · rw [← List.drop_drop, h, ← enc1_len, List.drop_left]
end Wb
namespace Wb
open PySem PySem.Spec PyProof.Rows L2
open PySem.W (minOf maxOf Holds HoldAll DatumOrd)
/-! ### a call of what an expression gives: one of several defs -/
/-- the def at f keeps sp and may be called by its parameters alone -/
def Keeps (P : Program) (w : World) (K : PySem.W.Frag) (mg : Str → Option Value) (base : Heap) (k : Nat) (f : Addr) (sp : Sp) : Prop :=
  ∃ (fd : FuncData) (ps : List Str), FnOk P w K mg base CX0 k f fd ps sp ∧ PySem.W.keepIn K (.ref f) = true ∧ Binds K fd ps []
def tCallE (S : Addr → Sp → Prop) (tf : TE) (t : TA) : TE := fun σ H R => tf σ H fun v H1 => ∃ f sp, v = .ref f ∧ S f sp ∧ t σ H1 fun vs H2 => sp vs H2 R E0
section
variable {X : Cx} {k : Nat} {fe e : Expr} {es : List Expr} {pos : Pos} {tf : TE} {t : TA} {S : Addr → Sp → Prop}
theorem pe_callE (hf : PE X fe tf) (A : ∀ f sp, S f sp → Keeps X.prog X.w X.K X.mg X.base k f sp) (hr : Room k X.A) (ha : PA X (e :: es) t)
    (ht : eval (.Call fe (e :: es) [] pos) X.env = (do
      let g ← eval fe X.env
      callWith pos g [] (backTo pos (starEach (e :: es) X.env)) (backToKw pos (keywordEach [] X.env))) := by rfl)
    (he : starEach (e :: es) X.env = (false, eval e X.env) :: starEach es X.env := by rfl) (hpl : (backTo pos (starEach es X.env)).any (·.1) = false := by rfl) : PE X (.Call fe (e :: es) [] pos) (tCallE S tf t) := by
  refine ⟨fun pins s σ H R I h => ?_⟩
  refine Call_ (thn (hf.run pins s σ H _ I h) fun u s1 ⟨y, H1, I1, ry, f, sp, ey, hS, q⟩ => ?_) ht
  subst ey
  obtain rfl : u = Value.ref f := ry
  obtain ⟨fd, ps, F, hk, hb⟩ := A f sp hS
  refine PySem.W.callWith_K (h₀ := X.base) I1.ok.mod.kin hk (thn (ha.run pos pins s1 σ H1 _ I1 q) fun us s2 ⟨vs, H2, I2, r, q2⟩ => ⟨I2.kIn, ?_⟩) he hpl
  refine run_fn (us := us) (dvs := []) F hr hb .nil pass0 I2 r ?_
  rw [List.append_nil]
  exact q2
end
/-! ### max(xs, default=0) of ints -/
theorem maxOf_ints (x : Int) (xs : List Int) : maxOf x xs = maxL (x :: xs) := by
  show xs.foldl (fun a y => if DatumOrd.lt a y = true then y else a) x = xs.foldl max x
  induction xs generalizing x with
  | nil => rfl
  | cons y ys ih =>
    rw [List.foldl_cons, List.foldl_cons, ih]
    congr 1
    show (if decide (x < y) = true then y else x) = max x y
    by_cases c : x < y
    · rw [if_pos (decide_eq_true c)]
      omega
    · rw [if_neg (by simpa using c)]
      omega
def rMaxD0 (K : PySem.W.Frag) : List V → List V → Hp → VK → Prop := fun vs zs H R => ∃ (a : Addr) (ns : List Int), vs = [V.ref a] ∧ zs = [V.int 0] ∧ SqL K H a (ns.map V.int) ∧ R (.int (maxL ns)) H
section
variable {X : Cx}
theorem cr_maxD0 (hc : X.calm = true) (hu : X.A.units + 1 < cLine) : CallRK X (.builtin "max") [Str.ofString "default"] (rMaxD0 X.K) := by
  intro pins s σ H vs zs us ws R I r rz h
  obtain ⟨a, ns, rfl, rfl, hs, q⟩ := h
  obtain ⟨its, rv, hl, _⟩ := I.list hs
  obtain rfl := Vals.ref1 r
  obtain ⟨w1, rfl, e1⟩ := vals1 rz
  obtain ⟨t, rfl⟩ := e1
  refine PySem.W.max_list_datum_default (α := Int) (I.ok.hd hc) hl.isList (HoldAll.of_ints rv.ints) (by show X.A.units + 1 + 0 < cLine; omega) (fun e h' tk hk => ?_) fun y ys i v h' tk e hi hv hk => ?_
  · subst e
    exact ⟨.int _, H, I.kept hk, ⟨_, rfl⟩, q⟩
  · subst e
    obtain ⟨t2, rfl⟩ := PySem.W.int_of_holds hv
    refine ⟨.int _, H, I.kept hk, ⟨t2, ?_⟩, q⟩
    rw [maxOf_ints]
end
/-! ### lists of lists of ints: min, count, index -/
/-- at q there is a list of just these -/
def IntsAt (K : PySem.W.Frag) (H : Hp) (q : Addr) (l : List Int) : Prop := SqL K H q (l.map V.int)
theorem holdAll_refs {X : Cx} {pins : List (Addr × Obj)} {s : Shared} {σ : L2.St} {H : Hp} (I : Inv X pins σ H s) : ∀ {qs : List Addr} {ls : List (List Int)} {its : List Value}, Paired (IntsAt X.K H) qs ls → Vals (qs.map V.ref) its → HoldAll s.heap its ls
  | [], [], its, .nil, r => by
    cases r
    exact HoldAll.nil
  | q :: qs, l :: ls, its, .cons h t, r => by
    cases r with
    | cons r1 r2 =>
      obtain rfl := r1
      obtain ⟨js, rv, hl, _⟩ := I.list h
      exact HoldAll.cons (PySem.W.holds_list hl.isList (HoldAll.of_ints rv.ints)) (holdAll_refs I t r2)
theorem holds_ref {X : Cx} {pins : List (Addr × Obj)} {s : Shared} {σ : L2.St} {H : Hp} (I : Inv X pins σ H s) {q : Addr} {l : List Int} (h : IntsAt X.K H q l) : Holds s.heap (.ref q) l := by
  obtain ⟨js, rv, hl, _⟩ := I.list h
  exact PySem.W.holds_list hl.isList (HoldAll.of_ints rv.ints)
theorem toD_inj {a b : List Int} (h : PySem.W.Datum.toD a = PySem.W.Datum.toD b) : a = b := by
  have e := PySem.W.Datum.eqv a b
  have e2 := PySem.W.Datum.eqv b b
  rw [h, e2] at e
  simpa using e.symm
theorem holds_one {h : Heap} {v : Value} {a b : List Int} (h1 : Holds h v a) (h2 : Holds h v b) : a = b := by
  obtain ⟨as, r1⟩ := h1
  obtain ⟨bs, r2⟩ := h2
  have e1 := SeqAt.readOf_plain (PySem.W.Datum.plain a) r1
  have e2 := SeqAt.readOf_plain (PySem.W.Datum.plain b) r2
  exact toD_inj (e1.symm.trans e2)
theorem refs_get {qs : List Addr} {its : List Value} {i : Nat} {v : Value} (r : Vals (qs.map V.ref) its) (h : its[i]? = some v) : ∃ q, qs[i]? = some q ∧ v = .ref q := by
  have hl := r.length
  rw [List.length_map] at hl
  obtain ⟨hi, _⟩ := List.getElem?_eq_some_iff.mp h
  have hq : i < qs.length := by omega
  have e : (qs.map V.ref)[i]? = some (V.ref qs[i]) := by rw [List.getElem?_map, List.getElem?_eq_getElem hq] <;> rfl
  obtain ⟨u, h1, h2⟩ := r.get e
  rw [h] at h1
  cases h1
  exact ⟨qs[i], List.getElem?_eq_getElem hq, h2⟩
def rMinLL (K : PySem.W.Frag) : List V → Hp → VK → Prop := fun vs H R => ∃ (a : Addr) (qs : List Addr) (m : List Int) (ms : List (List Int)), vs = [V.ref a] ∧ SqL K H a (qs.map V.ref) ∧ Paired (IntsAt K H) qs (m :: ms) ∧
  ∀ (i : Nat) (q : Addr), qs[i]? = some q → (m :: ms)[i]? = some (minOf m ms) → R (.ref q) H
def rCountLL (K : PySem.W.Frag) : V → List V → Hp → VK → Prop := fun x xs H R => ∃ (a q : Addr) (qs : List Addr) (l : List Int) (ls : List (List Int)), x = V.ref a ∧ xs = [V.ref q] ∧ SqL K H a (qs.map V.ref) ∧ Paired (IntsAt K H) qs ls ∧ IntsAt K H q l ∧
  R (.int ((ls.countP fun y => decide (y = l) : Nat) : Int)) H
def rIndexLL (K : PySem.W.Frag) : V → List V → Hp → VK → Prop := fun x xs H R => ∃ (a q : Addr) (qs : List Addr) (l : List Int) (ls : List (List Int)), x = V.ref a ∧ xs = [V.ref q] ∧ SqL K H a (qs.map V.ref) ∧ Paired (IntsAt K H) qs ls ∧ IntsAt K H q l ∧ l ∈ ls ∧
  ∀ j : Nat, ls[j]? = some l → (∀ i, i < j → ls[i]? ≠ some l) → R (.int (j : Int)) H
section
variable {X : Cx}
theorem cr_minLL (hc : X.calm = true) (hu : X.A.units + 64 < cLine) : CallR X (.builtin "min") (rMinLL X.K) := by
  intro pins s σ H vs us R I r h
  obtain ⟨a, qs, m, ms, rfl, hs, hp, q⟩ := h
  obtain ⟨its, rv, hl, _⟩ := I.list hs
  obtain rfl := Vals.ref1 r
  have HA := holdAll_refs I hp rv
  refine PySem.W.min_list_datum (α := List Int) (I.ok.hd hc) hl.isList HA (by show X.A.units + 1 + 1 < cLine; omega) fun i v h' tk hi hv hk => ?_
  have hi' : its[i]? = some v := by simpa using hi
  obtain ⟨p, h1, rfl⟩ := refs_get rv hi'
  obtain ⟨x, h2, h3⟩ := HA.at hi'
  have e := holds_one (h3.keeps hk) hv
  rw [e] at h2
  exact ⟨.ref p, H, I.kept hk, rfl, q i p h1 h2⟩
theorem mt_countLL (hu : X.A.units + 64 < cLine) : MtR X "list.count" (rCountLL X.K) := by
  intro pins s σ H x xs v us R I rx rxs h
  obtain ⟨a, p, qs, l, ls, rfl, rfl, hs, hp, hx, q⟩ := h
  obtain rfl := rx
  obtain rfl := Vals.ref1 rxs
  obtain ⟨its, rv, hl, _⟩ := I.list hs
  refine PySem.W.count_list_datum (α := List Int) hl.isList (holdAll_refs I hp rv) (holds_ref I hx) (by show X.A.units + 1 + 1 < cLine; omega) ?_
  exact ⟨.int _, H, I.tok _, ⟨_, rfl⟩, q⟩
end
end Wb
namespace Wb
open PySem PySem.Spec PyProof.Rows L2
/-! ### index of a list among lists -/
theorem idx_spec {α : Type} [BEq α] [LawfulBEq α] {ls : List α} {l : α} (hm : l ∈ ls) : ls[ls.idxOf l]? = some l ∧ ∀ i, i < ls.idxOf l → ls[i]? ≠ some l := by
  refine ⟨?_, fun i hi e => ?_⟩
  · have h1 := List.idxOf_lt_length_of_mem hm
    rw [List.getElem?_eq_getElem h1, List.getElem_idxOf]
  · obtain ⟨h1, h2⟩ := List.getElem?_eq_some_iff.mp e
    have h3 := List.not_of_lt_findIdx (p := (· == l)) hi
    rw [h2] at h3
    simp at h3
section
variable {X : Cx}
theorem mt_indexLL (hu : X.A.units + 64 < cLine) : MtR X "list.index" (rIndexLL X.K) := by
  intro pins s σ H x xs v us R I rx rxs h
  obtain ⟨a, p, qs, l, ls, rfl, rfl, hs, hp, hx, hm, q⟩ := h
  obtain rfl := rx
  obtain rfl := Vals.ref1 rxs
  obtain ⟨its, rv, hl, hz⟩ := I.list hs
  have hlen := Paired.length hp
  rw [List.length_map] at hz
  refine PySem.W.index_list_datum (α := List Int) hl.isList (holdAll_refs I hp rv) (holds_ref I hx) (by show X.A.units + 1 + 1 < cLine; omega) (by omega) hm ?_
  exact ⟨.int _, H, I.tok _, ⟨_, rfl⟩, q _ (@idx_spec _ instBEqOfDecidableEq inferInstance _ _ hm).1 (@idx_spec _ instBEqOfDecidableEq inferInstance _ _ hm).2⟩
end
/-! ### lists side by side -/
section
variable {α β : Type} {F G : α → β → Prop}
theorem pair_at : ∀ {l : List α} {m : List β} {i : Nat} {b : β}, Paired F l m → m[i]? = some b → ∃ a, l[i]? = some a ∧ F a b
  | _, _, _, _, .nil, h => by simp at h
  | _, _, 0, b, .cons h t, e => by
    simp at e
    subst e
    exact ⟨_, rfl, h⟩
  | _, _, i + 1, b, .cons h t, e => by
    obtain ⟨a, h1, h2⟩ := pair_at (i := i) (b := b) t (by simpa using e)
    exact ⟨a, by simpa using h1, h2⟩
theorem pair_of : ∀ {l : List α} {m : List β} {i : Nat} {a : α}, Paired F l m → l[i]? = some a → ∃ b, m[i]? = some b ∧ F a b
  | _, _, _, _, .nil, h => by simp at h
  | _, _, 0, b, .cons h t, e => by
    simp at e
    subst e
    exact ⟨_, rfl, h⟩
  | _, _, i + 1, b, .cons h t, e => by
    obtain ⟨a, h1, h2⟩ := pair_of (i := i) (a := b) t (by simpa using e)
    exact ⟨a, by simpa using h1, h2⟩
theorem pair_imp (h : ∀ a b, F a b → G a b) {l : List α} {m : List β} (p : Paired F l m) : Paired G l m := Paired.mono h p
theorem pair_app {l l' : List α} {m m' : List β} (p : Paired F l m) (p' : Paired F l' m') : Paired F (l ++ l') (m ++ m') := by
  induction p with
  | nil => exact p'
  | cons h t ih => exact .cons h ih
end
/-! ### how the field lies in the heap -/
def nV (l : List Nat) : List V := (ofNats l).map V.int
theorem nV_eq (l : List Nat) : nV l = l.map fun (n : Nat) => V.int (n : Int) := by
  unfold nV ofNats
  rw [List.map_map] <;> rfl
theorem nV_len (l : List Nat) : (nV l).length = l.length := by
  rw [nV_eq, List.length_map]
theorem nV_at {l : List Nat} {i : Nat} {x : Nat} (h : l[i]? = some x) : (nV l)[i]? = some (V.int (x : Int)) := by
  rw [nV_eq, List.getElem?_map, h] <;> rfl
theorem nV_getD {l : List Nat} {i : Nat} (h : i < l.length) : (nV l)[i]? = some (V.int ((l.getD i 0 : Nat) : Int)) := by
  refine nV_at ?_
  rw [List.getD_eq_getElem?_getD, List.getElem?_eq_getElem h] <;> rfl
/-- at q a list of just these -/
def NatsAt (K : PySem.W.Frag) (H : Hp) (q : Addr) (l : List Nat) : Prop := SqL K H q (nV l)
def NatsIn (H : Hp) (q : Addr) (l : List Nat) : Prop := H q = some (.lst (nV l))
theorem NatsIn.at_ {K : PySem.W.Frag} {H : Hp} {q : Addr} {l : List Nat} (h : NatsIn H q l) : NatsAt K H q l := SqL.of h
theorem NatsAt.ints {K : PySem.W.Frag} {H : Hp} {q : Addr} {l : List Nat} (h : NatsAt K H q l) : IntsAt K H q (ofNats l) := h
theorem NatsAt.same {K : PySem.W.Frag} {H H' : Hp} {q : Addr} {l : List Nat} (e : Same H H') (h : NatsAt K H q l) : NatsAt K H' q l := e.seq h
def fF (f : Si93.Field) (hl bl : Addr) : List (Str × V) :=
  [("heights", .int (f.heights : Int)), ("near", .int (f.near : Int)), ("longest_wait", .int (f.waits : Int)), ("hours", .ref hl), ("balloons", .ref bl)]
def bF (b : Si93.Balloon) (fl : Addr) : List (Str × V) := [("east", .int b.at_.1), ("north", .int b.at_.2), ("flight", .ref fl)]
def PlaceAt (H : Hp) (t : Addr) (p : Si93.Place) : Prop := H t = some (.tup [.int p.1, .int p.2])
def HourAt (H : Hp) (hl bl q : Addr) (w : List Si93.Place) : Prop := q ≠ hl ∧ q ≠ bl ∧ ∃ ts : List Addr, H q = some (.lst (ts.map V.ref)) ∧ Paired (PlaceAt H) ts w
def BalAt (CB : Addr) (H : Hp) (b : Addr) (x : Si93.Balloon) : Prop := ∃ dx fl, H b = some (.ins CB dx (bF x fl)) ∧ NatsIn H fl x.flight
def BalIn (CB : Addr) (H : Hp) (hl bl b : Addr) (x : Si93.Balloon) : Prop := ∃ dx fl, H b = some (.ins CB dx (bF x fl)) ∧ NatsIn H fl x.flight ∧ fl ≠ hl ∧ fl ≠ bl
theorem BalIn.bal {CB : Addr} {H : Hp} {hl bl b : Addr} {x : Si93.Balloon} (h : BalIn CB H hl bl b x) : BalAt CB H b x := by
  obtain ⟨dx, fl, h1, h2, _⟩ := h
  exact ⟨dx, fl, h1, h2⟩
structure FieldAt (CF CB : Addr) (H : Hp) (a hl bl : Addr) (f : Si93.Field) : Prop where
  obj : ∃ dx, H a = some (.ins CF dx (fF f hl bl))
  ne : hl ≠ bl
  hrs : ∃ hs : List Addr, H hl = some (.lst (hs.map V.ref)) ∧ Paired (HourAt H hl bl) hs f.winds
  bls : ∃ bs : List Addr, H bl = some (.lst (bs.map V.ref)) ∧ Paired (BalIn CB H hl bl) bs f.balloons
theorem BalAt.same {CB : Addr} {H H' : Hp} {b : Addr} {x : Si93.Balloon} (e : Same H H') (h : BalAt CB H b x) : BalAt CB H' b x := by
  obtain ⟨dx, fl, h1, h2⟩ := h
  exact ⟨dx, fl, e _ _ h1, e _ _ h2⟩
theorem FieldAt.same {CF CB : Addr} {H H' : Hp} {a hl bl : Addr} {f : Si93.Field} (e : Same H H') (F : FieldAt CF CB H a hl bl f) : FieldAt CF CB H' a hl bl f := by
  obtain ⟨⟨dx, h1⟩, ne, ⟨hs, h2, h3⟩, ⟨bs, h4, h5⟩⟩ := F
  refine ⟨⟨dx, e _ _ h1⟩, ne, ⟨hs, e _ _ h2, pair_imp (fun q w h => ?_) h3⟩, ⟨bs, e _ _ h4, pair_imp (fun b x h => ?_) h5⟩⟩
  · obtain ⟨n1, n2, ts, h6, h7⟩ := h
    exact ⟨n1, n2, ts, e _ _ h6, pair_imp (fun t p h => e _ _ h) h7⟩
  · obtain ⟨d, fl, h6, h7, n⟩ := h
    exact ⟨d, fl, e _ _ h6, e _ _ h7, n⟩
/-- all but these two lists and the field's own object stand -/
def Frame (H H' : Hp) (a hl bl : Addr) : Prop := ∀ b o, H b = some o → b ≠ a → b ≠ hl → b ≠ bl → H' b = some o
theorem Frame.of {H H' : Hp} {a hl bl : Addr} (e : Same H H') : Frame H H' a hl bl := fun b o h _ _ _ => e b o h
/-- the parts of the field stand where only its two lists are turned -/
theorem hours_frame {H H' : Hp} {hl bl : Addr} (k : ∀ b o, H b = some o → b ≠ hl → b ≠ bl → H' b = some o) {l : List Addr} {ws : List (List Si93.Place)}
    (hh : ∃ xs, H hl = some (.lst xs)) (hb : ∃ xs, H bl = some (.lst xs)) (h : Paired (HourAt H hl bl) l ws) : Paired (HourAt H' hl bl) l ws := by
  obtain ⟨xs, hh⟩ := hh
  obtain ⟨ys, hb⟩ := hb
  refine pair_imp (fun q w h => ?_) h
  obtain ⟨n1, n2, ts, h6, h7⟩ := h
  refine ⟨n1, n2, ts, k _ _ h6 n1 n2, pair_imp (fun t p h => ?_) h7⟩
  exact k _ _ h (ne_of h hh (by intro z; cases z)) (ne_of h hb (by intro z; cases z))
theorem bals_frame {CB : Addr} {H H' : Hp} {hl bl : Addr} (k : ∀ b o, H b = some o → b ≠ hl → b ≠ bl → H' b = some o) {l : List Addr} {ws : List Si93.Balloon}
    (hh : ∃ xs, H hl = some (.lst xs)) (hb : ∃ xs, H bl = some (.lst xs)) (h : Paired (BalIn CB H hl bl) l ws) : Paired (BalIn CB H' hl bl) l ws := by
  obtain ⟨xs, hh⟩ := hh
  obtain ⟨ys, hb⟩ := hb
  refine pair_imp (fun q w h => ?_) h
  obtain ⟨d, fl, h6, h7, n1, n2⟩ := h
  exact ⟨d, fl, k _ _ h6 (ne_of h6 hh (by intro z; cases z)) (ne_of h6 hb (by intro z; cases z)), k _ _ h7 n1 n2, n1, n2⟩
theorem FieldAt.count {CF CB : Addr} {H : Hp} {a hl bl : Addr} {f : Si93.Field} (F : FieldAt CF CB H a hl bl f) : ∃ bs : List Addr, H bl = some (.lst (bs.map V.ref)) ∧ bs.length = f.count ∧ ∀ i, i < f.count → ∃ b, bs[i]? = some b ∧ BalAt CB H b (f.balloon i) ∧ f.balloon i ∈ f.balloons := by
  obtain ⟨bs, h4, h5⟩ := F.bls
  refine ⟨bs, h4, Paired.length h5, fun i hi => ?_⟩
  have hi' : i < f.balloons.length := hi
  have e : f.balloons[i]? = some (f.balloon i) := by
    unfold Si93.Field.balloon
    rw [List.getD_eq_getElem?_getD, List.getElem?_eq_getElem hi'] <;> rfl
  obtain ⟨b, h6, h7⟩ := pair_at h5 e
  exact ⟨b, h6, h7.bal, List.mem_of_getElem? e⟩
/-- the wind of an hour in a height -/
theorem FieldAt.wind {CF CB : Addr} {H : Hp} {a hl bl : Addr} {f : Si93.Field} (F : FieldAt CF CB H a hl bl f) (W : WF f) {t h : Nat} (ht : t < f.winds.length) (hh : h < f.heights) :
    ∃ (hs : List Addr) (q : Addr) (ts : List Addr) (p : Addr), H hl = some (.lst (hs.map V.ref)) ∧ hs[t]? = some q ∧ H q = some (.lst (ts.map V.ref)) ∧ ts[h]? = some p ∧ H p = some (.tup [.int (f.wind t h).1, .int (f.wind t h).2]) := by
  obtain ⟨hs, h2, h3⟩ := F.hrs
  obtain ⟨q, h4, _, _, ts, h5, h6⟩ := pair_at h3 (List.getElem?_eq_getElem ht)
  have hw : h < (f.winds[t]).length := by
    rw [W.wid _ (List.getElem_mem ht)]
    exact hh
  obtain ⟨p, h7, h8⟩ := pair_at h6 (List.getElem?_eq_getElem hw)
  refine ⟨hs, q, ts, p, h2, h4, h5, h7, ?_⟩
  have e : f.wind t h = (f.winds[t])[h] := by
    unfold Si93.Field.wind
    have e1 : f.winds.getD t [] = f.winds[t] := by rw [List.getD_eq_getElem?_getD, List.getElem?_eq_getElem ht] <;> rfl
    rw [e1, List.getD_eq_getElem?_getD, List.getElem?_eq_getElem hw] <;> rfl
  rw [e]
  exact h8
/-! ### attributes by name -/
theorem lkH {k : Str} {v : V} {r : List (Str × V)} : List.lookup k ((k, v) :: r) = some v := by
  simp only [List.lookup, beq_self_eq_true k]
theorem lkP {k g : Str} {v : V} {r : List (Str × V)} (h : (k == g) = false) : List.lookup k ((g, v) :: r) = List.lookup k r := by
  simp only [List.lookup, h]
section
variable (f : Si93.Field) (b : Si93.Balloon) (hl bl fl : Addr)
theorem fF_heights : (fF f hl bl).lookup ("heights" : Str) = some (.int (f.heights : Int)) := lkH
theorem fF_near : (fF f hl bl).lookup ("near" : Str) = some (.int (f.near : Int)) := (lkP (by decide +kernel)).trans lkH
theorem fF_waits : (fF f hl bl).lookup ("longest_wait" : Str) = some (.int (f.waits : Int)) := (lkP (by decide +kernel)).trans ((lkP (by decide +kernel)).trans lkH)
theorem fF_hours : (fF f hl bl).lookup ("hours" : Str) = some (.ref hl) := (lkP (by decide +kernel)).trans ((lkP (by decide +kernel)).trans ((lkP (by decide +kernel)).trans lkH))
theorem fF_balloons : (fF f hl bl).lookup ("balloons" : Str) = some (.ref bl) := (lkP (by decide +kernel)).trans ((lkP (by decide +kernel)).trans ((lkP (by decide +kernel)).trans ((lkP (by decide +kernel)).trans lkH)))
theorem fF_begin : (fF f hl bl).lookup ("begin" : Str) = none := (lkP (by decide +kernel)).trans ((lkP (by decide +kernel)).trans ((lkP (by decide +kernel)).trans ((lkP (by decide +kernel)).trans ((lkP (by decide +kernel)).trans rfl))))
theorem bF_east : (bF b fl).lookup ("east" : Str) = some (.int b.at_.1) := lkH
theorem bF_north : (bF b fl).lookup ("north" : Str) = some (.int b.at_.2) := (lkP (by decide +kernel)).trans lkH
theorem bF_flight : (bF b fl).lookup ("flight" : Str) = some (.ref fl) := (lkP (by decide +kernel)).trans ((lkP (by decide +kernel)).trans lkH)
end
/-- the i-th statement of the program's top -/
def topS (i : Nat) : Stmt := PySem.Challenge.pw_waitingballoons_s01_answers.main.body.getD i (.Pass ⟨0, 0, 0, 0⟩)
/-- what the top has written -/
structure Txt (K : PySem.W.Frag) (mg : Str → Option Value) (CF CB : Addr) : Prop where
  clF : Cls K CF
  clB : Cls K CB
  gF : mg "Field" = some (.ref CF)
  gB : mg "Balloon" = some (.ref CB)
  nHt : NoAttr K CF "heights"
  nNr : NoAttr K CF "near"
  nWt : NoAttr K CF "longest_wait"
  nHr : NoAttr K CF "hours"
  nBl : NoAttr K CF "balloons"
  nEa : NoAttr K CB "east"
  nNo : NoAttr K CB "north"
  nFl : NoAttr K CB "flight"
  len : mg "len" = none
  max : mg "max" = none
  min : mg "min" = none
  sum : mg "sum" = none
  all : mg "all" = none
  zip : mg "zip" = none
  range : mg "range" = none
  enum : mg "enumerate" = none
  c1 : ∃ t, mg "MOST_HEIGHTS" = some (.int 4 t)
  c2 : ∃ t, mg "MOST_NEAR" = some (.int 1000 t)
  c3 : ∃ t, mg "MOST_WAIT" = some (.int 3 t)
  c4 : ∃ t, mg "MOST_HOURS" = some (.int 8 t)
  c5 : ∃ t, mg "MOST_BALLOONS" = some (.int 4 t)
  c6 : ∃ t, mg "MOST_FLIGHT" = some (.int 5 t)
  c7 : ∃ t, mg "WIND_ADDED" = some (.int 9 t)
  c8 : ∃ t, mg "PLACE_ADDED" = some (.int 100 t)
  c9 : ∃ t, mg "WRONG" = some (.int (-1) t)
  c10 : ∃ t, mg "NO_BALLOON" = some (.int (-2) t)
  c11 : ∃ t, mg "TOO_MANY" = some (.int (-5) t)
  c12 : ∃ t, mg "TOO_NEAR" = some (.int (-6) t)
  c13 : ∃ t, mg "NO_PLAN" = some (.int (-6) t)
  c14 : ∃ t, mg "BEYOND_HOURS" = some (.int (-7) t)
end Wb
namespace Wb
open PySem PySem.Spec PyProof.Rows L2
/-! ### down_behind -/
def spDown (CB : Addr) : Sp := fun vs H R _ => ∃ (b : Addr) (x : Si93.Balloon) (e : Nat), vs = [.ref b, .int (e : Int)] ∧ BalAt CB H b x ∧ R (.int ((e + x.flight.length : Nat) : Int)) H
theorem scDown : FnScope ["balloon", "waits"] ["balloon", "waits"] (defScope (topS 1)) := ⟨rfl, rfl, rfl, by decide +kernel, rfl, by decide +kernel, by decide +kernel⟩
section
variable {P : Program} {w : World} {K : PySem.W.Frag} {mg : Str → Option Value} {base : Heap} {CF CB : Addr}
theorem ok_down {f : Addr} {fd : FuncData} (F : Fun K "down_behind" "down_behind" (topS 1) f fd) (T : Txt K mg CF CB) : FnOk P w K mg base CX0 1 f fd ["balloon", "waits"] (spDown CB) := by
  refine F.ok scDown (fun vs H R E h => ?_) (fun cdv A outer s H vs R E hr h => ?_)
  · obtain ⟨b, x, e, rfl, _⟩ := h
    rfl
  · obtain ⟨b, x, e, rfl, ⟨dx, fl, h1, h2⟩, k⟩ := h
    refine ⟨_, pss_one (ps_ret (pe_op op_add (pv 1) (pe_callB call_len_seq (by rfl) T.len PySem.boot_len (pa_cons (pe_fld (pv 0) rfl) pa_nil)))), ?_⟩
    refine ⟨_, rfl, _, rfl, b, CB, dx, _, _, rfl, h1, T.clB, T.nFl, bF_flight x fl, fl, _, rfl, .inl (SqL.of h2), _, _, rfl, rfl, ?_⟩
    rw [nV_len]
    exact k
end
/-! ### is_beyond_hours -/
def spBeyond (CF CB : Addr) : Sp := fun vs H R _ => ∃ (a hl bl b : Addr) (f : Si93.Field) (x : Si93.Balloon) (e : Nat), vs = [.ref a, .ref b, .int (e : Int)] ∧ FieldAt CF CB H a hl bl f ∧ BalAt CB H b x ∧
  R (.bl (decide (f.winds.length < e + x.flight.length))) H
theorem scBeyond : FnScope ["field", "balloon", "waits"] ["field", "balloon", "waits"] (defScope (topS 5)) := ⟨rfl, rfl, rfl, by decide +kernel, rfl, by decide +kernel, by decide +kernel⟩
section
variable {P : Program} {w : World} {K : PySem.W.Frag} {mg : Str → Option Value} {base : Heap} {CF CB : Addr}
/-- a def that is called by its name -/
structure Callee (P : Program) (w : World) (K : PySem.W.Frag) (mg : Str → Option Value) (base : Heap) (k : Nat) (x : Str) (ps : List Str) (sp : Sp) (f : Addr) (fd : FuncData) : Prop where
  ok : FnOk P w K mg base CX0 k f fd ps sp
  g : mg x = some (.ref f)
  kp : PySem.W.keepIn K (.ref f) = true
  b : Binds K fd ps []
theorem ok_beyond {f g : Addr} {fd gd : FuncData} (F : Fun K "is_beyond_hours" "is_beyond_hours" (topS 5) f fd) (T : Txt K mg CF CB) (G : Callee P w K mg base 1 "down_behind" ["balloon", "waits"] (spDown CB) g gd) :
    FnOk P w K mg base CX0 2 f fd ["field", "balloon", "waits"] (spBeyond CF CB) := by
  refine F.ok scBeyond (fun vs H R E h => ?_) (fun cdv A outer s H vs R E hr h => ?_)
  · obtain ⟨a, hl, bl, b, f, x, e, rfl, _⟩ := h
    rfl
  · obtain ⟨a, hl, bl, b, f, x, e, rfl, hF, hB, k⟩ := h
    obtain ⟨⟨dx, h1⟩, ne, ⟨hs, h2, h3⟩, _⟩ := hF
    refine ⟨_, pss_one (ps_ret (pe_cmpR op_gt (pe_call G.ok hr (by rfl) G.g G.kp G.b .nil pass0 (pa_cons (pv 1) (pa_cons (pv 2) pa_nil)))
      (pe_callB call_len_seq (by rfl) T.len PySem.boot_len (pa_cons (pe_fld (pv 0) rfl) pa_nil)) (nomark _))), ?_⟩
    refine ⟨_, rfl, _, rfl, b, x, e, rfl, hB, ?_⟩
    refine ⟨_, rfl, a, CF, dx, _, _, rfl, h1, T.clF, T.nHr, fF_hours f hl bl, hl, _, rfl, .inl (SqL.of h2), _, _, rfl, rfl, ?_⟩
    have e1 : decide (((hs.map V.ref).length : Int) < ((e + x.flight.length : Nat) : Int)) = decide (f.winds.length < e + x.flight.length) := by
      rw [List.length_map, Paired.length h3]
      exact decide_eq_decide.mpr (by omega)
    show R (V.bl (decide (((hs.map V.ref).length : Int) < ((e + x.flight.length : Nat) : Int)))) H
    rw [e1]
    exact k
end
/-! ### tests -/
theorem ifT {c : Bool} {A B : Prop} (hc : c = true) (h : A) : if c = true then A else B := by
  subst hc
  exact iteT h
theorem ifF {c : Bool} {A B : Prop} (hc : c = false) (h : B) : if c = true then A else B := by
  subst hc
  exact iteF h
/-! ### too_near -/
/-- where a balloon is, as a value -/
def CellV (H : Hp) : V → Option (Nat × Si93.Place) → Prop
  | .non, none => True
  | .ref q, some x => H q = some (.tup [.int (x.1 : Int), .int x.2.1, .int x.2.2])
  | _, _ => False
def spNear : Sp := fun vs H R _ => ∃ (n : Nat) (v u : V) (x y : Option (Nat × Si93.Place)), vs = [.int (n : Int), v, u] ∧ CellV H v x ∧ CellV H u y ∧
  (∀ z, x = some z → near9 z.2.1 145 ∧ near9 z.2.2 145) ∧ (∀ z, y = some z → near9 z.2.1 145 ∧ near9 z.2.2 145) ∧ R (.bl (near2 n x y)) H
theorem scNear : FnScope ["near", "one", "other", "east", "north"] ["near", "one", "other"] (defScope (topS 7)) := ⟨rfl, rfl, rfl, by decide +kernel, rfl, by decide +kernel, by decide +kernel⟩
section
variable {P : Program} {w : World} {K : PySem.W.Frag} {mg : Str → Option Value} {base : Heap} {CF CB : Addr}
theorem ok_near {f : Addr} {fd : FuncData} (F : Fun K "too_near" "too_near" (topS 7) f fd) : FnOk P w K mg base CX0 1 f fd ["near", "one", "other"] spNear := by
  refine F.ok scNear (fun vs H R E h => ?_) (fun cdv A outer s H vs R E hr h => ?_)
  · obtain ⟨n, v, u, x, y, rfl, _⟩ := h
    rfl
  · obtain ⟨n, v, u, x, y, rfl, hv, hu, bx, by_, k⟩ := h
    refine ⟨_, pss_cons (ps_if (PW.pt (pw_or (pt_cmp (pc_isN (pv 1))) (pw_or (pt_cmp (pc_isN (pv 2)))
        (pw_or1 (pt_cmpR op_ne (pe_ix ix_tup (pv 1) pe_int (fun _ _ => rfl)) (pe_ix ix_tup (pv 2) pe_int (fun _ _ => rfl)) (nomark _))))))
        (pss_one (ps_ret pe_bl)) pss_nil)
      (pss_cons (ps_set (i := 3) scNear.nd rfl (.inl rfl) (pe_op op_sub (pe_ix ix_tup (pv 1) pe_int (fun _ _ => rfl)) (pe_ix ix_tup (pv 2) pe_int (fun _ _ => rfl))))
      (pss_cons (ps_set (i := 4) scNear.nd rfl (.inl rfl) (pe_op op_sub (pe_ix ix_tup (pv 1) pe_int (fun _ _ => rfl)) (pe_ix ix_tup (pv 2) pe_int (fun _ _ => rfl))))
      (pss_one (ps_ret (pe_cmpR op_lt (pe_op op_add (pe_op op_mul (pv 3) (pv 3)) (pe_op op_mul (pv 4) (pv 4))) (pv 0) (nomark _)))))), ?_⟩
    cases x with
    | none =>
      have ev : v = .non := by
        cases v <;> first | rfl | exact hv.elim
      subst ev
      exact ⟨_, rfl, _, rfl, ifT rfl (ifT rfl k)⟩
    | some p =>
      obtain ⟨t, rfl⟩ : ∃ t, v = .ref t := by
        cases v <;> first | exact ⟨_, rfl⟩ | exact hv.elim
      refine ⟨_, rfl, _, rfl, ifF rfl ?_⟩
      cases y with
      | none =>
        have eu : u = .non := by
          cases u <;> first | rfl | exact hu.elim
        subst eu
        exact ⟨_, rfl, _, rfl, ifT rfl (ifT rfl k)⟩
      | some q =>
        obtain ⟨t2, rfl⟩ : ∃ t, u = .ref t := by
          cases u <;> first | exact ⟨_, rfl⟩ | exact hu.elim
        refine ⟨_, rfl, _, rfl, ifF rfl ?_⟩
        have hv' : H t = some (.tup [.int (p.1 : Int), .int p.2.1, .int p.2.2]) := hv
        have hu' : H t2 = some (.tup [.int (q.1 : Int), .int q.2.1, .int q.2.2]) := hu
        obtain ⟨b1, b2⟩ := bx p rfl
        obtain ⟨b3, b4⟩ := by_ q rfl
        refine ⟨_, rfl, t, _, (0 : Int), _, rfl, rfl, SqT.of hv', at_of (j := 0) rfl rfl, _, rfl, t2, _, (0 : Int), _, rfl, rfl, SqT.of hu', at_of (j := 0) rfl rfl, rfl, _, rfl, ?_⟩
        by_cases c : p.1 = q.1
        · refine ifF (by rw [c]; simp) ?_
          refine ⟨_, rfl, t, _, (1 : Int), _, rfl, rfl, SqT.of hv', at_of (j := 1) rfl rfl, _, rfl, t2, _, (1 : Int), _, rfl, rfl, SqT.of hu', at_of (j := 1) rfl rfl, _, _, rfl, rfl, ?_⟩
          refine ⟨_, rfl, t, _, (2 : Int), _, rfl, rfl, SqT.of hv', at_of (j := 2) rfl rfl, _, rfl, t2, _, (2 : Int), _, rfl, rfl, SqT.of hu', at_of (j := 2) rfl rfl, _, _, rfl, rfl, ?_⟩
          unfold near9 at b1 b2 b3 b4
          refine ⟨_, rfl, _, rfl, _, _, rfl, rfl, .inl ⟨by omega, by omega⟩, _, rfl, _, rfl, _, _, rfl, rfl, .inl ⟨by omega, by omega⟩, _, _, rfl, rfl, _, rfl, _, _, rfl, rfl, ?_⟩
          have e : near2 n (some p) (some q) = decide ((p.2.1 - q.2.1) * (p.2.1 - q.2.1) + (p.2.2 - q.2.2) * (p.2.2 - q.2.2) < (n : Int)) := by
            show (p.1 == q.1 && decide (Si93.between p.2 q.2 < n)) = _
            rw [c, beq_self_eq_true, Bool.true_and]
            exact decide_eq_decide.mpr (between_lt p.2 q.2 n)
          rw [e] at k
          exact k
        · have e : near2 n (some p) (some q) = false := by
            show (p.1 == q.1 && decide (Si93.between p.2 q.2 < n)) = _
            rw [beq_eq_false_iff_ne.mpr c, Bool.false_and]
          rw [e] at k
          refine ifT ?_ k
          have c2 : ¬ (p.1 : Int) = (q.1 : Int) := by omega
          simpa using c2
end
end Wb
namespace Wb
open PySem PySem.Spec PyProof.Rows L2
theorem same_new {H : Hp} {p : Addr} {o : HO} (h : H p = none) : Same H (upd H p o) := fun b u e => by
  rw [upd_ne (ne_of_none e h)]
  exact e
theorem same_put {H H' : Hp} {p : Addr} {o : HO} (e : Same H H') (h : H p = none) : Same H (upd H' p o) := fun b u q => by
  rw [upd_ne (ne_of_none q h)]
  exact e b u q
theorem take_snoc {α : Type} {l : List α} {i : Nat} {x : α} (h : l[i]? = some x) : l.take (i + 1) = l.take i ++ [x] := by
  rw [List.take_add_one, h] <;> rfl
theorem range_snoc {α : Type} (g : Nat → α) (i : Nat) : (List.range (i + 1)).map g = (List.range i).map g ++ [g i] := by
  rw [List.range_succ, List.map_append] <;> rfl
theorem ref_at {bs : List Addr} {i : Nat} {b : Addr} {x : V} (h : bs[i]? = some b) (e : (bs.map V.ref)[i]? = some x) : x = V.ref b := by
  rw [List.getElem?_map, h] at e
  exact (Option.some.inj e).symm
theorem nat_at {l : List Nat} {i : Nat} {x : V} (h : i < l.length) (e : (nV l)[i]? = some x) : x = V.int ((l.getD i 0 : Nat) : Int) := by
  rw [nV_getD h] at e
  exact (Option.some.inj e).symm
/-! ### all_down_behind -/
def spAllDown (K : PySem.W.Frag) (CF CB : Addr) : Sp := fun vs H R _ => ∃ (a hl bl p : Addr) (f : Si93.Field) (l : List Nat), vs = [.ref a, .ref p] ∧ FieldAt CF CB H a hl bl f ∧ WF f ∧ NatsAt K H p l ∧ l.length = f.count ∧
  ∀ H', Same H H' → R (.int ((f.down l : Nat) : Int)) H'
theorem scAllDown : FnScope ["field", "plan", "balloon", "waits"] ["field", "plan"] (defScope (topS 2)) := ⟨rfl, rfl, rfl, by decide +kernel, rfl, by decide +kernel, by decide +kernel⟩
def dn (f : Si93.Field) (l : List Nat) (i : Nat) : Int := ((l.getD i 0 + (f.balloon i).flight.length : Nat) : Int)
section
variable {P : Program} {w : World} {K : PySem.W.Frag} {mg : Str → Option Value} {base : Heap} {CF CB : Addr}
theorem ok_allDown {f g : Addr} {fd gd : FuncData} (F : Fun K "all_down_behind" "all_down_behind" (topS 2) f fd) (T : Txt K mg CF CB) (G : Callee P w K mg base 1 "down_behind" ["balloon", "waits"] (spDown CB) g gd) :
    FnOk P w K mg base CX0 2 f fd ["field", "plan"] (spAllDown K CF CB) := by
  refine F.ok scAllDown (fun vs H R E h => ?_) (fun cdv A outer s H vs R E hr h => ?_)
  · obtain ⟨a, hl, bl, p, f, l, rfl, _⟩ := h
    rfl
  · obtain ⟨a, hl, bl, p, f, l, rfl, hF, W, hP, hlen, k⟩ := h
    obtain ⟨dx, h1⟩ := hF.obj
    obtain ⟨bs, h2, h3, h4⟩ := hF.count
    refine ⟨_, pss_one (ps_ret (pe_callBK (cr_maxD0 rfl (hu_of hr)) (by rfl) T.max (by decide +kernel)
      (pa_cons (pe_lc (own := [("balloon", 2), ("waits", 3)]) (g := gTup K 2 (gCons (gName 2) (gCons (gName 3) gNil))) (tt := tYes) rfl scAllDown.nd (pi_zip (by rfl) T.zip (pa_cons (pe_fld (pv 0) rfl) (pa_cons (pv 1) pa_nil)))
        (blkOk_by (N := ["field", "plan", "balloon", "waits"]) (sc := defScope (topS 2)) (by decide +kernel))
        (fun _ _ _ _ _ => pg_tup rfl (pgs_cons (pg_name (i := 2) scAllDown.nd rfl (.inl rfl) (.inr rfl)) (pgs_cons (pg_name (i := 3) scAllDown.nd rfl (.inl rfl) (.inr rfl)) pgs_nil)))
        (fun _ _ _ _ _ => pts_nil)
        (fun _ _ _ _ _ => pe_call G.ok hr (by rfl) G.g G.kp G.b .nil pass0 (pa_cons (pv 2) (pa_cons (pv 3) pa_nil)))) pa_nil) (pk_cons pe_int pk_nil))), ?_⟩
    have hz : (bs.map V.ref).length = f.count := by rw [List.length_map, h3]
    have hz2 : (nV l).length = f.count := by rw [nV_len, hlen]
    have hc : f.count ≤ 4 := W.bal
    refine ⟨_, rfl, a, CF, dx, _, _, rfl, h1, T.clF, T.nBl, fF_balloons f hl bl, _, rfl, bl, p, bs.map V.ref, nV l, rfl, SqL.of h2, hP, fun D hD => ?_⟩
    refine lc_it (n := f.count) (walk_zip (xs := bs.map V.ref) (ys := nV l) (by omega)) (fun i H' => Same H H' ∧ H' D = some (.lst (((List.range i).map (dn f l)).map V.int))) ⟨same_new hD, upd_same⟩
      (fun i H' _ q => ⟨q.1.seq (SqL.of h2), q.1.seq hP⟩) ?_ ?_
    · rintro i v H0 H1 hi ⟨sm, hD0⟩ ⟨t, x1, y1, rfl, ht, rfl, e1, e2⟩
      obtain ⟨b, h5, h6, _⟩ := h4 i hi
      have ex : x1 = V.ref b := ref_at h5 e1
      have ey : y1 = V.int ((l.getD i 0 : Nat) : Int) := nat_at (by omega) e2
      subst ex
      subst ey
      have sm2 : Same H (upd H0 t (.tup [.ref b, .int ((l.getD i 0 : Nat) : Int)])) := sm.trans (same_new ht)
      refine ⟨t, _, rfl, SqT.of upd_same, rfl, _, _, rfl, _, _, rfl, rfl, rfl, ?_⟩
      refine ⟨_, rfl, _, rfl, b, f.balloon i, l.getD i 0, rfl, h6.same sm2, ?_⟩
      have hDt : D ≠ t := ne_of_none hD0 ht
      refine ⟨_, (upd_ne hDt).trans hD0, ?_, same_put sm2 hD, ?_⟩
      · rw [List.length_map, List.length_map, List.length_range]
        exact small1000 (by omega)
      · rw [upd_same, range_snoc, List.map_append] <;> rfl
    · rintro H' ⟨sm, hD'⟩
      refine ⟨D, (List.range f.count).map (dn f l), rfl, rfl, SqL.of hD', ?_⟩
      have e : maxL ((List.range f.count).map (dn f l)) = ((f.down l : Nat) : Int) := by
        rw [down_eq, List.map_map] <;> rfl
      rw [e]
      exact k H' sm
end
/-! ### air_by_hour -/
theorem cellV_keep {H H' : Hp} (k : ∀ b xs, H b = some (.tup xs) → H' b = some (.tup xs)) {v : V} {x : Option (Nat × Si93.Place)} (h : CellV H v x) : CellV H' v x := by
  cases v <;> cases x <;> first | exact h | exact k _ _ h
/-- a dict that holds where one is, hour by hour -/
def AirAt (H : Hp) (p : Addr) (g : Nat → Option (Nat × Si93.Place)) : Prop := ∃ kvs : List (Key × V), H p = some (.dK kvs) ∧ ∀ t : Nat, CellV H ((valV kvs (.inl (t : Int))).getD .non) (g t)
theorem AirAt.same {H H' : Hp} {p : Addr} {g : Nat → Option (Nat × Si93.Place)} (e : Same H H') (h : AirAt H p g) : AirAt H' p g := by
  obtain ⟨kvs, h1, h2⟩ := h
  exact ⟨kvs, e _ _ h1, fun t => cellV_keep (fun b xs q => e b _ q) (h2 t)⟩
theorem putK_more {kvs : List (Key × V)} {k : Key} {v : V} : (putK kvs k v).length ≤ kvs.length + 1 := by
  unfold putK
  split <;> simp
/-- as far as i hours of its flight -/
def airTo (f : Si93.Field) (x : Si93.Balloon) (e i t : Nat) : Option (Nat × Si93.Place) :=
  if e ≤ t ∧ t < e + i then some (x.flight.getD (t - e) 0, f.drift e x.at_ (x.flight.take (t + 1 - e))) else none
theorem airTo_all (f : Si93.Field) (x : Si93.Balloon) (e t : Nat) : airTo f x e x.flight.length t = thereB f x e t := rfl
theorem airTo_more (f : Si93.Field) (x : Si93.Balloon) (e i t : Nat) : airTo f x e (i + 1) t = if t = e + i then some (x.flight.getD i 0, f.drift e x.at_ (x.flight.take (i + 1))) else airTo f x e i t := by
  unfold airTo
  by_cases c : t = e + i
  · rw [if_pos c, if_pos (by omega)]
    have e1 : t - e = i := by omega
    have e2 : t + 1 - e = i + 1 := by omega
    rw [e1, e2]
  · rw [if_neg c]
    by_cases d : e ≤ t ∧ t < e + i
    · rw [if_pos d, if_pos (by omega)]
    · rw [if_neg d, if_neg (by omega)]
def spAir (CF CB : Addr) : Sp := fun vs H R _ => ∃ (a hl bl b : Addr) (f : Si93.Field) (x : Si93.Balloon) (e : Nat), vs = [.ref a, .ref b, .int (e : Int)] ∧ FieldAt CF CB H a hl bl f ∧ WF f ∧ BalAt CB H b x ∧ x ∈ f.balloons ∧
  e + x.flight.length ≤ f.winds.length ∧ ∀ H' p, Same H H' → H p = none → AirAt H' p (thereB f x e) → R (.ref p) H'
theorem scAir : FnScope ["field", "balloon", "waits", "east", "north", "air", "step", "height", "hour", "wind"] ["field", "balloon", "waits"] (defScope (topS 3)) := ⟨rfl, rfl, rfl, by decide +kernel, rfl, by decide +kernel, by decide +kernel⟩
section
variable {P : Program} {w : World} {K : PySem.W.Frag} {mg : Str → Option Value} {base : Heap} {CF CB : Addr}
theorem ok_air {f : Addr} {fd : FuncData} (F : Fun K "air_by_hour" "air_by_hour" (topS 3) f fd) (T : Txt K mg CF CB) : FnOk P w K mg base CX0 1 f fd ["field", "balloon", "waits"] (spAir CF CB) := by
  refine F.ok scAir (fun vs H R E h => ?_) (fun cdv A outer s H vs R E hr h => ?_)
  · obtain ⟨a, hl, bl, b, f, x, e, rfl, _⟩ := h
    rfl
  · obtain ⟨a, hl, bl, b, f, x, e, rfl, hF, W, hB, hx, hfit, k⟩ := h
    obtain ⟨dx, h1⟩ := hF.obj
    obtain ⟨db, fl, h2, h3⟩ := id hB
    refine ⟨_, pss_cons (ps_set (i := 3) scAir.nd rfl (.inl rfl) (pe_fld (pv 1) rfl))
      (pss_cons (ps_set (i := 4) scAir.nd rfl (.inl rfl) (pe_fld (pv 1) rfl))
      (pss_cons (ps_set (i := 5) scAir.nd rfl (.inl rfl) pe_dnewK)
      (pss_cons (ps_for PassesOwn.never rfl (pi_enum (by rfl) T.enum (pa_cons (pe_fld (pv 1) rfl) pa_nil))
          (pg_tup rfl (pgs_cons (pg_name (i := 6) scAir.nd rfl (.inl rfl)) (pgs_cons (pg_name (i := 7) scAir.nd rfl (.inl rfl)) pgs_nil)))
          (pss_cons (ps_set (i := 8) scAir.nd rfl (.inl rfl) (pe_op op_add (pv 2) (pv 6)))
          (pss_cons (ps_set (i := 9) scAir.nd rfl (.inl rfl) (pe_ix ix_list (pe_ix ix_list (pe_fld (pv 0) rfl) (pv 8) (fun _ _ => rfl)) (pv 7) (fun _ _ => rfl)))
          (pss_cons (ps_aug (i := 3) scAir.nd rfl (.inl rfl) (pe_ix ix_tup (pv 9) pe_int (fun _ _ => rfl)) ip_add)
          (pss_cons (ps_aug (i := 4) scAir.nd rfl (.inl rfl) (pe_ix ix_tup (pv 9) pe_int (fun _ _ => rfl)) ip_add)
          (pss_one (ps_dput (hu_of hr) (pv 5) (pv 8) (pe_tup (pa_cons (pv 7) (pa_cons (pv 3) (pa_cons (pv 4) pa_nil)))) rfl)))))))
      (pss_one (ps_ret (pv 5)))))), ?_⟩
    refine ⟨_, rfl, b, CB, db, _, _, rfl, h2, T.clB, T.nEa, bF_east x fl, ?_⟩
    refine ⟨_, rfl, b, CB, db, _, _, rfl, h2, T.clB, T.nNo, bF_north x fl, ?_⟩
    intro d hd
    have sm0 : Same H (upd H d (.dK [])) := same_new hd
    refine ⟨_, rfl, b, CB, db, _, _, rfl, sm0 _ _ h2, T.clB, T.nFl, bF_flight x fl, fl, nV x.flight, rfl, SqL.of (sm0 _ _ h3), ?_⟩
    refine for_it (n := (nV x.flight).length) walk_enum (fun i σ H' => ∃ (s6 s7 s8 s9 : Option V) (kvs : List (Key × V)), σ = [some (.ref a), some (.ref b), some (.int (e : Int)), some (.int (f.drift e x.at_ (x.flight.take i)).1),
        some (.int (f.drift e x.at_ (x.flight.take i)).2), some (.ref d), s6, s7, s8, s9] ∧ Same H H' ∧ H' d = some (.dK kvs) ∧ kvs.length ≤ i ∧ ∀ t : Nat, CellV H' ((valV kvs (.inl (t : Int))).getD .non) (airTo f x e i t))
      ⟨none, none, none, none, [], rfl, sm0, upd_same, Nat.le_refl _, fun t => ?_⟩ (fun i σ H' _ ⟨_, _, _, _, _, _, sm, _⟩ => SqL.of (sm _ _ h3)) ?_ ?_
    · unfold airTo
      rw [if_neg (by omega)]
      trivial
    · rintro i v σ H0 H1 hi ⟨s6, s7, s8, s9, kvs, rfl, sm, hd0, hk, hc⟩ ⟨t, x1, y1, rfl, ht, rfl, e1, e2⟩
      rw [nV_len] at hi
      obtain rfl := Option.some.inj e1
      have e2 : (nV x.flight)[i]? = some y1 := e2
      rw [nV_getD hi] at e2
      obtain rfl := Option.some.inj e2
      have hx7 := W.hts x hx (x.flight.getD i 0) (by
        rw [List.getD_eq_getElem?_getD, List.getElem?_eq_getElem hi]
        exact List.getElem_mem hi)
      obtain ⟨hs, q, ts, p, w1, w2, w3, w4, w5⟩ := hF.wind W (t := e + i) (h := x.flight.getD i 0) (by omega) hx7
      have sm2 : Same H (upd H0 t (.tup [.int (i : Int), .int ((x.flight.getD i 0 : Nat) : Int)])) := sm.trans (same_new ht)
      refine ⟨t, _, rfl, SqT.of upd_same, rfl, _, _, rfl, _, _, rfl, rfl, ?_⟩
      refine ⟨_, rfl, _, rfl, _, _, rfl, rfl, ?_⟩
      refine ⟨_, rfl, a, CF, dx, _, _, rfl, sm2 _ _ h1, T.clF, T.nHr, fF_hours f hl bl, _, rfl, hl, _, _, _, rfl, rfl, SqL.of (sm2 _ _ w1), at_of (j := e + i) (by omega) (by rw [List.getElem?_map, w2] <;> rfl), ?_⟩
      refine ⟨_, rfl, q, _, _, _, rfl, rfl, SqL.of (sm2 _ _ w3), at_of (j := x.flight.getD i 0) rfl (by rw [List.getElem?_map, w4] <;> rfl), ?_⟩
      refine ⟨_, rfl, _, rfl, p, _, (0 : Int), _, rfl, rfl, SqT.of (sm2 _ _ w5), at_of (j := 0) rfl rfl, _, _, rfl, rfl, ?_⟩
      refine ⟨_, rfl, _, rfl, p, _, (1 : Int), _, rfl, rfl, SqT.of (sm2 _ _ w5), at_of (j := 1) rfl rfl, _, _, rfl, rfl, ?_⟩
      refine ⟨_, rfl, _, rfl, _, rfl, (by show 3 ≤ sizeLine; decide), fun u hu => ?_⟩
      have hdt : d ≠ t := ne_of_none hd0 ht
      have hd1 : (upd H0 t (.tup [.int (i : Int), .int ((x.flight.getD i 0 : Nat) : Int)])) d = some (.dK kvs) := (upd_ne hdt).trans hd0
      have hdu : d ≠ u := ne_of_none hd1 hu
      have hds : f.drift e x.at_ (x.flight.take (i + 1)) = ((f.drift e x.at_ (x.flight.take i)).1 + (f.wind (e + i) (x.flight.getD i 0)).1, (f.drift e x.at_ (x.flight.take i)).2 + (f.wind (e + i) (x.flight.getD i 0)).2) := by
        have ex : x.flight[i]? = some (x.flight.getD i 0) := by rw [List.getD_eq_getElem?_getD, List.getElem?_eq_getElem hi] <;> rfl
        rw [take_snoc ex, drift_snoc, List.length_take, Nat.min_eq_left (Nat.le_of_lt hi)]
      have hl7 := W.len x hx
      have ek : V.int ((e : Int) + (i : Int)) = kV (.inl ((e : Int) + (i : Int))) := rfl
      refine ⟨_, rfl, _, rfl, d, _, rfl, .inl ⟨kvs, .inl ((e : Int) + (i : Int)), (upd_ne hdu).trans hd1, rfl, small1000 (by omega), rfl⟩, ?_⟩
      refine ⟨some (.int (i : Int)), some (.int ((x.flight.getD i 0 : Nat) : Int)), some (.int ((e : Int) + (i : Int))), some (.ref p), _, ?_, same_put (sm2.trans (same_new hu)) hd, upd_same, ?_, fun t' => ?_⟩
      · rw [hds]
        rfl
      · exact Nat.le_trans putK_more (by omega)
      · rw [valV_put, airTo_more]
        by_cases c : t' = e + i
        · rw [if_pos c, if_pos (by rw [c]; exact congrArg Sum.inl (by omega)), hds]
          show upd _ d _ u = _
          rw [upd_ne (fun z => hdu z.symm), upd_same]
        · rw [if_neg c, if_neg (fun z => c (by have := Sum.inl.inj z; omega))]
          refine cellV_keep (fun b' xs q' => ?_) (hc t')
          have hb1 : b' ≠ d := ne_of q' hd0 (by intro z; cases z)
          have hb2 : b' ≠ t := ne_of_none q' ht
          have hq2 : (upd H0 t (.tup [.int (i : Int), .int ((x.flight.getD i 0 : Nat) : Int)])) b' = some (.tup xs) := (upd_ne hb2).trans q'
          have hb3 : b' ≠ u := ne_of_none hq2 hu
          rw [upd_ne hb1, upd_ne hb3]
          exact hq2
    · rintro σ H' ⟨s6, s7, s8, s9, kvs, rfl, sm, hd0, hk, hc⟩
      refine ⟨_, rfl, k H' d sm hd ⟨kvs, hd0, fun t => ?_⟩⟩
      have := hc t
      rw [nV_len, airTo_all] at this
      exact this
end
end Wb
namespace Wb
open PySem PySem.Spec PyProof.Rows L2
/-! ### landing -/
def spLanding (CF CB : Addr) : Sp := fun vs H R _ => ∃ (a hl bl b : Addr) (f : Si93.Field) (x : Si93.Balloon) (e : Nat), vs = [.ref a, .ref b, .int (e : Int)] ∧ FieldAt CF CB H a hl bl f ∧ WF f ∧ BalAt CB H b x ∧ x ∈ f.balloons ∧
  e + x.flight.length ≤ f.winds.length ∧ ∀ H' p, Same H H' → H p = none → H' p = some (.lst [.int (f.drift e x.at_ x.flight).1, .int (f.drift e x.at_ x.flight).2]) → R (.ref p) H'
theorem scLanding : FnScope ["field", "balloon", "waits", "last_hour", "behind_last"] ["field", "balloon", "waits"] (defScope (topS 4)) := ⟨rfl, rfl, rfl, by decide +kernel, rfl, by decide +kernel, by decide +kernel⟩
section
variable {P : Program} {w : World} {K : PySem.W.Frag} {mg : Str → Option Value} {base : Heap} {CF CB : Addr}
theorem ok_landing {f g1 g2 : Addr} {fd gd1 gd2 : FuncData} (F : Fun K "landing" "landing" (topS 4) f fd) (T : Txt K mg CF CB) (G1 : Callee P w K mg base 1 "down_behind" ["balloon", "waits"] (spDown CB) g1 gd1)
    (G2 : Callee P w K mg base 1 "air_by_hour" ["field", "balloon", "waits"] (spAir CF CB) g2 gd2) : FnOk P w K mg base CX0 2 f fd ["field", "balloon", "waits"] (spLanding CF CB) := by
  refine F.ok scLanding (fun vs H R E h => ?_) (fun cdv A outer s H vs R E hr h => ?_)
  · obtain ⟨a, hl, bl, b, f, x, e, rfl, _⟩ := h
    rfl
  · obtain ⟨a, hl, bl, b, f, x, e, rfl, hF, W, hB, hx, hfit, k⟩ := h
    obtain ⟨db, fl, h2, h3⟩ := id hB
    refine ⟨_, pss_cons (ps_if (pt_cmpR op_eq (pe_callB call_len_seq (by rfl) T.len PySem.boot_len (pa_cons (pe_fld (pv 1) rfl) pa_nil)) pe_int (nomark _))
        (pss_one (ps_ret (pe_lst (pa_cons (pe_fld (pv 1) rfl) (pa_cons (pe_fld (pv 1) rfl) pa_nil))))) pss_nil)
      (pss_cons (ps_set (i := 3) scLanding.nd rfl (.inl rfl) (pe_op op_sub (pe_call G1.ok hr (by rfl) G1.g G1.kp G1.b .nil pass0 (pa_cons (pv 1) (pa_cons (pv 2) pa_nil))) pe_int))
      (pss_cons (ps_set (i := 4) scLanding.nd rfl (.inl rfl) (pe_dget (hu_of hr) (pe_call G2.ok hr (by rfl) G2.g G2.kp G2.b .nil pass0 (pa_cons (pv 0) (pa_cons (pv 1) (pa_cons (pv 2) pa_nil)))) (pv 3) (fun _ _ => rfl)))
      (pss_one (ps_ret (pe_lst (pa_cons (pe_ix ix_tup (pv 4) pe_int (fun _ _ => rfl)) (pa_cons (pe_ix ix_tup (pv 4) pe_int (fun _ _ => rfl)) pa_nil))))))), ?_⟩
    refine ⟨_, rfl, b, CB, db, _, _, rfl, h2, T.clB, T.nFl, bF_flight x fl, fl, nV x.flight, rfl, .inl (SqL.of h3), rfl, _, rfl, ?_⟩
    by_cases c : x.flight.length = 0
    · refine ifT (by rw [nV_len, c]; rfl) ?_
      refine ⟨_, rfl, b, CB, db, _, _, rfl, h2, T.clB, T.nEa, bF_east x fl, _, rfl, b, CB, db, _, _, rfl, h2, T.clB, T.nNo, bF_north x fl, (by show 2 ≤ sizeLine; decide), fun p hp => ?_⟩
      have ex : x.flight = [] := List.eq_nil_of_length_eq_zero c
      refine k _ p (same_new hp) hp ?_
      rw [upd_same, ex]
      rfl
    · refine ifF (by rw [nV_len]; simpa using c) ?_
      refine ⟨_, rfl, _, rfl, b, x, e, rfl, hB, _, _, rfl, rfl, ?_⟩
      refine ⟨_, rfl, _, rfl, _, rfl, a, hl, bl, b, f, x, e, rfl, hF, W, hB, hx, hfit, fun H1 p sm hp hA => ?_⟩
      obtain ⟨kvs, hk1, hk2⟩ := hA
      have hc := hk2 (e + (x.flight.length - 1))
      rw [thereB_at f x e _ (by omega)] at hc
      have ek : ((e + (x.flight.length - 1) : Nat) : Int) = ((e + x.flight.length : Nat) : Int) - 1 := by omega
      rw [ek] at hc
      obtain ⟨q, hq⟩ : ∃ q, valV kvs (.inl (((e + x.flight.length : Nat) : Int) - 1)) = some (.ref q) := by
        cases hv : valV kvs (.inl (((e + x.flight.length : Nat) : Int) - 1)) with
        | none =>
          rw [hv] at hc
          exact hc.elim
        | some v =>
          rw [hv] at hc
          cases v <;> first | exact ⟨_, rfl⟩ | exact hc.elim
      rw [hq] at hc
      have hq2 : H1 q = some (.tup [.int ((x.flight.getD (x.flight.length - 1) 0 : Nat) : Int), .int (f.drift e x.at_ (x.flight.take (x.flight.length - 1 + 1))).1, .int (f.drift e x.at_ (x.flight.take (x.flight.length - 1 + 1))).2]) := hc
      have e2 : x.flight.take (x.flight.length - 1 + 1) = x.flight := List.take_of_length_le (by omega)
      rw [e2] at hq2
      refine ⟨_, rfl, p, _, rfl, .inl ⟨kvs, .inl (((e + x.flight.length : Nat) : Int) - 1), .inl hk1, rfl, hq.symm⟩, ?_⟩
      refine ⟨_, rfl, q, _, (1 : Int), _, rfl, rfl, SqT.of hq2, at_of (j := 1) rfl rfl, _, rfl, q, _, (2 : Int), _, rfl, rfl, SqT.of hq2, at_of (j := 2) rfl rfl, (by show 2 ≤ sizeLine; decide), fun u hu => ?_⟩
      exact k _ u (sm.trans (same_new hu)) (sm.free hu) upd_same
end
/-! ### first_beyond_hours -/
def lateV (f : Si93.Field) (l : List Nat) : V := match f.late l with
  | none => .non
  | some i => .int (i : Int)
def spLate (K : PySem.W.Frag) (CF CB : Addr) : Sp := fun vs H R _ => ∃ (a hl bl p : Addr) (f : Si93.Field) (l : List Nat), vs = [.ref a, .ref p] ∧ FieldAt CF CB H a hl bl f ∧ NatsAt K H p l ∧ l.length = f.count ∧
  ∀ H', Same H H' → R (lateV f l) H'
theorem scLate : FnScope ["field", "plan", "number", "balloon"] ["field", "plan"] (defScope (topS 6)) := ⟨rfl, rfl, rfl, by decide +kernel, rfl, by decide +kernel, by decide +kernel⟩
section
variable {P : Program} {w : World} {K : PySem.W.Frag} {mg : Str → Option Value} {base : Heap} {CF CB : Addr}
theorem ok_late {f g : Addr} {fd gd : FuncData} (F : Fun K "first_beyond_hours" "first_beyond_hours" (topS 6) f fd) (T : Txt K mg CF CB) (G : Callee P w K mg base 2 "is_beyond_hours" ["field", "balloon", "waits"] (spBeyond CF CB) g gd) :
    FnOk P w K mg base CX0 3 f fd ["field", "plan"] (spLate K CF CB) := by
  refine F.ok scLate (fun vs H R E h => ?_) (fun cdv A outer s H vs R E hr h => ?_)
  · obtain ⟨a, hl, bl, p, f, l, rfl, _⟩ := h
    rfl
  · obtain ⟨a, hl, bl, p, f, l, rfl, hF, hP, hlen, k⟩ := h
    obtain ⟨dx, h1⟩ := hF.obj
    obtain ⟨bs, h2, h3, h4⟩ := hF.count
    refine ⟨_, pss_cons (ps_for PassesOwn.never rfl (pi_enum (by rfl) T.enum (pa_cons (pe_fld (pv 0) rfl) pa_nil))
          (pg_tup rfl (pgs_cons (pg_name (i := 2) scLate.nd rfl (.inl rfl)) (pgs_cons (pg_name (i := 3) scLate.nd rfl (.inl rfl)) pgs_nil)))
          (pss_one (ps_if (pt_val (pe_call G.ok hr (by rfl) G.g G.kp G.b .nil pass0 (pa_cons (pv 0) (pa_cons (pv 3) (pa_cons (pe_ix ix_list (pv 1) (pv 2) (fun _ _ => rfl)) pa_nil)))))
            (pss_one (ps_ret (pv 2))) pss_nil)))
      (pss_one (ps_ret pe_non)), ?_⟩
    refine ⟨_, rfl, a, CF, dx, _, _, rfl, h1, T.clF, T.nBl, fF_balloons f hl bl, bl, bs.map V.ref, rfl, SqL.of h2, ?_⟩
    refine for_it (n := (bs.map V.ref).length) walk_enum (fun i σ H' => ∃ (s2 s3 : Option V), σ = [some (.ref a), some (.ref p), s2, s3] ∧ Same H H' ∧ ∀ j, j < i → ¬ f.winds.length < l.getD j 0 + (f.balloon j).flight.length)
      ⟨none, none, rfl, Same.refl H, fun j hj => absurd hj (Nat.not_lt_zero _)⟩ (fun i σ H' _ ⟨_, _, _, sm, _⟩ => SqL.of (sm _ _ h2)) ?_ ?_
    · rintro i v σ H0 H1 hi ⟨s2, s3, rfl, sm, hn⟩ ⟨t, x1, y1, rfl, ht, rfl, e1, e2⟩
      rw [List.length_map, h3] at hi
      obtain rfl := Option.some.inj e1
      obtain ⟨b, h5, h6, _⟩ := h4 i hi
      obtain rfl := ref_at h5 e2
      have sm2 : Same H (upd H0 t (.tup [.int (i : Int), .ref b])) := sm.trans (same_new ht)
      refine ⟨t, _, rfl, SqT.of upd_same, rfl, _, _, rfl, _, _, rfl, rfl, ?_⟩
      refine ⟨_, rfl, _, rfl, _, rfl, _, rfl, p, _, _, _, rfl, rfl, sm2.seq hP, at_of (j := i) rfl (nV_getD (by omega)), ?_⟩
      refine ⟨a, hl, bl, b, f, f.balloon i, l.getD i 0, rfl, hF.same sm2, h6.same sm2, _, rfl, ?_⟩
      by_cases c : f.winds.length < l.getD i 0 + (f.balloon i).flight.length
      · refine ifT (decide_eq_true c) ⟨_, rfl, ?_⟩
        have e := late_some hi c hn
        have := k _ sm2
        unfold lateV at this
        rw [e] at this
        exact this
      · refine ifF (decide_eq_false c) ⟨_, _, rfl, sm2, fun j hj => ?_⟩
        by_cases cj : j = i
        · rw [cj]
          exact c
        · exact hn j (by omega)
    · rintro σ H' ⟨s2, s3, rfl, sm, hn⟩
      rw [List.length_map, h3] at hn
      have := k _ sm
      unfold lateV at this
      rw [late_none hn] at this
      exact this
end
/-! ### first_too_near -/
/-- what is given back of the first that are too near -/
def badR (f : Si93.Field) (l : List Nat) (H : Hp) (R : VK) : Prop := match f.bad l with
  | none => ∀ H', Same H H' → R .non H'
  | some x => ∀ H' p, Same H H' → H p = none → H' p = some (.lst [.int (x.1 : Int), .int (x.2.1 : Int), .int (x.2.2 : Int)]) → R (.ref p) H'
def spBad (K : PySem.W.Frag) (CF CB : Addr) : Sp := fun vs H R _ => ∃ (a hl bl p : Addr) (f : Si93.Field) (l : List Nat), vs = [.ref a, .ref p] ∧ FieldAt CF CB H a hl bl f ∧ WF f ∧ NatsAt K H p l ∧ l.length = f.count ∧ f.late l = none ∧ badR f l H R
abbrev nBad : List Str := ["field", "plan", "airs", "hour", "lower", "higher", "balloon", "waits"]
theorem scBad : FnScope nBad ["field", "plan"] (defScope (topS 8)) := ⟨rfl, rfl, rfl, by decide +kernel, rfl, by decide +kernel, by decide +kernel⟩
section
variable {P : Program} {w : World} {K : PySem.W.Frag} {mg : Str → Option Value} {base : Heap} {CF CB : Addr}
theorem small62 {n : Nat} (h : n ≤ 100) : -(2 ^ 62) ≤ (n : Int) ∧ (n : Int) < 2 ^ 62 := by omega
theorem ok_bad {f g1 g2 : Addr} {fd gd1 gd2 : FuncData} (F : Fun K "first_too_near" "first_too_near" (topS 8) f fd) (T : Txt K mg CF CB) (G1 : Callee P w K mg base 1 "air_by_hour" ["field", "balloon", "waits"] (spAir CF CB) g1 gd1)
    (G2 : Callee P w K mg base 1 "too_near" ["near", "one", "other"] spNear g2 gd2) : FnOk P w K mg base CX0 2 f fd ["field", "plan"] (spBad K CF CB) := by
  refine F.ok scBad (fun vs H R E h => ?_) (fun cdv A outer s H vs R E hr h => ?_)
  · obtain ⟨a, hl, bl, p, f, l, rfl, _⟩ := h
    rfl
  · obtain ⟨a, hl, bl, p, f, l, rfl, hF, W, hP, hlen, hlate, k⟩ := h
    obtain ⟨dx, h1⟩ := hF.obj
    obtain ⟨bs, h2, h3, h4⟩ := hF.count
    refine ⟨_, pss_cons (ps_setLc (i := 2) (own := [("balloon", 6), ("waits", 7)]) (g := gTup K 2 (gCons (gName 6) (gCons (gName 7) gNil))) (tt := tYes) rfl scBad.nd rfl rfl (sw_true rfl rfl rfl (by decide +kernel))
        (pi_zip (by rfl) T.zip (pa_cons (pe_fld (pv 0) rfl) (pa_cons (pv 1) pa_nil)))
        (blkOk_by (N := nBad) (sc := defScope (topS 8)) (by decide +kernel))
        (fun _ _ _ _ _ => pg_tup rfl (pgs_cons (pg_name (i := 6) scBad.nd rfl (.inl rfl) (.inr rfl)) (pgs_cons (pg_name (i := 7) scBad.nd rfl (.inl rfl) (.inr rfl)) pgs_nil)))
        (fun _ _ _ _ _ => pts_nil)
        (fun _ _ _ _ _ => pe_call G1.ok hr (by rfl) G1.g G1.kp G1.b .nil pass0 (pa_cons (pv 0) (pa_cons (pv 6) (pa_cons (pv 7) pa_nil)))))
      (pss_cons (ps_for PassesOwn.never rfl (pi_range1 rfl T.range (pa_cons (pe_callB call_len_seq (by rfl) T.len PySem.boot_len (pa_cons (pe_fld (pv 0) rfl) pa_nil)) pa_nil)) (pg_name (i := 3) scBad.nd rfl (.inl rfl))
        (pss_one (ps_for PassesOwn.never rfl (pi_range1 rfl T.range (pa_cons (pe_callB call_len_seq (by rfl) T.len PySem.boot_len (pa_cons (pv 2) pa_nil)) pa_nil)) (pg_name (i := 4) scBad.nd rfl (.inl rfl))
          (pss_one (ps_for PassesOwn.never rfl (pi_range2 rfl T.range (pa_cons (pe_op op_add (pv 4) pe_int) (pa_cons (pe_callB call_len_seq (by rfl) T.len PySem.boot_len (pa_cons (pv 2) pa_nil)) pa_nil))) (pg_name (i := 5) scBad.nd rfl (.inl rfl))
            (pss_one (ps_if (pt_val (pe_call G2.ok hr (by rfl) G2.g G2.kp G2.b .nil pass0 (pa_cons (pe_fld (pv 0) rfl)
                (pa_cons (pe_dget1 (hu_of hr) (pe_ix ix_list (pv 2) (pv 4) (fun _ _ => rfl)) (pv 3) ⟨rfl, rfl, rfl, rfl⟩)
                (pa_cons (pe_dget1 (hu_of hr) (pe_ix ix_list (pv 2) (pv 5) (fun _ _ => rfl)) (pv 3) ⟨rfl, rfl, rfl, rfl⟩) pa_nil)))))
              (pss_one (ps_ret (pe_lst (pa_cons (pv 3) (pa_cons (pv 4) (pa_cons (pv 5) pa_nil)))))) pss_nil)))))))
      (pss_one (ps_ret pe_non))), ?_⟩
    have hz : (bs.map V.ref).length = f.count := by rw [List.length_map, h3]
    have hz2 : (nV l).length = f.count := by rw [nV_len, hlen]
    have hc4 : f.count ≤ 4 := W.bal
    have hh8 := W.hrs
    refine ⟨_, rfl, a, CF, dx, _, _, rfl, h1, T.clF, T.nBl, fF_balloons f hl bl, _, rfl, bl, p, bs.map V.ref, nV l, rfl, SqL.of h2, hP, fun D hD => ?_⟩
    refine lc_it (n := f.count) (walk_zip (xs := bs.map V.ref) (ys := nV l) (by omega)) (fun i H' => Same H H' ∧ ∃ ps : List Addr, H' D = some (.lst (ps.map V.ref)) ∧ ps.length = i ∧ ∀ j q, ps[j]? = some q → AirAt H' q (thereB f (f.balloon j) (l.getD j 0)))
      ⟨same_new hD, [], upd_same, rfl, fun j q e => by simp at e⟩ (fun i H' _ q => ⟨q.1.seq (SqL.of h2), q.1.seq hP⟩) ?_ ?_
    · rintro i v H0 H1 hi ⟨sm, ps, hD0, hpl, hpa⟩ ⟨t, x1, y1, rfl, ht, rfl, e1, e2⟩
      obtain ⟨b, h5, h6, h7⟩ := h4 i hi
      obtain rfl := ref_at h5 e1
      obtain rfl := nat_at (l := l) (by omega) e2
      have sm1 : Same H0 (upd H0 t (.tup [.ref b, .int ((l.getD i 0 : Nat) : Int)])) := same_new ht
      have sm2 : Same H (upd H0 t (.tup [.ref b, .int ((l.getD i 0 : Nat) : Int)])) := sm.trans sm1
      refine ⟨t, _, rfl, SqT.of upd_same, rfl, _, _, rfl, _, _, rfl, rfl, rfl, ?_⟩
      refine ⟨_, rfl, _, rfl, _, rfl, a, hl, bl, b, f, f.balloon i, l.getD i 0, rfl, hF.same sm2, W, h6.same sm2, h7, late_fit hlate hi, fun H2 q sm3 hq hA => ?_⟩
      have hD2 : H2 D = some (.lst (ps.map V.ref)) := sm3 _ _ (sm1 _ _ hD0)
      refine ⟨_, hD2, ?_, same_put (sm2.trans sm3) hD, ps ++ [q], ?_, ?_, fun j r e => ?_⟩
      · rw [List.length_map]
        exact small1000 (by omega)
      · rw [upd_same, List.map_append] <;> rfl
      · rw [List.length_append, hpl] <;> rfl
      · have hDn : ∀ {r : Addr} {g : Nat → Option (Nat × Si93.Place)}, AirAt H2 r g → AirAt (upd H2 D (.lst (ps.map V.ref ++ [V.ref q]))) r g := fun {r g} hh => by
          obtain ⟨kvs, z1, z2⟩ := hh
          refine ⟨kvs, (upd_ne (ne_of z1 hD2 (by intro z; cases z))).trans z1, fun t' => cellV_keep (fun b' xs z3 => ?_) (z2 t')⟩
          exact (upd_ne (ne_of z3 hD2 (by intro z; cases z))).trans z3
        by_cases cj : j < ps.length
        · rw [List.getElem?_append_left cj] at e
          exact hDn ((hpa j r e).same (sm1.trans sm3))
        · have ej : j = ps.length := by
            obtain ⟨z, _⟩ := List.getElem?_eq_some_iff.mp e
            rw [List.length_append] at z
            simp at z
            omega
          subst ej
          rw [List.getElem?_append_right (Nat.le_refl _), Nat.sub_self] at e
          obtain rfl : q = r := Option.some.inj e
          rw [hpl]
          exact hDn hA
    · rintro H2 ⟨sm, ps, hD2, hpl, hpa⟩
      obtain ⟨hs, w1, w2⟩ := hF.hrs
      have hhs : (hs.map V.ref).length = f.winds.length := by rw [List.length_map, Paired.length w2]
      have hps : (ps.map V.ref).length = f.count := by rw [List.length_map, hpl]
      have b1 := small62 (n := f.winds.length) (by omega)
      have b2 := small62 (n := f.count) (by omega)
      refine ⟨_, rfl, a, CF, dx, _, _, rfl, sm _ _ h1, T.clF, T.nHr, fF_hours f hl bl, hl, _, rfl, .inl (SqL.of (sm _ _ w1)), ((f.winds.length : Nat) : Int), by rw [hhs], b1.1, b1.2, ?_⟩
      refine for_it (n := f.winds.length) walk_range (fun t σ H' => ∃ s3 s4 s5 : Option V, σ = [some (.ref a), some (.ref p), some (.ref D), s3, s4, s5, none, none] ∧ H' = H2 ∧ ∀ t', t' < t → seek2 f l t' = none)
        ⟨none, none, none, rfl, rfl, fun t' h => absurd h (Nat.not_lt_zero _)⟩ (fun _ _ _ _ _ => trivial) ?_ ?_
      · rintro t v σ H0 H1 ht ⟨s3, s4, s5, rfl, q0, hn⟩ ⟨q1, rfl⟩
        subst H1
        subst H0
        refine ⟨_, rfl, D, _, rfl, .inl (SqL.of hD2), ((f.count : Nat) : Int), by rw [hps], b2.1, b2.2, ?_⟩
        refine for_it (n := f.count) walk_range (fun i σ H' => ∃ s4 s5 : Option V, σ = [some (.ref a), some (.ref p), some (.ref D), some (.int (0 + (t : Int))), s4, s5, none, none] ∧ H' = H2 ∧ ∀ i', i' < i → seek3 f l t i' = none)
          ⟨s4, s5, rfl, rfl, fun t' h => absurd h (Nat.not_lt_zero _)⟩ (fun _ _ _ _ _ => trivial) ?_ ?_
        · rintro i v σ H0 H1 hi ⟨s4, s5, rfl, q0, hn3⟩ ⟨q1, rfl⟩
          subst H1
          subst H0
          have b3 := small62 (n := i + 1) (by omega)
          have ei : (0 : Int) + (i : Int) + 1 = ((i + 1 : Nat) : Int) := by omega
          refine ⟨_, rfl, _, _, rfl, rfl, _, rfl, D, _, rfl, .inl (SqL.of hD2), ((i + 1 : Nat) : Int), ((f.count : Nat) : Int), by rw [hps, ← ei], ⟨b3.1, b3.2, b2.1, b2.2⟩, ?_⟩
          have en : (((f.count : Nat) : Int) - ((i + 1 : Nat) : Int)).toNat = f.count - (i + 1) := by omega
          rw [en]
          refine for_it (n := f.count - (i + 1)) walk_range (fun j σ H' => ∃ s5 : Option V, σ = [some (.ref a), some (.ref p), some (.ref D), some (.int (0 + (t : Int))), some (.int (0 + (i : Int))), s5, none, none] ∧ H' = H2 ∧ ∀ k', i < k' → k' < i + 1 + j → hit f l t i k' = false)
            ⟨s5, rfl, rfl, fun k' h h' => absurd h (by omega)⟩ (fun _ _ _ _ _ => trivial) ?_ ?_
          · rintro j v σ H0 H1 hj ⟨s5, rfl, q0, hn4⟩ ⟨q1, rfl⟩
            subst H1
            subst H0
            have ek : ((i + 1 : Nat) : Int) + (j : Int) = ((i + 1 + j : Nat) : Int) := by omega
            have hi2 : i < ps.length := by omega
            have hk2 : i + 1 + j < ps.length := by omega
            obtain ⟨kv1, z1, z2⟩ := hpa i ps[i] (List.getElem?_eq_getElem hi2)
            obtain ⟨kv2, z3, z4⟩ := hpa (i + 1 + j) ps[i + 1 + j] (List.getElem?_eq_getElem hk2)
            have et : (0 : Int) + (t : Int) = (t : Int) := by omega
            obtain ⟨_, _, _, m1⟩ := h4 i hi
            obtain ⟨_, _, _, m2⟩ := h4 (i + 1 + j) (by omega)
            refine ⟨_, rfl, a, CF, dx, _, _, rfl, sm _ _ h1, T.clF, T.nNr, fF_near f hl bl, ?_⟩
            refine ⟨_, rfl, _, rfl, D, _, _, _, rfl, rfl, SqL.of hD2, at_of (j := i) (by omega) (by rw [List.getElem?_map, List.getElem?_eq_getElem hi2] <;> rfl), ps[i], rfl, .inl ⟨kv1, .inl z1⟩, _, rfl, _, .inl ⟨kv1, .inl (0 + (t : Int)), .inl z1, rfl, rfl⟩, ?_⟩
            refine ⟨_, rfl, _, rfl, D, _, _, _, rfl, rfl, SqL.of hD2, at_of (j := i + 1 + j) ek (by rw [List.getElem?_map, List.getElem?_eq_getElem hk2] <;> rfl), ps[i + 1 + j], rfl, .inl ⟨kv2, .inl z3⟩, _, rfl, _, .inl ⟨kv2, .inl (0 + (t : Int)), .inl z3, rfl, rfl⟩, ?_⟩
            refine ⟨f.near, _, _, _, _, rfl, by rw [et]; exact z2 t, by rw [et]; exact z4 t, fun z hz => there_bd W m1 hz, fun z hz => there_bd W m2 hz, _, rfl, ?_⟩
            have eh : near2 f.near (thereB f (f.balloon i) (l.getD i 0) t) (thereB f (f.balloon (i + 1 + j)) (l.getD (i + 1 + j) 0) t) = hit f l t i (i + 1 + j) := (clash_eq f i _ _ _ t).symm
            rw [eh]
            by_cases c : hit f l t i (i + 1 + j) = true
            · refine ifT c ⟨_, rfl, _, rfl, _, rfl, (by show 3 ≤ sizeLine; decide), fun u hu => ?_⟩
              have eb := bad_some ht (seek2_some hi (seek3_some (by omega) (by omega) c fun k' q1 q2 => hn4 k' q1 q2) hn3) hn
              unfold badR at k
              rw [eb] at k
              refine k _ u (sm.trans (same_new hu)) (sm.free hu) ?_
              rw [upd_same]
              have ei2 : (0 : Int) + (i : Int) = (i : Int) := by omega
              show some (HO.lst [V.int (0 + (t : Int)), V.int (0 + (i : Int)), V.int (((i + 1 : Nat) : Int) + (j : Int))]) = _
              rw [et, ei2, ek]
            · have c' : hit f l t i (i + 1 + j) = false := by simpa using c
              refine ifF c' ⟨_, rfl, rfl, fun k' q1 q2 => ?_⟩
              by_cases cj : k' = i + 1 + j
              · rw [cj]
                exact c'
              · exact hn4 k' q1 (by omega)
          · rintro σ H0 ⟨s5, rfl, q0, hn4⟩
            subst H0
            refine ⟨_, _, rfl, rfl, fun i' hi' => ?_⟩
            by_cases ci : i' = i
            · rw [ci]
              exact seek3_none fun k' q1 q2 => hn4 k' q1 (by omega)
            · exact hn3 i' (by omega)
        · rintro σ H0 ⟨s4, s5, rfl, q0, hn3⟩
          subst H0
          refine ⟨_, _, _, rfl, rfl, fun t' ht' => ?_⟩
          by_cases ct : t' = t
          · rw [ct]
            exact seek2_none hn3
          · exact hn t' (by omega)
      · rintro σ H0 ⟨s3, s4, s5, rfl, q0, hn⟩
        subst H0
        unfold badR at k
        rw [bad_none hn] at k
        exact k _ sm
end
end Wb
namespace Wb
open PySem PySem.Spec PyProof.Rows L2
/-! ### every_plan -/
theorem nV_snoc (l : List Nat) (t : Nat) : nV (l ++ [t]) = nV l ++ [V.int (t : Int)] := by
  rw [nV_eq, nV_eq, List.map_append] <;> rfl
/-- a list of just these stands at q, and q is none of these two -/
def NatsNe (H : Hp) (u v q : Addr) (l : List Nat) : Prop := q ≠ u ∧ q ≠ v ∧ NatsIn H q l
theorem ne_keep {H H' : Hp} {u v : Addr} (e : ∀ b o, H b = some o → b ≠ u → b ≠ v → H' b = some o) {qs : List Addr} {ls : List (List Nat)} (h : Paired (NatsNe H u v) qs ls) : Paired (NatsNe H' u v) qs ls :=
  pair_imp (fun _ _ h => ⟨h.1, h.2.1, e _ _ h.2.2 h.1 h.2.1⟩) h
theorem in_of {H : Hp} {u v : Addr} {qs : List Addr} {ls : List (List Nat)} (h : Paired (NatsNe H u v) qs ls) : Paired (NatsIn H) qs ls := pair_imp (fun _ _ h => h.2.2) h
theorem in_same {H H' : Hp} (e : Same H H') {qs : List Addr} {ls : List (List Nat)} (h : Paired (NatsIn H) qs ls) : Paired (NatsIn H') qs ls := pair_imp (fun _ _ h => e _ _ h) h
theorem ne_same {H H' : Hp} {u v : Addr} (e : Same H H') {qs : List Addr} {ls : List (List Nat)} (h : Paired (NatsNe H u v) qs ls) : Paired (NatsNe H' u v) qs ls := ne_keep (fun b o q _ _ => e b o q) h
def ext (k : Nat) (l : List Nat) : List (List Nat) := (List.range (k + 1)).map fun t => l ++ [t]
theorem ext_len (k : Nat) (l : List Nat) : (ext k l).length = k + 1 := by
  unfold ext
  simp
theorem ext_many (k : Nat) : ∀ ls : List (List Nat), (ls.flatMap (ext k)).length = ls.length * (k + 1)
  | [] => by simp
  | l :: ls => by
    rw [List.flatMap_cons, List.length_append, ext_len, ext_many k ls, List.length_cons, Nat.add_mul]
    omega
theorem rows_few {k n : Nat} (hk : k ≤ 3) (hn : n ≤ 4) : (Si93.rows k n).length ≤ 256 := by
  rw [rows_len]
  calc (k + 1) ^ n ≤ 4 ^ n := Nat.pow_le_pow_left (by omega) n
    _ ≤ 4 ^ 4 := Nat.pow_le_pow_right (by decide) hn
    _ = 256 := by decide
def spEvery (CF CB : Addr) : Sp := fun vs H R _ => ∃ (a hl bl : Addr) (f : Si93.Field), vs = [.ref a] ∧ FieldAt CF CB H a hl bl f ∧ WF f ∧
  ∀ H' p qs, Same H H' → H p = none → H' p = some (.lst (qs.map V.ref)) → Paired (NatsIn H') qs (Si93.rows f.waits f.count) → R (.ref p) H'
abbrev nEvery : List Str := ["field", "plans", "balloon", "longer", "plan", "waits"]
theorem scEvery : FnScope nEvery ["field"] (defScope (topS 10)) := ⟨rfl, rfl, rfl, by decide +kernel, rfl, by decide +kernel, by decide +kernel⟩
section
variable {P : Program} {w : World} {K : PySem.W.Frag} {mg : Str → Option Value} {base : Heap} {CF CB : Addr}
theorem ok_every {f : Addr} {fd : FuncData} (F : Fun K "every_plan" "every_plan" (topS 10) f fd) (T : Txt K mg CF CB) : FnOk P w K mg base CX0 1 f fd ["field"] (spEvery CF CB) := by
  refine F.ok scEvery (fun vs H R E h => ?_) (fun cdv A outer s H vs R E hr h => ?_)
  · obtain ⟨a, hl, bl, f, rfl, _⟩ := h
    rfl
  · obtain ⟨a, hl, bl, f, rfl, hF, W, k⟩ := h
    obtain ⟨dx, h1⟩ := hF.obj
    obtain ⟨bs, h2, h3, h4⟩ := hF.count
    refine ⟨_, pss_cons (ps_set (i := 1) scEvery.nd rfl (.inl rfl) (pe_lst (pa_cons (pe_lst pa_nil) pa_nil)))
      (pss_cons (ps_for PassesOwn.never rfl (pi_list (pe_fld (pv 0) rfl)) (pg_name (i := 2) scEvery.nd rfl (.inl rfl))
        (pss_cons (ps_set (i := 3) scEvery.nd rfl (.inl rfl) (pe_lst pa_nil))
        (pss_cons (ps_for PassesOwn.never rfl (pi_list (pv 1)) (pg_name (i := 4) scEvery.nd rfl (.inr rfl))
          (pss_one (ps_expr (pe_bm PySem.F.plainAttrs_list PySem.F.slot_list_extend PySem.F.type_list_extend mt_extend (pv 3)
            (pa_cons (pe_lc (own := [("waits", 5)]) (g := gName 5) (tt := tYes) rfl scEvery.nd (pi_range1 rfl T.range (pa_cons (pe_op op_add (pe_fld (pv 0) rfl) pe_int) pa_nil))
              (blkOk_by (N := nEvery) (sc := defScope (topS 10)) (by decide +kernel)) (fun _ _ _ _ _ => pg_name (i := 5) scEvery.nd rfl (.inl rfl) (.inr rfl)) (fun _ _ _ _ _ => pts_nil)
              (fun _ _ _ _ _ => pe_op op_cat (pv 4) (pe_lst (pa_cons (pv 5) pa_nil)))) pa_nil)))))
        (pss_one (ps_set (i := 1) scEvery.nd rfl (.inl rfl) (pv 3))))))
      (pss_one (ps_ret (pv 1)))), ?_⟩
    have hw3 := W.w3
    refine ⟨(by show 0 ≤ sizeLine; decide), fun u hu => ⟨(by show 1 ≤ sizeLine; decide), fun pl0 hpl0 => ?_⟩⟩
    have sm1 : Same H (upd H u (.lst [])) := same_new hu
    have sm2 : Same H (upd (upd H u (.lst [])) pl0 (.lst [.ref u])) := sm1.trans (same_new hpl0)
    refine ⟨_, rfl, a, CF, dx, _, _, rfl, sm2 _ _ h1, T.clF, T.nBl, fF_balloons f hl bl, bl, rfl, ⟨_, SqL.of (sm2 _ _ h2)⟩, ?_⟩
    refine for_it (n := (bs.map V.ref).length) walk_list (fun n σ H' => ∃ (s2 s3 s4 : Option V) (pl : Addr) (ps : List Addr), σ = [some (.ref a), some (.ref pl), s2, s3, s4, none] ∧ Same H H' ∧ H pl = none ∧ H' pl = some (.lst (ps.map V.ref)) ∧
        Paired (NatsIn H') ps (Si93.rows f.waits n)) ⟨none, none, none, pl0, [u], rfl, sm2, sm1.free hpl0, upd_same, .cons ?_ .nil⟩ (fun n σ H' _ ⟨_, _, _, _, _, _, sm, _⟩ => SqL.of (sm _ _ h2)) ?_ ?_
    · show upd _ pl0 _ u = _
      rw [upd_ne (ne_of_none upd_same hpl0), upd_same] <;> rfl
    · rintro n v σ H0 H1 hn ⟨s2, s3, s4, pl, ps, rfl, sm, hpl, hps, hpp⟩ ⟨q1, hv⟩
      subst H1
      rw [List.length_map, h3] at hn
      have hc4 : f.count ≤ 4 := W.bal
      have few := rows_few (n := n) hw3 (by omega)
      have hpn := Paired.length hpp
      refine ⟨(by show 0 ≤ sizeLine; decide), fun lg hlg => ?_⟩
      have sm3 : Same H0 (upd H0 lg (.lst [])) := same_new hlg
      have hHlg : H lg = none := sm.free hlg
      refine ⟨_, rfl, pl, rfl, ⟨_, SqL.of (sm3 _ _ hps)⟩, ?_⟩
      refine for_it (n := (ps.map V.ref).length) walk_list (fun i σ H' => ∃ (s4 : Option V) (qs : List Addr), σ = [some (.ref a), some (.ref pl), some v, some (.ref lg), s4, none] ∧ Same H H' ∧ H' pl = some (.lst (ps.map V.ref)) ∧ H' lg = some (.lst (qs.map V.ref)) ∧
          Paired (NatsNe H' lg lg) qs (((Si93.rows f.waits n).take i).flatMap (ext f.waits)) ∧ Paired (NatsNe H' lg lg) ps (Si93.rows f.waits n))
        ⟨s4, [], rfl, sm.trans sm3, sm3 _ _ hps, upd_same, .nil, pair_imp (fun q l h => ⟨ne_of_none h hlg, ne_of_none h hlg, sm3 _ _ h⟩) hpp⟩ (fun i σ H' _ ⟨_, _, _, _, z, _⟩ => SqL.of z) ?_ ?_
      · rintro i v2 σ Hc H1 hi ⟨s4, qs, rfl, smc, hpc, hlc, hqq, hpq⟩ ⟨q1, hv2⟩
        subst H1
        rw [List.length_map] at hi
        have hir : i < (Si93.rows f.waits n).length := by omega
        obtain ⟨q, hq1, hqn, _, hq2⟩ := pair_at hpq (List.getElem?_eq_getElem hir)
        obtain rfl := ref_at hq1 hv2
        have hql : ((Si93.rows f.waits n)[i]).length = n := (rows_mem (List.getElem_mem hir)).1
        have b1 := small62 (n := f.waits + 1) (by omega)
        refine ⟨_, rfl, .inl ⟨rfl, _, SqL.of hlc⟩, _, rfl, a, CF, dx, _, _, rfl, smc _ _ h1, T.clF, T.nWt, fF_waits f hl bl, _, _, rfl, rfl, ((f.waits + 1 : Nat) : Int), rfl, b1.1, b1.2, fun D hD => ?_⟩
        refine lc_it (n := f.waits + 1) walk_range (fun j H' => Same Hc H' ∧ ∃ rs : List Addr, H' D = some (.lst (rs.map V.ref)) ∧ Paired (NatsNe H' D lg) rs ((List.range j).map fun t => (Si93.rows f.waits n)[i] ++ [t]))
          ⟨same_new hD, [], upd_same, .nil⟩ (fun _ _ _ _ => trivial) ?_ ?_
        · rintro j v3 H4 H5 hj ⟨sm4, rs, hrs, hrr⟩ ⟨q1, rfl⟩
          subst H5
          refine ⟨rfl, _, rfl, _, rfl, (by show 1 ≤ sizeLine; decide), fun x hx => ?_⟩
          have sm5 : Same H4 (upd H4 x (.lst [.int (0 + (j : Int))])) := same_new hx
          refine ⟨q, x, _, _, rfl, rfl, sm5 _ _ (sm4 _ _ hq2), upd_same, ?_, fun z hz => ?_⟩
          · rw [nV_len, hql]
            exact Nat.le_of_lt (small1000 (by show n + 1 ≤ 1000; omega))
          · have sm6 : Same H4 (upd (upd H4 x (.lst [.int (0 + (j : Int))])) z (.lst (nV (Si93.rows f.waits n)[i] ++ [.int (0 + (j : Int))]))) := sm5.trans (same_new hz)
            refine ⟨_, sm6 _ _ hrs, ?_, same_put (sm4.trans sm6) hD, rs ++ [z], ?_, ?_⟩
            · have := Paired.length hrr
              rw [List.length_map, List.length_range] at this
              rw [List.length_map]
              exact small1000 (by omega)
            · rw [upd_same, List.map_append] <;> rfl
            · have hDz : z ≠ D := fun e => by
                rw [e, sm5 _ _ hrs] at hz
                cases hz
              have hlz : z ≠ lg := fun e => by
                rw [e, sm5 _ _ (sm4 _ _ hlc)] at hz
                cases hz
              rw [range_snoc]
              refine pair_app (ne_keep (fun b o e d1 d2 => ?_) hrr) (.cons ⟨hDz, hlz, ?_⟩ .nil)
              · rw [upd_ne d1]
                exact sm6 _ _ e
              · have e0 : (0 : Int) + (j : Int) = (j : Int) := by omega
                show upd _ D _ z = _
                rw [upd_ne hDz, upd_same, nV_snoc]
                exact congrArg (fun y => some (HO.lst (nV (Si93.rows f.waits n)[i] ++ [V.int y]))) e0
        · rintro H' ⟨sm4, rs, hrs, hrr⟩
          have l1 := Paired.length hrr
          have l2 := Paired.length hqq
          rw [List.length_map, List.length_range] at l1
          rw [ext_many, List.length_take] at l2
          have l3 : qs.length ≤ 256 * 4 := by
            rw [l2]
            exact Nat.mul_le_mul (by omega) (by omega)
          refine ⟨lg, D, _, _, rfl, rfl, sm4 _ _ hlc, hrs, ?_, ?_⟩
          · rw [List.length_map, List.length_map, sizeLine_eq]
            omega
          · have hlpl : pl ≠ lg := ne_of_none hps hlg
            refine ⟨_, qs ++ rs, rfl, same_put (smc.trans sm4) hHlg, ?_, ?_, ?_, ?_⟩
            · rw [upd_ne hlpl]
              exact sm4 _ _ hpc
            · rw [upd_same, List.map_append]
            · rw [take_snoc (List.getElem?_eq_getElem hir), List.flatMap_append]
              refine pair_app (ne_keep (fun b o e d1 d2 => ?_) hqq) ?_
              · rw [upd_ne d1]
                exact sm4 _ _ e
              · rw [List.flatMap_cons, List.flatMap_nil, List.append_nil]
                exact pair_imp (fun r l h => ⟨h.2.1, h.2.1, by show upd _ lg _ r = _; rw [upd_ne h.2.1]; exact h.2.2⟩) hrr
            · refine ne_keep (fun b o e d1 d2 => ?_) hpq
              rw [upd_ne d1]
              exact sm4 _ _ e
      · rintro σ H' ⟨s4, qs, rfl, smc, hpc, hlc, hqq, hpq⟩
        refine ⟨_, rfl, _, _, _, lg, qs, rfl, smc, hHlg, hlc, ?_⟩
        rw [List.length_map, hpn, List.take_length] at hqq
        rw [rows_snoc]
        exact in_of hqq
    · rintro σ H' ⟨s2, s3, s4, pl, ps, rfl, sm, hpl, hps, hpp⟩
      rw [List.length_map, h3] at hpp
      exact ⟨_, rfl, k H' pl ps sm hpl hps hpp⟩
end
end Wb
namespace Wb
open PySem PySem.Spec PyProof.Rows L2
/-! ### can_be -/
def good (f : Si93.Field) (l : List Nat) : Bool := (f.late l).isNone && (f.bad l).isNone
def spCanBe (K : PySem.W.Frag) (CF CB : Addr) : Sp := fun vs H R _ => ∃ (a hl bl p : Addr) (f : Si93.Field) (l : List Nat), vs = [.ref a, .ref p] ∧ FieldAt CF CB H a hl bl f ∧ WF f ∧ NatsAt K H p l ∧ l.length = f.count ∧
  ∀ H', Same H H' → R (.bl (good f l)) H'
theorem scCanBe : FnScope ["field", "plan"] ["field", "plan"] (defScope (topS 11)) := ⟨rfl, rfl, rfl, by decide +kernel, rfl, by decide +kernel, by decide +kernel⟩
section
variable {P : Program} {w : World} {K : PySem.W.Frag} {mg : Str → Option Value} {base : Heap} {CF CB : Addr}
theorem ok_canBe {f g1 g2 : Addr} {fd gd1 gd2 : FuncData} (F : Fun K "can_be" "can_be" (topS 11) f fd) (G1 : Callee P w K mg base 3 "first_beyond_hours" ["field", "plan"] (spLate K CF CB) g1 gd1)
    (G2 : Callee P w K mg base 2 "first_too_near" ["field", "plan"] (spBad K CF CB) g2 gd2) : FnOk P w K mg base CX0 4 f fd ["field", "plan"] (spCanBe K CF CB) := by
  refine F.ok scCanBe (fun vs H R E h => ?_) (fun cdv A outer s H vs R E hr h => ?_)
  · obtain ⟨a, hl, bl, p, f, l, rfl, _⟩ := h
    rfl
  · obtain ⟨a, hl, bl, p, f, l, rfl, hF, W, hP, hlen, k⟩ := h
    refine ⟨_, pss_one (ps_ret (pe_and (pe_cmp (pc_isN (pe_call G1.ok hr (by rfl) G1.g G1.kp G1.b .nil pass0 (pa_cons (pv 0) (pa_cons (pv 1) pa_nil)))) rfl)
      (pe_one (pe_cmp (pc_isN (pe_call G2.ok (hr.mono (by decide)) (by rfl) G2.g G2.kp G2.b .nil pass0 (pa_cons (pv 0) (pa_cons (pv 1) pa_nil)))) rfl)))), ?_⟩
    refine ⟨_, rfl, _, rfl, a, hl, bl, p, f, l, rfl, hF, hP, hlen, fun H1 sm => ⟨_, rfl, ?_⟩⟩
    cases e : f.late l with
    | some i =>
      have eL : lateV f l = .int (i : Int) := by
        unfold lateV
        rw [e]
      rw [eL]
      refine ifF rfl ?_
      have := k H1 sm
      unfold good at this
      rw [e] at this
      exact this
    | none =>
      have eL : lateV f l = .non := by
        unfold lateV
        rw [e]
      rw [eL]
      refine ifT rfl ?_
      refine ⟨_, rfl, _, rfl, a, hl, bl, p, f, l, rfl, hF.same sm, W, hP.same sm, hlen, e, ?_⟩
      unfold badR
      have hk := fun H2 (q : Same H1 H2) => k H2 (sm.trans q)
      unfold good at hk
      rw [e] at hk
      cases eb : f.bad l with
      | none =>
        rw [eb] at hk
        exact fun H2 sm2 => hk H2 sm2
      | some x =>
        rw [eb] at hk
        exact fun H2 q sm2 _ _ => hk H2 sm2
end
/-! ### plans_that_can_be -/
theorem plans_good (f : Si93.Field) : f.plans = (Si93.rows f.waits f.count).filter (good f) := plans_eq f
def spPlans (CF CB : Addr) : Sp := fun vs H R _ => ∃ (a hl bl : Addr) (f : Si93.Field), vs = [.ref a] ∧ FieldAt CF CB H a hl bl f ∧ WF f ∧
  ∀ H' p qs, Same H H' → H p = none → H' p = some (.lst (qs.map V.ref)) → Paired (NatsIn H') qs f.plans → R (.ref p) H'
theorem scPlans : FnScope ["field", "plan"] ["field"] (defScope (topS 12)) := ⟨rfl, rfl, rfl, by decide +kernel, rfl, by decide +kernel, by decide +kernel⟩
section
variable {P : Program} {w : World} {K : PySem.W.Frag} {mg : Str → Option Value} {base : Heap} {CF CB : Addr}
theorem ok_plans {f g1 g2 : Addr} {fd gd1 gd2 : FuncData} (F : Fun K "plans_that_can_be" "plans_that_can_be" (topS 12) f fd) (G1 : Callee P w K mg base 1 "every_plan" ["field"] (spEvery CF CB) g1 gd1)
    (G2 : Callee P w K mg base 4 "can_be" ["field", "plan"] (spCanBe K CF CB) g2 gd2) : FnOk P w K mg base CX0 5 f fd ["field"] (spPlans CF CB) := by
  refine F.ok scPlans (fun vs H R E h => ?_) (fun cdv A outer s H vs R E hr h => ?_)
  · obtain ⟨a, hl, bl, f, rfl, _⟩ := h
    rfl
  · obtain ⟨a, hl, bl, f, rfl, hF, W, k⟩ := h
    refine ⟨_, pss_one (ps_ret (pe_lc (own := [("plan", 1)]) (g := gName 1) rfl scPlans.nd (pi_list (pe_call G1.ok (hr.mono (by decide)) (by rfl) G1.g G1.kp G1.b .nil pass0 (pa_cons (pv 0) pa_nil)))
      (blkOk_by (N := ["field", "plan"]) (sc := defScope (topS 12)) (by decide +kernel)) (fun _ _ _ _ _ => pg_name (i := 1) scPlans.nd rfl (.inl rfl) (.inr rfl))
      (fun _ _ _ _ _ => pts_one (pt_val (pe_call G2.ok hr (by rfl) G2.g G2.kp G2.b .nil pass0 (pa_cons (pv 0) (pa_cons (pv 1) pa_nil))))) (fun _ _ _ _ _ => pv 1))), ?_⟩
    refine ⟨_, rfl, a, hl, bl, f, rfl, hF, W, fun H1 pl ps sm hpl hps hpp => ⟨pl, rfl, ⟨_, SqL.of hps⟩, fun D hD => ?_⟩⟩
    have hlp := Paired.length hpp
    have hc4 : f.count ≤ 4 := W.bal
    have few := rows_few (n := f.count) W.w3 hc4
    refine lc_it (n := (ps.map V.ref).length) walk_list (fun i H' => Same H1 H' ∧ ∃ rs : List Addr, H' D = some (.lst (rs.map V.ref)) ∧ Paired (NatsNe H' D D) rs (((Si93.rows f.waits f.count).take i).filter (good f)))
      ⟨same_new hD, [], upd_same, .nil⟩ (fun i H' _ q => SqL.of (q.1 _ _ hps)) ?_ ?_
    · rintro i v H2 H3 hi ⟨sm2, rs, hrs, hrr⟩ ⟨q1, hv⟩
      subst H3
      rw [List.length_map] at hi
      have hir : i < (Si93.rows f.waits f.count).length := by omega
      obtain ⟨q, hq1, hq2⟩ := pair_at hpp (List.getElem?_eq_getElem hir)
      obtain rfl := ref_at hq1 hv
      have hqD : q ≠ D := ne_of_none hq2 hD
      have sm3 : Same H H2 := sm.trans sm2
      have hrl : rs.length ≤ 256 := by
        have z := Paired.length hrr
        have z2 := List.length_filter_le (good f) ((Si93.rows f.waits f.count).take i)
        rw [List.length_take] at z2
        omega
      refine ⟨rfl, _, rfl, _, rfl, a, hl, bl, q, f, (Si93.rows f.waits f.count)[i], rfl, hF.same sm3, W, NatsIn.at_ (sm2 _ _ hq2), (rows_mem (List.getElem_mem hir)).1, fun H3 sm4 => ⟨_, rfl, ?_⟩⟩
      rw [take_snoc (List.getElem?_eq_getElem hir), List.filter_append]
      by_cases c : good f (Si93.rows f.waits f.count)[i] = true
      · refine ifT c ⟨_, rfl, _, sm4 _ _ hrs, ?_, same_put (sm2.trans sm4) hD, rs ++ [q], ?_, ?_⟩
        · rw [List.length_map]
          exact small1000 (by omega)
        · rw [upd_same, List.map_append] <;> rfl
        · rw [List.filter_cons_of_pos c, List.filter_nil]
          refine pair_app (ne_keep (fun b o e d1 d2 => ?_) hrr) (.cons ⟨hqD, hqD, ?_⟩ .nil)
          · rw [upd_ne d1]
            exact sm4 _ _ e
          · show upd _ D _ q = _
            rw [upd_ne hqD]
            exact sm4 _ _ (sm2 _ _ hq2)
      · have c' : good f (Si93.rows f.waits f.count)[i] = false := by simpa using c
        refine ifF c' ⟨sm2.trans sm4, rs, sm4 _ _ hrs, ?_⟩
        rw [List.filter_cons_of_neg c, List.filter_nil, List.append_nil]
        exact ne_same sm4 hrr
    · rintro H2 ⟨sm2, rs, hrs, hrr⟩
      rw [List.length_map, hlp, List.take_length, ← plans_good] at hrr
      exact k H2 D rs (sm.trans sm2) (sm.free hD) hrs (in_of hrr)
end
/-! ### least_of -/
open PySem.W (minOf DatumOrd)
def enc2 (p : Nat × Nat) : List Int := [(p.1 : Int), (p.2 : Int)]
def bl2 (p q : Nat × Nat) : Bool := Si93.better p.1 p.2 q.1 q.2
def minB (p : Nat × Nat) (ps : List (Nat × Nat)) : Nat × Nat := ps.foldl (fun a y => if bl2 y a = true then y else a) p
theorem lt2 (p q : Nat × Nat) : DatumOrd.lt (enc2 p) (enc2 q) = bl2 p q := by
  show (if (p.1 : Int) = (q.1 : Int) then (if (p.2 : Int) = (q.2 : Int) then false else decide ((p.2 : Int) < (q.2 : Int))) else decide ((p.1 : Int) < (q.1 : Int))) = bl2 p q
  unfold bl2 Si93.better
  by_cases c : p.1 = q.1
  · rw [if_pos (by omega)]
    by_cases d : p.2 = q.2
    · rw [if_pos (by omega), c, d]
      simp
    · rw [if_neg (by omega), c]
      simp
  · rw [if_neg (by omega)]
    have e : (p.1 == q.1) = false := beq_eq_false_iff_ne.mpr c
    rw [e, Bool.false_and, Bool.or_false]
    exact decide_eq_decide.mpr (by omega)
theorem minOf_enc (p : Nat × Nat) (ps : List (Nat × Nat)) : minOf (enc2 p) (ps.map enc2) = enc2 (minB p ps) := by
  show (ps.map enc2).foldl (fun a y => if DatumOrd.lt y a = true then y else a) (enc2 p) = enc2 (ps.foldl (fun a y => if bl2 y a = true then y else a) p)
  induction ps generalizing p with
  | nil => rfl
  | cons y ys ih =>
    rw [List.map_cons, List.foldl_cons, List.foldl_cons, lt2]
    by_cases c : bl2 y p = true
    · rw [if_pos c, if_pos c]
      exact ih y
    · rw [if_neg c, if_neg c]
      exact ih p
theorem minB_is : ∀ (ps : List (Nat × Nat)) (p : Nat × Nat), minB p ps ∈ p :: ps ∧ ∀ y ∈ p :: ps, ¬ bl2 y (minB p ps) = true
  | [], p => by
    refine ⟨List.mem_cons_self .., fun y hy => ?_⟩
    obtain rfl : y = p := by simpa using hy
    show ¬ bl2 y y = true
    unfold bl2
    rw [better_iff]
    omega
  | y :: ps, p => by
    have ih := minB_is ps (if bl2 y p = true then y else p)
    have e : minB p (y :: ps) = minB (if bl2 y p = true then y else p) ps := rfl
    rw [e]
    obtain ⟨i1, i2⟩ := ih
    have h0 := i2 _ (List.mem_cons_self ..)
    generalize minB (if bl2 y p = true then y else p) ps = m at *
    refine ⟨?_, fun z hz => ?_⟩
    · rcases List.mem_cons.mp i1 with q | q
      · rw [q]
        split <;> simp
      · simp [q]
    · rcases List.mem_cons.mp hz with rfl | hz
      · by_cases c : bl2 y z = true
        · rw [if_pos c] at h0
          unfold bl2 at *
          rw [better_iff] at *
          omega
        · rw [if_neg c] at h0
          exact h0
      · rcases List.mem_cons.mp hz with rfl | hz
        · by_cases c : bl2 z p = true
          · rw [if_pos c] at h0
            exact h0
          · rw [if_neg c] at h0
            unfold bl2 at *
            rw [better_iff] at *
            omega
        · exact i2 z (List.mem_cons_of_mem _ hz)
theorem enc2_inj {p q : Nat × Nat} (h : enc2 p = enc2 q) : p = q := by
  unfold enc2 at h
  simp only [List.cons.injEq] at h
  exact Prod.ext (by omega) (by omega)
def IntsIn (H : Hp) (q : Addr) (l : List Int) : Prop := H q = some (.lst (l.map V.int))
def spLeast : Sp := fun vs H R _ => ∃ (p m : Addr) (qs rs : List Addr) (ps : List (List Nat)) (g h : List Nat → Nat), vs = [.ref p, .ref m] ∧ H p = some (.lst (qs.map V.ref)) ∧ Paired (NatsIn H) qs ps ∧
  H m = some (.lst (rs.map V.ref)) ∧ Paired (IntsIn H) rs (ps.map fun l => enc2 (g l, h l)) ∧ ps ≠ [] ∧ (∀ l ∈ ps, l.length ≤ 4) ∧
  ∀ x, ps.foldl (stepB g h) none = some x → ∀ H' z, Same H H' → H z = none → H' z = some (.lst (nV (x.first :: x.second :: x.many :: x.row))) → R (.ref z) H'
theorem scLeast : FnScope ["plans", "measures", "least"] ["plans", "measures"] (defScope (topS 13)) := ⟨rfl, rfl, rfl, by decide +kernel, rfl, by decide +kernel, by decide +kernel⟩
section
variable {P : Program} {w : World} {K : PySem.W.Frag} {mg : Str → Option Value} {base : Heap} {CF CB : Addr}
theorem ok_least {f : Addr} {fd : FuncData} (F : Fun K "least_of" "least_of" (topS 13) f fd) (T : Txt K mg CF CB) : FnOk P w K mg base CX0 1 f fd ["plans", "measures"] spLeast := by
  refine F.ok scLeast (fun vs H R E h => ?_) (fun cdv A outer s H vs R E hr h => ?_)
  · obtain ⟨p, m, qs, rs, ps, g, h, rfl, _⟩ := h
    rfl
  · obtain ⟨p, m, qs, rs, ps, g, h, rfl, hp, hpp, hm, hmm, hne, hlen, k⟩ := h
    refine ⟨_, pss_cons (ps_set (i := 2) scLeast.nd rfl (.inl rfl) (pe_callB (cr_minLL rfl hr.units) (by rfl) T.min (by decide +kernel) (pa_cons (pv 1) pa_nil)))
      (pss_one (ps_ret (pe_op op_cat (pe_op op_cat (pv 2) (pe_lst (pa_cons (pe_bm PySem.F.plainAttrs_list PySem.F.slot_list_count PySem.F.type_list_count (mt_countLL hr.units) (pv 1) (pa_cons (pv 2) pa_nil)) pa_nil)))
        (pe_ix ix_list (pv 0) (pe_bm PySem.F.plainAttrs_list PySem.F.slot_list_index PySem.F.type_list_index (mt_indexLL hr.units) (pv 1) (pa_cons (pv 2) pa_nil)) (fun _ _ => rfl))))), ?_⟩
    obtain ⟨p0, pr, rfl⟩ : ∃ a b, ps = a :: b := by
      cases ps with
      | nil => exact absurd rfl hne
      | cons a b => exact ⟨a, b, rfl⟩
    have hmm' : Paired (IntsAt K H) rs (enc2 (g p0, h p0) :: (pr.map fun l => enc2 (g l, h l))) := pair_imp (fun q l z => SqL.of z) hmm
    have em : minOf (enc2 (g p0, h p0)) (pr.map fun l => enc2 (g l, h l)) = enc2 (minB (g p0, h p0) (pr.map fun l => (g l, h l))) := by
      rw [← minOf_enc, List.map_map] <;> rfl
    obtain ⟨b1, b2⟩ := minB_is (pr.map fun l => (g l, h l)) (g p0, h p0)
    generalize minB (g p0, h p0) (pr.map fun l => (g l, h l)) = best at *
    refine ⟨_, rfl, m, rs, _, _, rfl, SqL.of hm, hmm', fun i q hq hi => ?_⟩
    rw [em] at hi
    obtain ⟨l0, hl0, hq2⟩ := pair_of hmm hq
    have el0 : l0 = enc2 best := by
      have hi' : (((p0 :: pr).map fun l => enc2 (g l, h l)))[i]? = some (enc2 best) := hi
      rw [hl0] at hi'
      exact Option.some.inj hi'
    subst el0
    have hq3 : H q = some (.lst [.int (best.1 : Int), .int (best.2 : Int)]) := hq2
    have hmem : enc2 best ∈ (p0 :: pr).map fun l => enc2 (g l, h l) := List.mem_of_getElem? hl0
    refine ⟨_, rfl, _, rfl, .inl ⟨rfl, _, SqL.of hm⟩, _, rfl, m, q, rs, enc2 best, _, rfl, rfl, SqL.of hm, hmm', SqL.of hq2, ?_⟩
    refine ⟨(by show 1 ≤ sizeLine; decide), fun u hu => ?_⟩
    have sm1 := same_new (o := HO.lst [V.int (((enc2 (g p0, h p0) :: (pr.map fun l => enc2 (g l, h l))).countP fun y => decide (y = enc2 best) : Nat) : Int)]) hu
    refine ⟨q, u, _, _, rfl, rfl, sm1 _ _ hq3, upd_same, (by show 2 + 1 ≤ sizeLine; decide), fun v hv => ?_⟩
    have sm2 := sm1.trans (same_new (o := HO.lst ([V.int (best.1 : Int), V.int (best.2 : Int)] ++ [V.int (((enc2 (g p0, h p0) :: (pr.map fun l => enc2 (g l, h l))).countP fun y => decide (y = enc2 best) : Nat) : Int)])) hv)
    refine ⟨_, rfl, _, rfl, .inl ⟨rfl, _, SqL.of (sm2 _ _ hm)⟩, _, rfl, m, q, rs, enc2 best, _, rfl, rfl, SqL.of (sm2 _ _ hm), pair_imp (fun q l z => SqL.of (sm2 _ _ z)) hmm, SqL.of (sm2 _ _ hq2), hmem, fun j hj hj2 => ?_⟩
    rw [List.getElem?_map] at hj
    obtain ⟨row, hrow, erow⟩ := Option.map_eq_some_iff.mp hj
    obtain ⟨t, ht1, ht2⟩ := pair_at hpp hrow
    refine ⟨p, _, _, _, rfl, rfl, SqL.of (sm2 _ _ hp), at_of (j := j) rfl (by rw [List.getElem?_map, ht1] <;> rfl), ?_⟩
    refine ⟨v, t, _, _, rfl, rfl, upd_same, sm2 _ _ ht2, ?_, fun z hz => ?_⟩
    · have := hlen row (List.mem_of_getElem? hrow)
      rw [nV_len]
      exact Nat.le_of_lt (small1000 (by show 3 + row.length ≤ 1000; omega))
    · have e3 := enc2_inj erow
      have hb := bestBy_is (g := g) (h := h) (ps := p0 :: pr) (a := best.1) (b := best.2) (j := j) (row := row) hrow (by rw [← e3]) (by rw [← e3])
        (fun l hl => by
          have z2 := b2 (g l, h l) (by
            rcases List.mem_cons.mp hl with rfl | hl
            · exact List.mem_cons_self ..
            · exact List.mem_cons_of_mem _ (List.mem_map.mpr ⟨l, hl, rfl⟩))
          have z3 : ¬ Si93.better (g l) (h l) best.1 best.2 = true := z2
          simpa using z3)
        (fun i' hi' l hl z2 => hj2 i' hi' (by
          rw [List.getElem?_map, hl]
          show some (enc2 (g l, h l)) = _
          rw [z2.1, z2.2]))
      refine k _ hb _ z (sm2.trans (same_new hz)) (sm2.free hz) ?_
      rw [upd_same]
      have ec : ((p0 :: pr).map fun l => enc2 (g l, h l)).countP (fun y => decide (y = enc2 best)) = (p0 :: pr).countP (fun l => g l == best.1 && h l == best.2) := by
        rw [List.countP_map]
        congr 1
        funext l
        show decide (enc2 (g l, h l) = enc2 best) = (g l == best.1 && h l == best.2)
        rw [Bool.eq_iff_iff, decide_eq_true_eq, Bool.and_eq_true, beq_iff_eq, beq_iff_eq]
        constructor
        · intro z2
          have := enc2_inj z2
          rw [← this]
          exact ⟨rfl, rfl⟩
        · intro z2
          rw [z2.1, z2.2]
      show some (HO.lst ((([V.int (best.1 : Int), V.int (best.2 : Int)] ++ [V.int ((((p0 :: pr).map fun l => enc2 (g l, h l)).countP fun y => decide (y = enc2 best) : Nat) : Int)]) ++ nV row))) = _
      rw [ec]
      simp only [nV_eq]
      rfl
end
end Wb
namespace Wb
open PySem PySem.Spec PyProof.Rows L2
/-! ### the classes -/
theorem ptH {f : Str} {v x : V} {r : List (Str × V)} : putF f v ((f, x) :: r) = (f, v) :: r := if_pos rfl
theorem ptP {f g : Str} {v x : V} {r : List (Str × V)} (h : ¬ g = f) : putF f v ((g, x) :: r) = (g, x) :: putF f v r := if_neg h
theorem putF_more (f : Str) (v : V) : ∀ fs : List (Str × V), (putF f v fs).length ≤ fs.length + 1
  | [] => Nat.le_refl _
  | (g, x) :: r => by
    have ih := putF_more f v r
    unfold putF
    split
    · simp
    · simpa using ih
def bNew (e n : Int) (fl : Addr) : List (Str × V) := [("east", .int e), ("north", .int n), ("flight", .ref fl)]
theorem bNew_put (e n : Int) (fl : Addr) : putF "flight" (.ref fl) (putF "north" (.int n) (putF "east" (.int e) [])) = bNew e n fl := by
  show putF "flight" (.ref fl) (putF "north" (.int n) [("east", .int e)]) = bNew e n fl
  rw [ptP (by decide +kernel)]
  show putF "flight" (.ref fl) [("east", .int e), ("north", .int n)] = bNew e n fl
  rw [ptP (by decide +kernel), ptP (by decide +kernel)]
  rfl
def spBInit (CB : Addr) : Sp := fun vs H R _ => ∃ (p dx fl : Addr) (e n : Int), vs = [.ref p, .int e, .int n, .ref fl] ∧ H p = some (.ins CB dx []) ∧
  ∀ H', H' p = some (.ins CB dx (bNew e n fl)) → (∀ b o, H b = some o → b ≠ p → H' b = some o) → R .non H'
abbrev sBInit : Stmt := inClass (topS 15) 0
abbrev sFInit : Stmt := inClass (topS 16) 0
abbrev sFBegin : Stmt := inClass (topS 16) 1
theorem scBInit : FnScope ["self", "east", "north", "flight"] ["self", "east", "north", "flight"] (defScope sBInit) := ⟨rfl, rfl, rfl, by decide +kernel, rfl, by decide +kernel, by decide +kernel⟩
section
variable {P : Program} {w : World} {K : PySem.W.Frag} {mg : Str → Option Value} {base : Heap} {CF CB : Addr}
theorem ok_bInit {f : Addr} {fd : FuncData} (F : Fun K "__init__" "Balloon.__init__" sBInit f fd) (T : Txt K mg CF CB) : FnOk P w K mg base CX0 1 f fd ["self", "east", "north", "flight"] (spBInit CB) := by
  refine F.ok scBInit (fun vs H R E h => ?_) (fun cdv A outer s H vs R E hr h => ?_)
  · obtain ⟨p, dx, fl, e, n, rfl, _⟩ := h
    rfl
  · obtain ⟨p, dx, fl, e, n, rfl, hp, k⟩ := h
    refine ⟨_, pss_cons (ps_fld (pv 0) (pv 1) rfl) (pss_cons (ps_fld (pv 0) (pv 2) rfl) (pss_one (ps_fld (pv 0) (pv 3) rfl))), ?_⟩
    refine ⟨_, rfl, _, rfl, p, CB, dx, [], rfl, hp, T.clB, T.nEa, (by show 0 < 1000; decide), ?_⟩
    refine ⟨_, rfl, _, rfl, p, CB, dx, _, rfl, upd_same, T.clB, T.nNo, (by show 1 < 1000; decide), ?_⟩
    refine ⟨_, rfl, _, rfl, p, CB, dx, _, rfl, upd_same, T.clB, T.nFl, Nat.lt_of_le_of_lt (putF_more _ _ _) (by show 1 + 1 < 1000; decide), ?_⟩
    refine k _ ?_ fun b o eb hb => ?_
    · rw [upd_same, bNew_put]
    · rw [upd_ne hb, upd_ne hb, upd_ne hb]
      exact eb
end
/-! ### begin -/
theorem fF_put {f0 : Si93.Field} {h0 b0 : Addr} {fs : List (Str × V)} (hfs : fs = [] ∨ fs = fF f0 h0 b0) (f : Si93.Field) (hl bl : Addr) :
    putF "balloons" (.ref bl) (putF "hours" (.ref hl) (putF "longest_wait" (.int (f.waits : Int)) (putF "near" (.int (f.near : Int)) (putF "heights" (.int (f.heights : Int)) fs)))) = fF f hl bl := by
  rcases hfs with rfl | rfl
  · show putF "balloons" (.ref bl) (putF "hours" (.ref hl) (putF "longest_wait" (.int (f.waits : Int)) (putF "near" (.int (f.near : Int)) [("heights", .int (f.heights : Int))]))) = fF f hl bl
    rw [ptP (by decide +kernel)]
    show putF "balloons" (.ref bl) (putF "hours" (.ref hl) (putF "longest_wait" (.int (f.waits : Int)) [("heights", .int (f.heights : Int)), ("near", .int (f.near : Int))])) = fF f hl bl
    rw [ptP (by decide +kernel), ptP (by decide +kernel)]
    show putF "balloons" (.ref bl) (putF "hours" (.ref hl) [("heights", .int (f.heights : Int)), ("near", .int (f.near : Int)), ("longest_wait", .int (f.waits : Int))]) = fF f hl bl
    rw [ptP (by decide +kernel), ptP (by decide +kernel), ptP (by decide +kernel)]
    show putF "balloons" (.ref bl) [("heights", .int (f.heights : Int)), ("near", .int (f.near : Int)), ("longest_wait", .int (f.waits : Int)), ("hours", .ref hl)] = fF f hl bl
    rw [ptP (by decide +kernel), ptP (by decide +kernel), ptP (by decide +kernel), ptP (by decide +kernel)]
    rfl
  · unfold fF
    rw [ptH (f := "heights"), ptP (f := "near") (g := "heights") (by decide +kernel), ptH (f := "near"), ptP (f := "longest_wait") (g := "heights") (by decide +kernel), ptP (f := "longest_wait") (g := "near") (by decide +kernel), ptH (f := "longest_wait"), ptP (f := "hours") (g := "heights") (by decide +kernel), ptP (f := "hours") (g := "near") (by decide +kernel), ptP (f := "hours") (g := "longest_wait") (by decide +kernel), ptH (f := "hours"), ptP (f := "balloons") (g := "heights") (by decide +kernel), ptP (f := "balloons") (g := "near") (by decide +kernel), ptP (f := "balloons") (g := "longest_wait") (by decide +kernel), ptP (f := "balloons") (g := "hours") (by decide +kernel), ptH (f := "balloons")]
def spBegin (CF : Addr) : Sp := fun vs H R _ => ∃ (a dx : Addr) (fs : List (Str × V)) (h n t : Nat), vs = [.ref a, .int (h : Int), .int (n : Int), .int (t : Int)] ∧ H a = some (.ins CF dx fs) ∧ (fs = [] ∨ ∃ f hl bl, fs = fF f hl bl) ∧
  ∀ H' hl bl, H hl = none → H bl = none → hl ≠ bl → H' a = some (.ins CF dx (fF ⟨h, n, t, [], []⟩ hl bl)) → H' hl = some (.lst []) → H' bl = some (.lst []) → (∀ b o, H b = some o → b ≠ a → H' b = some o) → R .non H'
theorem scBegin : FnScope ["self", "heights", "near", "longest_wait"] ["self", "heights", "near", "longest_wait"] (defScope sFBegin) := ⟨rfl, rfl, rfl, by decide +kernel, rfl, by decide +kernel, by decide +kernel⟩
section
variable {P : Program} {w : World} {K : PySem.W.Frag} {mg : Str → Option Value} {base : Heap} {CF CB : Addr}
theorem ok_begin {f : Addr} {fd : FuncData} (F : Fun K "begin" "Field.begin" sFBegin f fd) (T : Txt K mg CF CB) : FnOk P w K mg base CX0 1 f fd ["self", "heights", "near", "longest_wait"] (spBegin CF) := by
  refine F.ok scBegin (fun vs H R E h => ?_) (fun cdv A outer s H vs R E hr h => ?_)
  · obtain ⟨a, dx, fs, h, n, t, rfl, _⟩ := h
    rfl
  · obtain ⟨a, dx, fs, h, n, t, rfl, ha, hfs, k⟩ := h
    refine ⟨_, pss_cons (ps_fld (pv 0) (pv 1) rfl) (pss_cons (ps_fld (pv 0) (pv 2) rfl) (pss_cons (ps_fld (pv 0) (pv 3) rfl) (pss_cons (ps_fld (pv 0) (pe_lst pa_nil) rfl) (pss_one (ps_fld (pv 0) (pe_lst pa_nil) rfl))))), ?_⟩
    have hz : fs.length ≤ 5 := by
      rcases hfs with rfl | ⟨f0, h0, b0, rfl⟩
      · exact Nat.zero_le _
      · exact Nat.le_refl 5
    have m1 := putF_more "heights" (.int (h : Int)) fs
    have m2 := putF_more "near" (.int (n : Int)) (putF "heights" (.int (h : Int)) fs)
    have m3 := putF_more "longest_wait" (.int (t : Int)) (putF "near" (.int (n : Int)) (putF "heights" (.int (h : Int)) fs))
    refine ⟨_, rfl, _, rfl, a, CF, dx, fs, rfl, ha, T.clF, T.nHt, by omega, ?_⟩
    refine ⟨_, rfl, _, rfl, a, CF, dx, _, rfl, upd_same, T.clF, T.nNr, by omega, ?_⟩
    refine ⟨_, rfl, _, rfl, a, CF, dx, _, rfl, upd_same, T.clF, T.nWt, by omega, ?_⟩
    refine ⟨(by show 0 ≤ sizeLine; decide), fun hl hhl => ?_⟩
    have n1 : a ≠ hl := ne_of_none upd_same hhl
    refine ⟨_, rfl, a, CF, dx, _, rfl, (upd_ne n1).trans upd_same, T.clF, T.nHr, by omega, ?_⟩
    have m4 := putF_more "hours" (.ref hl) (putF "longest_wait" (.int (t : Int)) (putF "near" (.int (n : Int)) (putF "heights" (.int (h : Int)) fs)))
    refine ⟨(by show 0 ≤ sizeLine; decide), fun bl hbl => ?_⟩
    have n2 : a ≠ bl := ne_of_none upd_same hbl
    have n3 : hl ≠ bl := by
      intro e
      subst e
      rw [upd_ne (fun z => n1 z.symm), upd_same] at hbl
      cases hbl
    refine ⟨_, rfl, a, CF, dx, _, rfl, (upd_ne n2).trans upd_same, T.clF, T.nBl, by omega, ?_⟩
    have hfs' : ∃ f0 h0 b0, fs = [] ∨ fs = fF f0 h0 b0 := by
      rcases hfs with rfl | ⟨f0, h0, b0, rfl⟩
      · exact ⟨Si93.init, 0, 0, .inl rfl⟩
      · exact ⟨f0, h0, b0, .inr rfl⟩
    obtain ⟨f0, h0, b0, hfs'⟩ := hfs'
    have hH : H hl = none := by
      rw [upd_ne (fun z => n1 z.symm), upd_ne (fun z => n1 z.symm), upd_ne (fun z => n1 z.symm)] at hhl
      exact hhl
    have hB : H bl = none := by
      rw [upd_ne (fun z => n2 z.symm), upd_ne (fun z => n3 z.symm), upd_ne (fun z => n2 z.symm), upd_ne (fun z => n2 z.symm), upd_ne (fun z => n2 z.symm)] at hbl
      exact hbl
    refine k _ hl bl hH hB n3 ?_ ?_ ?_ fun b o eb hb => ?_
    · rw [upd_same]
      exact congrArg (fun z => some (HO.ins CF dx z)) (fF_put hfs' ⟨h, n, t, [], []⟩ hl bl)
    · rw [upd_ne (fun z => n1 z.symm), upd_ne n3, upd_ne (fun z => n1 z.symm), upd_same]
    · rw [upd_ne (fun z => n2 z.symm), upd_same]
    · have e1 : b ≠ hl := ne_of_none eb hH
      have e2 : b ≠ bl := ne_of_none eb hB
      rw [upd_ne hb, upd_ne e2, upd_ne hb, upd_ne e1, upd_ne hb, upd_ne hb, upd_ne hb]
      exact eb
end
/-! ### the field's own __init__ -/
theorem field_new {CF CB : Addr} {H : Hp} {a hl bl dx : Addr} {h n t : Nat} (ha : H a = some (.ins CF dx (fF ⟨h, n, t, [], []⟩ hl bl))) (ne : hl ≠ bl) (h1 : H hl = some (.lst [])) (h2 : H bl = some (.lst [])) : FieldAt CF CB H a hl bl ⟨h, n, t, [], []⟩ :=
  ⟨⟨dx, ha⟩, ne, ⟨[], h1, .nil⟩, ⟨[], h2, .nil⟩⟩
def spFInit (CF CB : Addr) : Sp := fun vs H R _ => ∃ (a dx : Addr), vs = [.ref a] ∧ H a = some (.ins CF dx []) ∧
  ∀ H' hl bl, H hl = none → H bl = none → FieldAt CF CB H' a hl bl Si93.init → (∀ b o, H b = some o → b ≠ a → H' b = some o) → R .non H'
theorem scFInit : FnScope ["self"] ["self"] (defScope sFInit) := ⟨rfl, rfl, rfl, by decide +kernel, rfl, by decide +kernel, by decide +kernel⟩
section
variable {P : Program} {w : World} {K : PySem.W.Frag} {mg : Str → Option Value} {base : Heap} {CF CB : Addr}
/-- a method as it is called -/
structure CalleeM (P : Program) (w : World) (K : PySem.W.Frag) (mg : Str → Option Value) (base : Heap) (k : Nat) (C : Addr) (x : Str) (ps : List Str) (sp : Sp) (f : Addr) (fd : FuncData) : Prop where
  ok : FnOk P w K mg base CX0 k f fd ps sp
  m : Meth K C x f
  b : Binds K fd ps []
theorem ok_fInit {f g : Addr} {fd gd : FuncData} (F : Fun K "__init__" "Field.__init__" sFInit f fd) (T : Txt K mg CF CB) (G : CalleeM P w K mg base 1 CF "begin" ["self", "heights", "near", "longest_wait"] (spBegin CF) g gd) :
    FnOk P w K mg base CX0 2 f fd ["self"] (spFInit CF CB) := by
  refine F.ok scFInit (fun vs H R E h => ?_) (fun cdv A outer s H vs R E hr h => ?_)
  · obtain ⟨a, dx, rfl, _⟩ := h
    rfl
  · obtain ⟨a, dx, rfl, ha, k⟩ := h
    refine ⟨_, pss_one (ps_expr (pe_meth (pv 0) T.clF G.m G.ok hr G.b .nil pass0 (pa_cons pe_int (pa_cons pe_int (pa_cons pe_int pa_nil))))), ?_⟩
    refine ⟨_, rfl, a, dx, [], rfl, ha, rfl, a, dx, [], 1, 0, 0, rfl, ha, .inl rfl, fun H' hl bl n1 n2 n3 h1 h2 h3 hk => ?_⟩
    exact k H' hl bl n1 n2 (field_new h1 n3 h2 h3) hk
end
/-! ### can_be_flown -/
def flown (f : Si93.Field) (l : List Nat) : Bool := decide (l.length ≤ 5) && l.all fun h => decide (h < f.heights)
def spFly (K : PySem.W.Frag) (CF CB : Addr) : Sp := fun vs H R _ => ∃ (a hl bl p : Addr) (f : Si93.Field) (l : List Nat), vs = [.ref a, .ref p] ∧ FieldAt CF CB H a hl bl f ∧ NatsAt K H p l ∧
  ∀ H', Same H H' → R (.bl (flown f l)) H'
theorem scFly : FnScope ["field", "flight", "height"] ["field", "flight"] (defScope (topS 34)) := ⟨rfl, rfl, rfl, by decide +kernel, rfl, by decide +kernel, by decide +kernel⟩
section
variable {P : Program} {w : World} {K : PySem.W.Frag} {mg : Str → Option Value} {base : Heap} {CF CB : Addr}
theorem ok_fly {f : Addr} {fd : FuncData} (F : Fun K "can_be_flown" "can_be_flown" (topS 34) f fd) (T : Txt K mg CF CB) : FnOk P w K mg base CX0 1 f fd ["field", "flight"] (spFly K CF CB) := by
  obtain ⟨t6, c6⟩ := T.c6
  refine F.ok scFly (fun vs H R E h => ?_) (fun cdv A outer s H vs R E hr h => ?_)
  · obtain ⟨a, hl, bl, p, f, l, rfl, _⟩ := h
    rfl
  · obtain ⟨a, hl, bl, p, f, l, rfl, hF, hP, k⟩ := h
    obtain ⟨dx, h1⟩ := hF.obj
    refine ⟨_, pss_one (ps_ret (pe_and (pe_cmpR op_le (pe_callB call_len_seq (by rfl) T.len PySem.boot_len (pa_cons (pv 1) pa_nil)) (pe_glob (v := .int 5) rfl c6 ⟨_, rfl⟩) (nomark _))
      (pe_one (pe_callB (cr_all rfl) (by rfl) T.all (by decide +kernel) (pa_cons (pe_lc (own := [("height", 2)]) (g := gName 2) (tt := tYes) (te := tOp (rI0 fun i j => .bl (decide (i < j))) (tVar 2) (tFld K (tVar 0) "heights")) rfl scFly.nd (pi_list (pv 1))
        (blkOk_by (N := ["field", "flight", "height"]) (sc := defScope (topS 34)) (by decide +kernel)) (fun _ _ _ _ _ => pg_name (i := 2) scFly.nd rfl (.inl rfl) (.inr rfl)) (fun _ _ _ _ _ => pts_nil)
        (fun _ _ _ _ _ => pe_cmpR op_lt (pv 2) (pe_fld (pv 0) rfl) (nomark _))) pa_nil))))), ?_⟩
    refine ⟨_, rfl, p, _, rfl, .inl hP, _, _, rfl, rfl, _, rfl, ?_⟩
    by_cases c : l.length ≤ 5
    · refine ifT (decide_eq_true (by rw [nV_len]; omega)) ?_
      refine ⟨_, rfl, p, rfl, ⟨_, hP⟩, fun D hD => ?_⟩
      refine lc_it (n := (nV l).length) walk_list (fun i H' => Same H H' ∧ H' D = some (.lst (((l.take i).map fun h => decide (h < f.heights)).map V.bl))) ⟨same_new hD, upd_same⟩ (fun i H' _ q => q.1.seq hP) ?_ ?_
      · rintro i v H0 H1 hi ⟨sm, hD0⟩ ⟨q1, hv⟩
        subst H1
        rw [nV_len] at hi
        obtain rfl := nat_at hi hv
        refine ⟨rfl, _, rfl, _, rfl, a, CF, dx, _, _, rfl, sm _ _ h1, T.clF, T.nHt, fF_heights f hl bl, _, _, rfl, rfl, _, hD0, ?_, same_put sm hD, ?_⟩
        · rw [List.length_map, List.length_map, List.length_take]
          exact small1000 (by omega)
        · have ex : l[i]? = some (l.getD i 0) := by rw [List.getD_eq_getElem?_getD, List.getElem?_eq_getElem hi] <;> rfl
          rw [upd_same, take_snoc ex, List.map_append, List.map_append]
          have e2 : decide (((l.getD i 0 : Nat) : Int) < (f.heights : Int)) = decide (l.getD i 0 < f.heights) := decide_eq_decide.mpr (by omega)
          show some (HO.lst (_ ++ [V.bl (decide (((l.getD i 0 : Nat) : Int) < (f.heights : Int)))])) = _
          rw [e2]
          rfl
      · rintro H' ⟨sm, hD'⟩
        rw [nV_len, List.take_length] at hD'
        refine ⟨D, _, rfl, SqL.of hD', ?_⟩
        have e : (l.map fun h => decide (h < f.heights)).all id = l.all fun h => decide (h < f.heights) := by
          rw [List.all_map] <;> rfl
        rw [e]
        have := k H' sm
        unfold flown at this
        rw [decide_eq_true c, Bool.true_and] at this
        exact this
    · refine ifF (decide_eq_false (by rw [nV_len]; omega)) ?_
      have := k H (Same.refl H)
      unfold flown at this
      rw [decide_eq_false c, Bool.false_and] at this
      exact this
end
end Wb
namespace Wb
open PySem PySem.Spec PyProof.Rows L2
/-! ### a call -/
/-- g is no list of an hour and no flight -/
def Apart (CB : Addr) (H : Hp) (hl bl g : Addr) : Prop := ∃ hs bs : List Addr, H hl = some (.lst (hs.map V.ref)) ∧ H bl = some (.lst (bs.map V.ref)) ∧ (∀ q ∈ hs, q ≠ g) ∧ ∀ b ∈ bs, ∃ dx x fl, H b = some (.ins CB dx (bF x fl)) ∧ fl ≠ g
def ApKeep (CB : Addr) (H H' : Hp) (hl bl hl' bl' : Addr) : Prop := ∀ g o, H g = some o → Apart CB H hl bl g → Apart CB H' hl' bl' g
theorem apKeep_same {CB : Addr} {H H' : Hp} {hl bl : Addr} (e : Same H H') : ApKeep CB H H' hl bl hl bl := fun g o _ ap => by
  obtain ⟨hs, bs, z1, z2, z3, z4⟩ := ap
  refine ⟨hs, bs, e _ _ z1, e _ _ z2, z3, fun b hb => ?_⟩
  obtain ⟨dx, x, fl, z5, z6⟩ := z4 b hb
  exact ⟨dx, x, fl, e _ _ z5, z6⟩
theorem lst_inj {H : Hp} {p : Addr} {xs : List V} {hs : List Addr} (h : H p = some (.lst xs)) (h' : H p = some (.lst (hs.map V.ref))) : xs = hs.map V.ref := by
  rw [h] at h'
  injection h' with h'
  injection h'
def outs (r : Si93.Field × Si93.Ans) : HO := .lst ((r.2.v :: r.2.l).map V.int)
def spCall (n : Nat) (CF CB : Addr) : Sp := fun vs H R _ => ∃ (a hl bl t : Addr) (f : Si93.Field) (ts : List Nat) (c : Si93.Call), vs = [.ref a, .ref t] ∧ FieldAt CF CB H a hl bl f ∧ WF f ∧ NatsIn H t ts ∧ Kind (n, ts) c ∧
  ∀ H' p hl' bl', FieldAt CF CB H' a hl' bl' (Si93.step f c).1 → WF (Si93.step f c).1 → (hl' = hl ∨ H hl' = none) → (bl' = bl ∨ H bl' = none) → Frame H H' a hl bl → ApKeep CB H H' hl bl hl' bl' → H p = none → p ≠ hl' → p ≠ bl' → H' p = some (outs (Si93.step f c)) → R (.ref p) H'
/-- a call that turns nothing -/
theorem call_same {CF CB : Addr} {H H' : Hp} {R : VK} {a hl bl p : Addr} {f : Si93.Field} {c : Si93.Call} {r : Si93.Ans} (hF : FieldAt CF CB H a hl bl f) (W : WF f)
    (k : ∀ H' p hl' bl', FieldAt CF CB H' a hl' bl' (Si93.step f c).1 → WF (Si93.step f c).1 → (hl' = hl ∨ H hl' = none) → (bl' = bl ∨ H bl' = none) → Frame H H' a hl bl → ApKeep CB H H' hl bl hl' bl' → H p = none → p ≠ hl' → p ≠ bl' → H' p = some (outs (Si93.step f c)) → R (.ref p) H')
    (e : Si93.step f c = (f, r)) (sm : Same H H') (hp : H p = none) (hv : H' p = some (.lst ((r.v :: r.l).map V.int))) : R (.ref p) H' := by
  obtain ⟨hs, h1, _⟩ := hF.hrs
  obtain ⟨bs, h2, _⟩ := hF.bls
  refine k H' p hl bl ?_ ?_ (.inl rfl) (.inl rfl) (Frame.of sm) (apKeep_same sm) hp (fun z => ?_) (fun z => ?_) ?_
  · rw [e]
    exact hF.same sm
  · rw [e]
    exact W
  · rw [z, h1] at hp
    cases hp
  · rw [z, h2] at hp
    cases hp
  · rw [e]
    exact hv
/-! ### begins -/
theorem scBegins : FnScope ["field", "told", "heights", "near", "longest_wait"] ["field", "told"] (defScope (topS 32)) := ⟨rfl, rfl, rfl, by decide +kernel, rfl, by decide +kernel, by decide +kernel⟩
section
variable {P : Program} {w : World} {K : PySem.W.Frag} {mg : Str → Option Value} {base : Heap} {CF CB : Addr}
theorem ok_begins {f g : Addr} {fd gd : FuncData} (F : Fun K "begins" "begins" (topS 32) f fd) (T : Txt K mg CF CB) (G : CalleeM P w K mg base 1 CF "begin" ["self", "heights", "near", "longest_wait"] (spBegin CF) g gd) :
    FnOk P w K mg base CX0 2 f fd ["field", "told"] (spCall 0 CF CB) := by
  obtain ⟨t1, c1⟩ := T.c1
  obtain ⟨t2, c2⟩ := T.c2
  obtain ⟨t3, c3⟩ := T.c3
  obtain ⟨t9, c9⟩ := T.c9
  refine F.ok scBegins (fun vs H R E h => ?_) (fun cdv A outer s H vs R E hr h => ?_)
  · obtain ⟨a, hl, bl, t, f, ts, c, rfl, _⟩ := h
    rfl
  · obtain ⟨a, hl, bl, t, f, ts, c, rfl, hF, W, hT, hK, k⟩ := h
    refine ⟨_, pss_cons (ps_set (i := 2) scBegins.nd rfl (.inl rfl) (pe_ix ix_list (pv 1) pe_int (fun _ _ => rfl)))
      (pss_cons (ps_set (i := 3) scBegins.nd rfl (.inl rfl) (pe_ix ix_list (pv 1) pe_int (fun _ _ => rfl)))
      (pss_cons (ps_set (i := 4) scBegins.nd rfl (.inl rfl) (pe_ix ix_list (pv 1) pe_int (fun _ _ => rfl)))
      (pss_cons (ps_if (PW.pt (pw_or (pt_cmpR op_lt (pv 2) pe_int (nomark _)) (pw_or (pt_cmpR op_gt (pv 2) (pe_glob (v := .int 4) rfl c1 ⟨_, rfl⟩) (nomark _))
          (pw_or (pt_cmpR op_gt (pv 3) (pe_glob (v := .int 1000) rfl c2 ⟨_, rfl⟩) (nomark _)) (pw_or1 (pt_cmpR op_gt (pv 4) (pe_glob (v := .int 3) rfl c3 ⟨_, rfl⟩) (nomark _)))))))
        (pss_one (ps_ret (pe_lst (pa_cons (pe_glob (v := .int (-1)) rfl c9 ⟨_, rfl⟩) pa_nil)))) pss_nil)
      (pss_cons (ps_expr (pe_meth (pv 0) T.clF G.m G.ok hr G.b .nil pass0 (pa_cons (pv 2) (pa_cons (pv 3) (pa_cons (pv 4) pa_nil)))))
      (pss_one (ps_ret (pe_lst (pa_cons pe_int pa_nil)))))))), ?_⟩
    cases hK with
    | begins x y z =>
      refine ⟨_, rfl, t, _, (0 : Int), .int (x : Int), rfl, rfl, SqL.of hT, at_of (j := 0) rfl rfl, ?_⟩
      refine ⟨_, rfl, t, _, (1 : Int), .int (y : Int), rfl, rfl, SqL.of hT, at_of (j := 1) rfl rfl, ?_⟩
      refine ⟨_, rfl, t, _, (2 : Int), .int (z : Int), rfl, rfl, SqL.of hT, at_of (j := 2) rfl rfl, ?_⟩
      have hw : (x < 1 ∨ 4 < x ∨ 1000 < y ∨ 3 < z) → ∀ p, H p = none → R (.ref p) (upd H p (.lst [V.int (-1)])) := fun cc p hp => by
        have e : Si93.step f (.begins x y z) = (f, Si93.ok (-1)) := if_pos cc
        exact call_same hF W k e (same_new hp) hp upd_same
      refine ⟨_, rfl, _, _, rfl, rfl, _, rfl, ?_⟩
      by_cases d1 : x < 1
      · exact ifT (decide_eq_true (by omega)) (ifT rfl ⟨(by show 1 ≤ sizeLine; decide), fun p hp => hw (.inl d1) p hp⟩)
      refine ifF (decide_eq_false (by omega)) ⟨_, rfl, _, _, rfl, rfl, _, rfl, ?_⟩
      by_cases d2 : 4 < x
      · exact ifT (decide_eq_true (by omega)) (ifT rfl ⟨(by show 1 ≤ sizeLine; decide), fun p hp => hw (.inr (.inl d2)) p hp⟩)
      refine ifF (decide_eq_false (by omega)) ⟨_, rfl, _, _, rfl, rfl, _, rfl, ?_⟩
      by_cases d3 : 1000 < y
      · exact ifT (decide_eq_true (by omega)) (ifT rfl ⟨(by show 1 ≤ sizeLine; decide), fun p hp => hw (.inr (.inr (.inl d3))) p hp⟩)
      refine ifF (decide_eq_false (by omega)) ⟨_, rfl, _, _, rfl, rfl, _, rfl, ?_⟩
      by_cases d4 : 3 < z
      · exact ifT (decide_eq_true (by omega)) ⟨(by show 1 ≤ sizeLine; decide), fun p hp => hw (.inr (.inr (.inr d4))) p hp⟩
      refine ifF (decide_eq_false (by omega)) ?_
      have cc : ¬ (x < 1 ∨ Si93.HEIGHTS < x ∨ 1000 < y ∨ Si93.WAITS < z) := by
        have e1 : Si93.HEIGHTS = 4 := rfl
        have e2 : Si93.WAITS = 3 := rfl
        rw [e1, e2]
        omega
      have e : Si93.step f (.begins x y z) = (⟨x, y, z, [], []⟩, Si93.ok 0) := if_neg cc
      obtain ⟨dx, h1⟩ := hF.obj
      refine ⟨_, rfl, a, dx, _, rfl, h1, fF_begin f hl bl, _, rfl, _, rfl, _, rfl, a, dx, _, x, y, z, rfl, h1, .inr ⟨f, hl, bl, rfl⟩, fun H' hl' bl' n1 n2 n3 q1 q2 q3 hk => ?_⟩
      refine ⟨(by show 1 ≤ sizeLine; decide), fun p hp => ?_⟩
      have sm : Same H' (upd H' p (.lst [V.int 0])) := same_new hp
      have hpH : H p = none := by
        cases q : H p with
        | none => rfl
        | some o =>
          by_cases ea : p = a
          · rw [ea, q1] at hp
            cases hp
          · rw [hk p o q ea] at hp
            cases hp
      refine k _ p hl' bl' ?_ ?_ (.inr n1) (.inr n2) (fun b o eb d1 _ _ => sm _ _ (hk b o eb d1)) (fun g o _ _ => ⟨[], [], sm _ _ q2, sm _ _ q3, fun q hq => (by cases hq), fun b hb => (by cases hb)⟩) hpH (fun z => ?_) (fun z => ?_) ?_
      · rw [e]
        exact (field_new q1 n3 q2 q3).same sm
      · rw [e]
        exact wf_begins cc
      · rw [z, q2] at hp
        cases hp
      · rw [z, q3] at hp
        cases hp
      · rw [e]
        exact upd_same
end
/-! ### hour -/
theorem scHour : FnScope ["field", "told", "winds", "height"] ["field", "told"] (defScope (topS 33)) := ⟨rfl, rfl, rfl, by decide +kernel, rfl, by decide +kernel, by decide +kernel⟩
theorem told9 (n : Nat) : Si93.told n 9 = (n : Int) - 9 := rfl
theorem told100 (n : Nat) : Si93.told n 100 = (n : Int) - 100 := rfl
section
variable {P : Program} {w : World} {K : PySem.W.Frag} {mg : Str → Option Value} {base : Heap} {CF CB : Addr}
theorem ok_hour {f : Addr} {fd : FuncData} (F : Fun K "hour" "hour" (topS 33) f fd) (T : Txt K mg CF CB) : FnOk P w K mg base CX0 1 f fd ["field", "told"] (spCall 1 CF CB) := by
  obtain ⟨t4, c4⟩ := T.c4
  obtain ⟨t7, c7⟩ := T.c7
  obtain ⟨t9, c9⟩ := T.c9
  obtain ⟨t11, c11⟩ := T.c11
  refine F.ok scHour (fun vs H R E h => ?_) (fun cdv A outer s H vs R E hr h => ?_)
  · obtain ⟨a, hl, bl, t, f, ts, c, rfl, _⟩ := h
    rfl
  · obtain ⟨a, hl, bl, t, f, ts, c, rfl, hF, W, hT, hK, k⟩ := h
    refine ⟨_, pss_cons (ps_if (PW.pt (pw_or (pt_cmpR op_ne (pe_callB call_len_seq (by rfl) T.len PySem.boot_len (pa_cons (pv 1) pa_nil)) (pe_op op_mul pe_int (pe_fld (pv 0) rfl)) (nomark _))
          (pw_or1 (pt_cmpR op_gt (pe_callB (cr_max rfl) (by rfl) T.max (by decide +kernel) (pa_cons (pv 1) pa_nil)) (pe_op op_mul pe_int (pe_glob (v := .int 9) rfl c7 ⟨_, rfl⟩)) (nomark _)))))
        (pss_one (ps_ret (pe_lst (pa_cons (pe_glob (v := .int (-1)) rfl c9 ⟨_, rfl⟩) pa_nil)))) pss_nil)
      (pss_cons (ps_if (pt_cmpR op_eq (pe_callB call_len_seq (by rfl) T.len PySem.boot_len (pa_cons (pe_fld (pv 0) rfl) pa_nil)) (pe_glob (v := .int 8) rfl c4 ⟨_, rfl⟩) (nomark _))
        (pss_one (ps_ret (pe_lst (pa_cons (pe_glob (v := .int (-5)) rfl c11 ⟨_, rfl⟩) pa_nil)))) pss_nil)
      (pss_cons (ps_setLc (i := 2) (own := [("height", 3)]) (g := gName 3) (tt := tYes)
          (te := tTup (tCons (tOp (rI0 fun i j => .int (i - j)) (tOp (rIxL K) (tVar 1) (tOp (rI CMul fun i j => .int (i * j)) (tC (.int 2)) (tVar 3))) (tC (.int 9)))
            (tCons (tOp (rI0 fun i j => .int (i - j)) (tOp (rIxL K) (tVar 1) (tOp (rI0 fun i j => .int (i + j)) (tOp (rI CMul fun i j => .int (i * j)) (tC (.int 2)) (tVar 3)) (tC (.int 1)))) (tC (.int 9))) tNil)))
          rfl scHour.nd rfl rfl (sw_true rfl rfl rfl (by decide +kernel))
          (pi_range1 rfl T.range (pa_cons (pe_fld (pv 0) rfl) pa_nil)) (blkOk_by (N := ["field", "told", "winds", "height"]) (sc := defScope (topS 33)) (by decide +kernel))
          (fun _ _ _ _ _ => pg_name (i := 3) scHour.nd rfl (.inl rfl) (.inr rfl)) (fun _ _ _ _ _ => pts_nil)
          (fun _ _ _ _ _ => pe_tup (pa_cons (pe_op op_sub (pe_ix ix_list (pv 1) (pe_op op_mul pe_int (pv 3)) (fun _ _ => rfl)) (pe_glob (v := .int 9) rfl c7 ⟨_, rfl⟩))
            (pa_cons (pe_op op_sub (pe_ix ix_list (pv 1) (pe_op op_add (pe_op op_mul pe_int (pv 3)) pe_int) (fun _ _ => rfl)) (pe_glob (v := .int 9) rfl c7 ⟨_, rfl⟩)) pa_nil))))
      (pss_cons (ps_expr (pe_bm PySem.F.plainAttrs_list PySem.F.slot_list_append PySem.F.type_list_append mt_append (pe_fld (pv 0) rfl) (pa_cons (pv 2) pa_nil)))
      (pss_one (ps_ret (pe_lst (pa_cons (pe_op op_sub (pe_callB call_len_seq (by rfl) T.len PySem.boot_len (pa_cons (pe_fld (pv 0) rfl) pa_nil)) pe_int) pa_nil))))))), ?_⟩
    cases hK with
    | hour _ hlen =>
      obtain ⟨dx, h1⟩ := hF.obj
      obtain ⟨hs, w1, w2⟩ := hF.hrs
      obtain ⟨bs, w3, w4⟩ := hF.bls
      have hW1 := W.h1
      have hW4 := W.h4
      have hW8 := W.hrs
      have hw : (ts.length ≠ 2 * f.heights ∨ (ts.all fun n => decide (n ≤ 18)) = false) → ∀ p, H p = none → R (.ref p) (upd H p (.lst [V.int (-1)])) := fun cc p hp => by
        have e : Si93.step f (.hour ts) = (f, Si93.ok (-1)) := if_pos cc
        exact call_same hF W k e (same_new hp) hp upd_same
      refine ⟨_, rfl, t, _, rfl, .inl (SqL.of hT), _, rfl, a, CF, dx, _, _, rfl, h1, T.clF, T.nHt, fF_heights f hl bl, _, _, rfl, rfl, .inl ⟨by decide, by decide⟩, rfl, _, rfl, ?_⟩
      by_cases d1 : ts.length = 2 * f.heights
      · refine ifF ?_ ?_
        · rw [nV_len, d1]
          have e1 : V.int ((2 * f.heights : Nat) : Int) = V.int (2 * (f.heights : Int)) := congrArg V.int (by omega)
          rw [e1]
          simp
        refine ⟨_, rfl, t, ofNats ts, rfl, SqL.of hT, ?_, fun m hm hle => ?_⟩
        · unfold ofNats
          rw [List.length_map]
          omega
        refine ⟨_, _, rfl, rfl, .inl ⟨by decide, by decide⟩, _, _, rfl, rfl, _, rfl, ?_⟩
        obtain ⟨x, hx, ex⟩ : ∃ x ∈ ts, m = (x : Int) := by
          unfold ofNats at hm
          obtain ⟨x, hx, ex⟩ := List.mem_map.mp hm
          exact ⟨x, hx, ex.symm⟩
        by_cases d2 : 18 < x
        · refine ifT (decide_eq_true (by omega)) ⟨(by show 1 ≤ sizeLine; decide), fun p hp => hw (.inr ?_) p hp⟩
          rw [List.all_eq_false]
          exact ⟨x, hx, by simpa using d2⟩
        refine ifF (decide_eq_false (by omega)) ?_
        have hall : ∀ y ∈ ts, y ≤ 18 := fun y hy => by
          have := hle (y : Int) (by unfold ofNats; exact List.mem_map.mpr ⟨y, hy, rfl⟩)
          omega
        have cc : ¬ (ts.length ≠ 2 * f.heights ∨ (ts.all fun n => decide (n ≤ 18)) = false) := by
          rintro (q | q)
          · exact q d1
          · rw [List.all_eq_false] at q
            obtain ⟨y, hy, q⟩ := q
            exact q (decide_eq_true (hall y hy))
        have e1 : Si93.step f (.hour ts) = if Si93.HOURS ≤ f.winds.length then (f, Si93.ok (-5)) else ({ f with winds := f.winds ++ [Si93.pairsOf ts] }, Si93.ok ((f.winds.length : Nat) : Int)) := if_neg cc
        have eH : Si93.HOURS = 8 := rfl
        have hhs : (hs.map V.ref).length = f.winds.length := by rw [List.length_map, Paired.length w2]
        refine ⟨_, rfl, a, CF, dx, _, _, rfl, h1, T.clF, T.nHr, fF_hours f hl bl, hl, _, rfl, .inl (SqL.of w1), rfl, _, rfl, ?_⟩
        rw [hhs]
        by_cases d3 : f.winds.length = 8
        · refine ifT (by rw [d3]; rfl) ⟨(by show 1 ≤ sizeLine; decide), fun p hp => ?_⟩
          rw [if_pos (by omega)] at e1
          exact call_same hF W k e1 (same_new hp) hp upd_same
        refine ifF (decide_eq_false (fun z => d3 (by injection z with z; omega))) ?_
        rw [if_neg (by omega)] at e1
        have b1 := small62 (n := f.heights) (by omega)
        refine ⟨_, rfl, a, CF, dx, _, _, rfl, h1, T.clF, T.nHt, fF_heights f hl bl, (f.heights : Int), rfl, b1.1, b1.2, fun D hD => ?_⟩
        refine lc_it (n := f.heights) walk_range (fun i H' => Same H H' ∧ ∃ us : List Addr, H' D = some (.lst (us.map V.ref)) ∧ Paired (PlaceAt H') us ((List.range i).map fun h => (Si93.told (ts.getD (2 * h) 0) 9, Si93.told (ts.getD (2 * h + 1) 0) 9)))
          ⟨same_new hD, [], upd_same, .nil⟩ (fun _ _ _ _ => trivial) ?_ ?_
        · rintro i v H0 H1 hi ⟨sm, us, hus, huu⟩ ⟨q1, rfl⟩
          subst H1
          refine ⟨rfl, _, rfl, _, rfl, _, _, rfl, rfl, .inl ⟨by decide, by decide⟩, t, _, _, .int ((ts.getD (2 * i) 0 : Nat) : Int), rfl, rfl, SqL.of (sm _ _ hT), at_of (j := 2 * i) (by omega) (nV_getD (by omega)), _, _, rfl, rfl, ?_⟩
          refine ⟨_, rfl, _, rfl, _, _, rfl, rfl, .inl ⟨by decide, by decide⟩, _, _, rfl, rfl, t, _, _, .int ((ts.getD (2 * i + 1) 0 : Nat) : Int), rfl, rfl, SqL.of (sm _ _ hT), at_of (j := 2 * i + 1) (by omega) (nV_getD (by omega)), _, _, rfl, rfl, ?_⟩
          refine ⟨(by show 2 ≤ sizeLine; decide), fun p hp => ?_⟩
          have sm2 := same_new (o := HO.tup [V.int (((ts.getD (2 * i) 0 : Nat) : Int) - 9), V.int (((ts.getD (2 * i + 1) 0 : Nat) : Int) - 9)]) hp
          have hul := Paired.length huu
          rw [List.length_map, List.length_range] at hul
          refine ⟨_, sm2 _ _ hus, ?_, same_put (sm.trans sm2) hD, us ++ [p], ?_, ?_⟩
          · rw [List.length_map]
            exact small1000 (by omega)
          · rw [upd_same, List.map_append] <;> rfl
          · have hDp : D ≠ p := ne_of_none hus hp
            rw [range_snoc]
            refine pair_app (pair_imp (fun u x h => ?_) huu) (.cons ?_ .nil)
            · show upd _ D _ u = _
              rw [upd_ne (ne_of h hus (by intro z; cases z))]
              exact sm2 _ _ h
            · show upd _ D _ p = _
              rw [upd_ne (fun z => hDp z.symm), upd_same] <;> rfl
        · rintro H2 ⟨sm, us, hus, huu⟩
          refine ⟨_, rfl, a, CF, dx, _, _, rfl, sm _ _ h1, T.clF, T.nHr, fF_hours f hl bl, .inl ⟨rfl, _, SqL.of (sm _ _ w1)⟩, _, rfl, hl, _, _, rfl, rfl, sm _ _ w1, ?_, ?_⟩
          · rw [hhs]
            exact small1000 (by omega)
          have na : a ≠ hl := ne_of h1 w1 (by intro z; cases z)
          refine ⟨_, rfl, a, CF, dx, _, _, rfl, (upd_ne na).trans (sm _ _ h1), T.clF, T.nHr, fF_hours f hl bl, hl, _, rfl, .inl (SqL.of upd_same), _, _, rfl, rfl, (by show 1 ≤ sizeLine; decide), fun p hp => ?_⟩
          have np : hl ≠ p := ne_of_none upd_same hp
          have hpH : H p = none := by
            cases q : H p with
            | none => rfl
            | some o =>
              rw [upd_ne (fun z => np z.symm), sm _ _ q] at hp
              cases hp
          have nbl : bl ≠ p := ne_of_none w3 hpH
          have kk : ∀ (y : HO) (z : HO) (b : Addr) (o : HO), H b = some o → b ≠ hl → b ≠ bl → (upd (upd H2 hl y) p z) b = some o := fun y z b o eb d1 _ => by
            rw [upd_ne (ne_of_none eb hpH), upd_ne d1]
            exact sm _ _ eb
          have nD1 : D ≠ hl := fun z => by
            rw [z, w1] at hD
            cases hD
          have nD2 : D ≠ bl := fun z => by
            rw [z, w3] at hD
            cases hD
          have nDp : D ≠ p := fun z => by
            rw [← z, upd_ne nD1, hus] at hp
            cases hp
          refine k _ p hl bl ?_ ?_ (.inl rfl) (.inl rfl) (fun b o eb _ d2 d3 => kk _ _ b o eb d2 d3) (fun g o eg ap => ?_) hpH (fun z => np z.symm) (fun z => nbl z.symm) ?_
          · rw [e1]
            refine ⟨⟨dx, kk _ _ a _ h1 na (ne_of h1 w3 (by intro z; cases z))⟩, hF.ne, ⟨hs ++ [D], ?_, ?_⟩, ⟨bs, ?_, ?_⟩⟩
            · rw [upd_ne np, upd_same, List.map_append] <;> rfl
            · refine pair_app (hours_frame (kk _ _) ⟨_, w1⟩ ⟨_, w3⟩ w2) (.cons ⟨nD1, nD2, us, ?_, ?_⟩ .nil)
              · rw [upd_ne nDp, upd_ne nD1]
                exact hus
              · rw [pairs_eq _ _ d1]
                refine pair_imp (fun u x h => ?_) huu
                have h' : H2 u = some (.tup [.int x.1, .int x.2]) := h
                have n1 : u ≠ hl := ne_of h' (sm _ _ w1) (by intro z; cases z)
                have n2 : u ≠ p := fun z => by
                  rw [← z, upd_ne n1, h'] at hp
                  cases hp
                show upd _ p _ u = _
                rw [upd_ne n2, upd_ne n1]
                exact h'
            · rw [upd_ne nbl, upd_ne (fun z => hF.ne z.symm)]
              exact sm _ _ w3
            · exact bals_frame (kk _ _) ⟨_, w1⟩ ⟨_, w3⟩ w4
          · rw [e1]
            exact wf_hour W d1 hall (by omega)
          · obtain ⟨hs', bs', z1, z2, z3, z4⟩ := ap
            have eh := lst_inj w1 z1
            refine ⟨hs' ++ [D], bs', ?_, ?_, fun q hq => ?_, fun b hb => ?_⟩
            · rw [upd_ne np, upd_same, List.map_append, ← eh] <;> rfl
            · rw [upd_ne nbl, upd_ne (fun z => hF.ne z.symm)]
              exact sm _ _ z2
            · rcases List.mem_append.mp hq with hq | hq
              · exact z3 q hq
              · rw [List.mem_singleton.mp hq]
                intro z
                rw [z, eg] at hD
                cases hD
            · obtain ⟨dx', x', fl', z5, z6⟩ := z4 b hb
              exact ⟨dx', x', fl', kk _ _ b _ z5 (ne_of z5 w1 (by intro z; cases z)) (ne_of z5 w3 (by intro z; cases z)), z6⟩
          · rw [e1, upd_same]
            have ez : ((((hs.map V.ref) ++ [V.ref D]).length : Nat) : Int) - 1 = ((f.winds.length : Nat) : Int) := by
              rw [List.length_append, hhs]
              simp
            show some (HO.lst [V.int (((((hs.map V.ref) ++ [V.ref D]).length : Nat) : Int) - 1)]) = _
            rw [ez]
            rfl
      · refine ifT ?_ (ifT rfl ⟨(by show 1 ≤ sizeLine; decide), fun p hp => hw (.inl d1) p hp⟩)
        have q : ¬ V.int (((nV ts).length : Nat) : Int) = V.int (2 * (f.heights : Int)) := by
          rw [nV_len]
          intro z
          injection z with z
          omega
        show (!decide (V.int (((nV ts).length : Nat) : Int) = V.int (2 * (f.heights : Int)))) = true
        rw [decide_eq_false q] <;> rfl
end
end Wb
namespace Wb
open PySem PySem.Spec PyProof.Rows L2
/-! ### balloon -/
theorem cut2 (x y : Nat) (r : List Nat) : cutV (nV (x :: y :: r)) (some 2) none = nV r := by
  unfold cutV
  have e0 : HT.sIx (nV (x :: y :: r)).length 0 (some 2) = min 2 (nV (x :: y :: r)).length := HT.sIx_nat _ _ 2
  have e1 : (nV (x :: y :: r)).length = r.length + 2 := by rw [nV_len] <;> rfl
  rw [e0, HT.sIx_none, e1]
  have e2 : min 2 (r.length + 2) = 2 := by omega
  rw [e2]
  show (nV r).take (r.length + 2 - 2) = nV r
  rw [List.take_of_length_le (by rw [nV_len]; omega)]
theorem scBalloon : FnScope ["field", "told", "flight"] ["field", "told"] (defScope (topS 35)) := ⟨rfl, rfl, rfl, by decide +kernel, rfl, by decide +kernel, by decide +kernel⟩
section
variable {P : Program} {w : World} {K : PySem.W.Frag} {mg : Str → Option Value} {base : Heap} {CF CB : Addr}
theorem ok_balloon {f g1 g2 : Addr} {fd gd1 gd2 : FuncData} (F : Fun K "balloon" "balloon" (topS 35) f fd) (T : Txt K mg CF CB) (G1 : Callee P w K mg base 1 "can_be_flown" ["field", "flight"] (spFly K CF CB) g1 gd1)
    (M : Mk K CB g2) (G2 : FnOk P w K mg base CX0 1 g2 gd2 ["self", "east", "north", "flight"] (spBInit CB)) (b2 : Binds K gd2 ["self", "east", "north", "flight"] []) :
    FnOk P w K mg base CX0 3 f fd ["field", "told"] (spCall 2 CF CB) := by
  obtain ⟨t5, c5⟩ := T.c5
  obtain ⟨t8, c8⟩ := T.c8
  obtain ⟨t9, c9⟩ := T.c9
  obtain ⟨t11, c11⟩ := T.c11
  refine F.ok scBalloon (fun vs H R E h => ?_) (fun cdv A outer s H vs R E hr h => ?_)
  · obtain ⟨a, hl, bl, t, f, ts, c, rfl, _⟩ := h
    rfl
  · obtain ⟨a, hl, bl, t, f, ts, c, rfl, hF, W, hT, hK, k⟩ := h
    have hr1 : Room 1 _ := hr.mono (by decide)
    refine ⟨_, pss_cons (ps_set (i := 2) scBalloon.nd rfl (.inl rfl) (pe_slice sl_list (pv 1) (po_some pe_int) po_none))
      (pss_cons (ps_if (PW.pt (pw_or (pt_cmpR op_gt (pe_callB (call_max2 rfl) (by rfl) T.max (by decide +kernel) (pa_cons (pe_ix ix_list (pv 1) pe_int (fun _ _ => rfl)) (pa_cons (pe_ix ix_list (pv 1) pe_int (fun _ _ => rfl)) pa_nil)))
            (pe_op op_mul pe_int (pe_glob (v := .int 100) rfl c8 ⟨_, rfl⟩)) (nomark _))
          (pw_or1 (pt_not (pt_val (pe_call G1.ok hr1 (by rfl) G1.g G1.kp G1.b .nil pass0 (pa_cons (pv 0) (pa_cons (pv 2) pa_nil))))))))
        (pss_one (ps_ret (pe_lst (pa_cons (pe_glob (v := .int (-1)) rfl c9 ⟨_, rfl⟩) pa_nil)))) pss_nil)
      (pss_cons (ps_if (pt_cmpR op_eq (pe_callB call_len_seq (by rfl) T.len PySem.boot_len (pa_cons (pe_fld (pv 0) rfl) pa_nil)) (pe_glob (v := .int 4) rfl c5 ⟨_, rfl⟩) (nomark _))
        (pss_one (ps_ret (pe_lst (pa_cons (pe_glob (v := .int (-5)) rfl c11 ⟨_, rfl⟩) pa_nil)))) pss_nil)
      (pss_cons (ps_expr (pe_bm PySem.F.plainAttrs_list PySem.F.slot_list_append PySem.F.type_list_append mt_append (pe_fld (pv 0) rfl)
          (pa_cons (pe_make M G2 hr rfl T.gB b2 .nil pass0 (pa_cons (pe_op op_sub (pe_ix ix_list (pv 1) pe_int (fun _ _ => rfl)) (pe_glob (v := .int 100) rfl c8 ⟨_, rfl⟩))
            (pa_cons (pe_op op_sub (pe_ix ix_list (pv 1) pe_int (fun _ _ => rfl)) (pe_glob (v := .int 100) rfl c8 ⟨_, rfl⟩)) (pa_cons (pv 2) pa_nil)))) pa_nil)))
      (pss_one (ps_ret (pe_lst (pa_cons (pe_op op_sub (pe_callB call_len_seq (by rfl) T.len PySem.boot_len (pa_cons (pe_fld (pv 0) rfl) pa_nil)) pe_int) pa_nil))))))), ?_⟩
    cases hK with
    | balloon x y r hlen =>
      obtain ⟨dx, h1⟩ := hF.obj
      obtain ⟨hs, w1, w2⟩ := hF.hrs
      obtain ⟨bs, w3, w4⟩ := hF.bls
      have hB4 := W.bal
      refine ⟨_, rfl, _, rfl, t, _, rfl, SqL.of hT, fun fl hfl => ?_⟩
      rw [cut2]
      have sm1 : Same H (upd H fl (.lst (nV r))) := same_new (o := .lst (nV r)) hfl
      have hw : (200 < x ∨ 200 < y ∨ Si93.LONG < r.length ∨ (r.all fun h => decide (h < f.heights)) = false) → ∀ H1, Same H H1 → ∀ p, H1 p = none → R (.ref p) (upd H1 p (.lst [V.int (-1)])) := fun cc H1 sm p hp => by
        have e : Si93.step f (.balloon x y r) = (f, Si93.ok (-1)) := if_pos cc
        exact call_same hF W k e (sm.trans (same_new hp)) (sm.free hp) upd_same
      refine ⟨_, rfl, t, _, (0 : Int), .int (x : Int), rfl, rfl, SqL.of (sm1 _ _ hT), at_of (j := 0) rfl rfl, _, rfl, t, _, (1 : Int), .int (y : Int), rfl, rfl, SqL.of (sm1 _ _ hT), at_of (j := 1) rfl rfl, (x : Int), (y : Int), rfl, ?_⟩
      refine ⟨_, _, rfl, rfl, .inl ⟨by decide, by decide⟩, _, _, rfl, rfl, _, rfl, ?_⟩
      by_cases d1 : 200 < x ∨ 200 < y
      · refine ifT (decide_eq_true ?_) (ifT rfl ⟨(by show 1 ≤ sizeLine; decide), fun p hp => hw ?_ _ sm1 p hp⟩)
        · split <;> omega
        · rcases d1 with d | d
          · exact .inl d
          · exact .inr (.inl d)
      refine ifF (decide_eq_false ?_) ?_
      · split <;> omega
      refine ⟨_, rfl, _, rfl, a, hl, bl, fl, f, r, rfl, hF.same sm1, NatsIn.at_ upd_same, fun H1 sm2 => ⟨_, rfl, ?_⟩⟩
      have sm3 := sm1.trans sm2
      by_cases d2 : flown f r = true
      · refine ifF (by rw [d2]; rfl) ?_
        have d2' := d2
        unfold flown at d2'
        rw [Bool.and_eq_true] at d2'
        obtain ⟨q1, q2⟩ := d2'
        have q1 := of_decide_eq_true q1
        have eL : Si93.LONG = 5 := rfl
        have cc : ¬ (200 < x ∨ 200 < y ∨ Si93.LONG < r.length ∨ (r.all fun h => decide (h < f.heights)) = false) := by
          rw [q2, eL]
          simp
          omega
        have e1 : Si93.step f (.balloon x y r) = if Si93.BALLOONS ≤ f.count then (f, Si93.ok (-5)) else ({ f with balloons := f.balloons ++ [⟨(Si93.told x 100, Si93.told y 100), r⟩] }, Si93.ok ((f.count : Nat) : Int)) := if_neg cc
        have eB : Si93.BALLOONS = 4 := rfl
        have eC : f.count = f.balloons.length := rfl
        have hbs : (bs.map V.ref).length = f.balloons.length := by rw [List.length_map, Paired.length w4]
        refine ⟨_, rfl, a, CF, dx, _, _, rfl, sm3 _ _ h1, T.clF, T.nBl, fF_balloons f hl bl, bl, _, rfl, .inl (SqL.of (sm3 _ _ w3)), rfl, _, rfl, ?_⟩
        rw [hbs]
        by_cases d3 : f.balloons.length = 4
        · refine ifT (by rw [d3]; rfl) ⟨(by show 1 ≤ sizeLine; decide), fun p hp => ?_⟩
          rw [if_pos (by omega)] at e1
          exact call_same hF W k e1 (sm3.trans (same_new hp)) (sm3.free hp) upd_same
        refine ifF (decide_eq_false (fun z => d3 (by injection z with z; omega))) ?_
        rw [if_neg (by omega)] at e1
        refine ⟨_, rfl, a, CF, dx, _, _, rfl, sm3 _ _ h1, T.clF, T.nBl, fF_balloons f hl bl, .inl ⟨rfl, _, SqL.of (sm3 _ _ w3)⟩, ?_⟩
        refine ⟨_, rfl, t, _, (0 : Int), .int (x : Int), rfl, rfl, SqL.of (sm3 _ _ hT), at_of (j := 0) rfl rfl, _, _, rfl, rfl, _, rfl, t, _, (1 : Int), .int (y : Int), rfl, rfl, SqL.of (sm3 _ _ hT), at_of (j := 1) rfl rfl, _, _, rfl, rfl, _, rfl, ?_⟩
        intro b db nb nd ne
        refine ⟨b, db, fl, (x : Int) - 100, (y : Int) - 100, rfl, upd_same, fun H2 q3 hk => ⟨rfl, ?_⟩⟩
        have smM : Same H1 H2 := Same.made nb nd hk
        have sm4 : Same H H2 := sm3.trans smM
        have hfl2 : H2 fl = some (.lst (nV r)) := smM _ _ (sm2 _ _ upd_same)
        refine ⟨bl, _, _, rfl, rfl, sm4 _ _ w3, ?_, ?_⟩
        · rw [hbs]
          exact small1000 (by omega)
        have na : a ≠ bl := ne_of h1 w3 (by intro z; cases z)
        refine ⟨_, rfl, a, CF, dx, _, _, rfl, (upd_ne na).trans (sm4 _ _ h1), T.clF, T.nBl, fF_balloons f hl bl, bl, _, rfl, .inl (SqL.of upd_same), _, _, rfl, rfl, (by show 1 ≤ sizeLine; decide), fun p hp => ?_⟩
        have np : bl ≠ p := ne_of_none upd_same hp
        have hp2 : H2 p = none := by
          rw [upd_ne (fun z => np z.symm)] at hp
          exact hp
        have hpH : H p = none := sm4.free hp2
        have nhl : hl ≠ p := ne_of_none w1 hpH
        have kk : ∀ (y : HO) (z : HO) (b : Addr) (o : HO), H b = some o → b ≠ hl → b ≠ bl → (upd (upd H2 bl y) p z) b = some o := fun y z b o eb _ d1 => by
          rw [upd_ne (ne_of_none eb hpH), upd_ne d1]
          exact sm4 _ _ eb
        have nf1 : fl ≠ hl := fun z => by
          rw [z, w1] at hfl
          cases hfl
        have nf2 : fl ≠ bl := fun z => by
          rw [z, w3] at hfl
          cases hfl
        have nfp : fl ≠ p := ne_of_none hfl2 hp2
        have nb1 : b ≠ bl := ne_of q3 (sm4 _ _ w3) (by intro z; cases z)
        have nbp : b ≠ p := ne_of_none q3 hp2
        refine k _ p hl bl ?_ ?_ (.inl rfl) (.inl rfl) (fun b o eb _ d2 d3 => kk _ _ b o eb d2 d3) (fun g o eg ap => ?_) hpH (fun z => nhl z.symm) (fun z => np z.symm) ?_
        · rw [e1]
          refine ⟨⟨dx, kk _ _ a _ h1 (ne_of h1 w1 (by intro z; cases z)) na⟩, hF.ne, ⟨hs, ?_, ?_⟩, ⟨bs ++ [b], ?_, ?_⟩⟩
          · rw [upd_ne nhl, upd_ne hF.ne]
            exact sm4 _ _ w1
          · exact hours_frame (kk _ _) ⟨_, w1⟩ ⟨_, w3⟩ w2
          · rw [upd_ne np, upd_same, List.map_append] <;> rfl
          · refine pair_app (bals_frame (kk _ _) ⟨_, w1⟩ ⟨_, w3⟩ w4) (.cons ⟨db, fl, ?_, ?_, nf1, nf2⟩ .nil)
            · rw [upd_ne nbp, upd_ne nb1]
              exact q3
            · show upd _ p _ fl = _
              rw [upd_ne nfp, upd_ne nf2]
              exact hfl2
        · rw [e1]
          refine wf_balloon W (by omega) (by omega) q1 (fun h hh => ?_) (by omega)
          exact of_decide_eq_true (List.all_eq_true.mp q2 h hh)
        · obtain ⟨hs', bs', z1, z2, z3, z4⟩ := ap
          have eb := lst_inj w3 z2
          refine ⟨hs', bs' ++ [b], ?_, ?_, z3, fun b' hb' => ?_⟩
          · rw [upd_ne nhl, upd_ne hF.ne]
            exact sm4 _ _ z1
          · rw [upd_ne np, upd_same, List.map_append, ← eb] <;> rfl
          · rcases List.mem_append.mp hb' with hb' | hb'
            · obtain ⟨dx', x', fl', z5, z6⟩ := z4 b' hb'
              exact ⟨dx', x', fl', kk _ _ b' _ z5 (ne_of z5 w1 (by intro z; cases z)) (ne_of z5 w3 (by intro z; cases z)), z6⟩
            · rw [List.mem_singleton.mp hb']
              refine ⟨db, ⟨(Si93.told x 100, Si93.told y 100), r⟩, fl, ?_, fun z => ?_⟩
              · rw [upd_ne nbp, upd_ne nb1]
                exact q3
              · rw [z, eg] at hfl
                cases hfl
        · rw [e1, upd_same]
          have ez : ((((bs.map V.ref) ++ [V.ref b]).length : Nat) : Int) - 1 = ((f.count : Nat) : Int) := by
            rw [List.length_append, hbs, eC]
            simp
          show some (HO.lst [V.int (((((bs.map V.ref) ++ [V.ref b]).length : Nat) : Int) - 1)]) = _
          rw [ez]
          rfl
      · have d2' : flown f r = false := by simpa using d2
        refine ifT (by rw [d2']; rfl) ⟨(by show 1 ≤ sizeLine; decide), fun p hp => hw ?_ _ sm3 p hp⟩
        unfold flown at d2'
        rw [Bool.and_eq_false_iff] at d2'
        rcases d2' with q | q
        · have q := of_decide_eq_false q
          have eL : Si93.LONG = 5 := rfl
          exact .inr (.inr (.inl (by omega)))
        · exact .inr (.inr (.inr q))
end
end Wb
namespace Wb
open PySem PySem.Spec PyProof.Rows L2
/-! ### check -/
theorem told_no {f : Si93.Field} {l : List Nat} (h : l.length ≠ f.count) : f.told l = false := by
  unfold Si93.Field.told
  rw [beq_eq_false_iff_ne.mpr h, Bool.false_and]
theorem told_iff {f : Si93.Field} {l : List Nat} (h : l.length = f.count) : f.told l = decide (l.foldl max 0 ≤ f.waits) := by
  unfold Si93.Field.told
  rw [h, beq_self_eq_true, Bool.true_and, Bool.eq_iff_iff, decide_eq_true_eq, foldl_max_le, List.all_eq_true]
  constructor
  · intro z
    exact ⟨Nat.zero_le _, fun x hx => of_decide_eq_true (z x hx)⟩
  · intro z x hx
    exact decide_eq_true (z.2 x hx)
def landV (f : Si93.Field) (l : List Nat) (i : Nat) : List Int := [(f.lands i (l.getD i 0)).1, (f.lands i (l.getD i 0)).2]
theorem flat_snoc {α : Type} (g : Nat → List α) (i : Nat) : (List.range (i + 1)).flatMap g = (List.range i).flatMap g ++ g i := by
  rw [List.range_succ, List.flatMap_append, List.flatMap_cons, List.flatMap_nil, List.append_nil]
theorem flat_len (f : Si93.Field) (l : List Nat) : ∀ i, ((List.range i).flatMap (landV f l)).length = 2 * i
  | 0 => rfl
  | i + 1 => by
    rw [flat_snoc, List.length_append, flat_len f l i]
    show 2 * i + 2 = 2 * (i + 1)
    omega
theorem scCheck : FnScope ["field", "plan", "beyond", "meeting", "answer", "number", "waits"] ["field", "plan"] (defScope (topS 36)) := ⟨rfl, rfl, rfl, by decide +kernel, rfl, by decide +kernel, by decide +kernel⟩
section
variable {P : Program} {w : World} {K : PySem.W.Frag} {mg : Str → Option Value} {base : Heap} {CF CB : Addr}
theorem ok_check {f g1 g2 g3 g4 : Addr} {fd gd1 gd2 gd3 gd4 : FuncData} (F : Fun K "check" "check" (topS 36) f fd) (T : Txt K mg CF CB) (G1 : Callee P w K mg base 3 "first_beyond_hours" ["field", "plan"] (spLate K CF CB) g1 gd1)
    (G2 : Callee P w K mg base 2 "first_too_near" ["field", "plan"] (spBad K CF CB) g2 gd2) (G3 : Callee P w K mg base 2 "all_down_behind" ["field", "plan"] (spAllDown K CF CB) g3 gd3)
    (G4 : Callee P w K mg base 2 "landing" ["field", "balloon", "waits"] (spLanding CF CB) g4 gd4) : FnOk P w K mg base CX0 4 f fd ["field", "plan"] (spCall 3 CF CB) := by
  obtain ⟨t9, c9⟩ := T.c9
  obtain ⟨t12, c12⟩ := T.c12
  obtain ⟨t14, c14⟩ := T.c14
  refine F.ok scCheck (fun vs H R E h => ?_) (fun cdv A outer s H vs R E hr h => ?_)
  · obtain ⟨a, hl, bl, t, f, ts, c, rfl, _⟩ := h
    rfl
  · obtain ⟨a, hl, bl, t, f, ts, c, rfl, hF, W, hT, hK, k⟩ := h
    have hr2 : Room 2 _ := hr.mono (by decide)
    refine ⟨_, pss_cons (ps_if (PW.pt (pw_or (pt_cmpR op_ne (pe_callB call_len_seq (by rfl) T.len PySem.boot_len (pa_cons (pv 1) pa_nil)) (pe_callB call_len_seq (by rfl) T.len PySem.boot_len (pa_cons (pe_fld (pv 0) rfl) pa_nil)) (nomark _))
          (pw_or1 (pt_cmpR op_gt (pe_callBK (cr_maxD0 rfl (hu_of hr)) (by rfl) T.max (by decide +kernel) (pa_cons (pv 1) pa_nil) (pk_cons pe_int pk_nil)) (pe_fld (pv 0) rfl) (nomark _)))))
        (pss_one (ps_ret (pe_lst (pa_cons (pe_glob (v := .int (-1)) rfl c9 ⟨_, rfl⟩) pa_nil)))) pss_nil)
      (pss_cons (ps_set (i := 2) scCheck.nd rfl (.inl rfl) (pe_call G1.ok hr (by rfl) G1.g G1.kp G1.b .nil pass0 (pa_cons (pv 0) (pa_cons (pv 1) pa_nil))))
      (pss_cons (ps_if (pt_cmp (pc_notN (pv 2))) (pss_one (ps_ret (pe_lst (pa_cons (pe_glob (v := .int (-7)) rfl c14 ⟨_, rfl⟩) (pa_cons (pv 2) pa_nil))))) pss_nil)
      (pss_cons (ps_set (i := 3) scCheck.nd rfl (.inl rfl) (pe_call G2.ok hr2 (by rfl) G2.g G2.kp G2.b .nil pass0 (pa_cons (pv 0) (pa_cons (pv 1) pa_nil))))
      (pss_cons (ps_if (pt_cmp (pc_notN (pv 3))) (pss_one (ps_ret (pe_op op_cat (pe_lst (pa_cons (pe_glob (v := .int (-6)) rfl c12 ⟨_, rfl⟩) pa_nil)) (pv 3)))) pss_nil)
      (pss_cons (ps_set (i := 4) scCheck.nd rfl (.inl rfl) (pe_lst (pa_cons (pe_call G3.ok hr2 (by rfl) G3.g G3.kp G3.b .nil pass0 (pa_cons (pv 0) (pa_cons (pv 1) pa_nil))) pa_nil)))
      (pss_cons (ps_for PassesOwn.never rfl (pi_enum (by rfl) T.enum (pa_cons (pv 1) pa_nil))
          (pg_tup rfl (pgs_cons (pg_name (i := 5) scCheck.nd rfl (.inl rfl)) (pgs_cons (pg_name (i := 6) scCheck.nd rfl (.inl rfl)) pgs_nil)))
          (pss_one (ps_expr (pe_bm PySem.F.plainAttrs_list PySem.F.slot_list_extend PySem.F.type_list_extend mt_extend (pv 4)
            (pa_cons (pe_call G4.ok hr2 (by rfl) G4.g G4.kp G4.b .nil pass0 (pa_cons (pv 0) (pa_cons (pe_ix ix_list (pe_fld (pv 0) rfl) (pv 5) (fun _ _ => rfl)) (pa_cons (pv 6) pa_nil)))) pa_nil)))))
      (pss_one (ps_ret (pv 4))))))))), ?_⟩
    cases hK with
    | check _ hlen6 =>
      obtain ⟨dx, h1⟩ := hF.obj
      obtain ⟨bs, w3, w4, w5⟩ := hF.count
      have hbs : (bs.map V.ref).length = f.count := by rw [List.length_map, w4]
      have hB4 : f.count ≤ 4 := W.bal
      have hw : f.told ts = false → ∀ p, H p = none → R (.ref p) (upd H p (.lst [V.int (-1)])) := fun cc p hp => by
        have e : Si93.step f (.check ts) = (f, Si93.ok (-1)) := if_pos cc
        exact call_same hF W k e (same_new hp) hp upd_same
      refine ⟨_, rfl, t, _, rfl, .inl (SqL.of hT), _, rfl, a, CF, dx, _, _, rfl, h1, T.clF, T.nBl, fF_balloons f hl bl, bl, _, rfl, .inl (SqL.of w3), rfl, _, rfl, ?_⟩
      rw [nV_len, hbs]
      by_cases d1 : ts.length = f.count
      · refine ifF (by rw [d1]; simp) ?_
        refine ⟨_, rfl, t, ofNats ts, rfl, rfl, SqL.of hT, _, rfl, a, CF, dx, _, _, rfl, h1, T.clF, T.nWt, fF_waits f hl bl, _, _, rfl, rfl, _, rfl, ?_⟩
        have em : maxL (ofNats ts) = ((ts.foldl max 0 : Nat) : Int) := maxL_nat ts
        rw [em]
        by_cases d2 : ts.foldl max 0 ≤ f.waits
        · refine ifF (decide_eq_false (by omega)) ?_
          have ht : f.told ts = true := by rw [told_iff d1, decide_eq_true d2]
          have e0 : Si93.step f (.check ts) = (f, match f.late ts with
              | some i => ⟨-7, Si93.ints [i]⟩
              | none => match f.bad ts with
                | some x => ⟨-6, Si93.ints [x.1, x.2.1, x.2.2]⟩
                | none => ⟨((f.down ts : Nat) : Int), (List.range f.count).flatMap (landV f ts)⟩) := if_neg (by rw [ht]; exact Bool.true_eq_false.mp)
          refine ⟨_, rfl, _, rfl, a, hl, bl, t, f, ts, rfl, hF, NatsIn.at_ hT, d1, fun H1 sm1 => ?_⟩
          refine ⟨_, rfl, _, rfl, ?_⟩
          cases eL : f.late ts with
          | some i =>
            have eV : lateV f ts = .int (i : Int) := by
              unfold lateV
              rw [eL]
            rw [eL] at e0
            rw [eV]
            refine ifT rfl ⟨_, rfl, (by show 2 ≤ sizeLine; decide), fun p hp => ?_⟩
            exact call_same hF W k e0 (sm1.trans (same_new hp)) (sm1.free hp) upd_same
          | none =>
            have eV : lateV f ts = .non := by
              unfold lateV
              rw [eL]
            rw [eL] at e0
            rw [eV]
            refine ifF rfl ?_
            refine ⟨_, rfl, _, rfl, a, hl, bl, t, f, ts, rfl, hF.same sm1, W, NatsIn.at_ (sm1 _ _ hT), d1, eL, ?_⟩
            unfold badR
            cases eB : f.bad ts with
            | some x =>
              rw [eB] at e0
              intro H2 q sm2 hq hq2
              refine ⟨_, rfl, _, rfl, ifT rfl ?_⟩
              refine ⟨(by show 1 ≤ sizeLine; decide), fun u hu => ?_⟩
              have sm3 := same_new (o := HO.lst [V.int (-6)]) hu
              refine ⟨_, rfl, u, q, _, _, rfl, rfl, upd_same, sm3 _ _ hq2, (by show 1 + 3 ≤ sizeLine; decide), fun p hp => ?_⟩
              have sm4 := ((sm1.trans sm2).trans sm3)
              exact call_same hF W k e0 (sm4.trans (same_new hp)) (sm4.free hp) upd_same
            | none =>
              rw [eB] at e0
              intro H2 sm2
              have sm3 := sm1.trans sm2
              refine ⟨_, rfl, _, rfl, ifF rfl ?_⟩
              refine ⟨_, rfl, _, rfl, a, hl, bl, t, f, ts, rfl, hF.same sm3, W, NatsIn.at_ (sm3 _ _ hT), d1, fun H3 sm4 => ?_⟩
              have sm5 := sm3.trans sm4
              refine ⟨(by show 1 ≤ sizeLine; decide), fun an han => ?_⟩
              have hanH : H an = none := sm5.free han
              have sm6 : Same H (upd H3 an (.lst [.int ((f.down ts : Nat) : Int)])) := sm5.trans (same_new han)
              refine ⟨_, rfl, t, nV ts, rfl, SqL.of (sm6 _ _ hT), ?_⟩
              refine for_it (n := (nV ts).length) walk_enum (fun i σ H' => ∃ (s5 s6 : Option V), σ = [some (.ref a), some (.ref t), some .non, some .non, some (.ref an), s5, s6] ∧ Same H H' ∧
                  H' an = some (.lst (.int ((f.down ts : Nat) : Int) :: ((List.range i).flatMap (landV f ts)).map V.int)))
                ⟨none, none, rfl, sm6, upd_same⟩ (fun i σ H' _ ⟨_, _, _, sm, _⟩ => SqL.of (sm _ _ hT)) ?_ ?_
              · rintro i v σ H4 H5 hi ⟨s5, s6, rfl, sm, han4⟩ ⟨u, x1, y1, rfl, hu, rfl, q1, q2⟩
                rw [nV_len] at hi
                obtain rfl := Option.some.inj q1
                obtain rfl := nat_at hi q2
                obtain ⟨b, w6, w7, w8⟩ := w5 i (by omega)
                have sm7 := same_new (o := HO.tup [V.int (i : Int), V.int ((ts.getD i 0 : Nat) : Int)]) hu
                have sm8 := sm.trans sm7
                refine ⟨u, _, rfl, SqT.of upd_same, rfl, _, _, rfl, _, _, rfl, rfl, ?_⟩
                refine ⟨_, rfl, .inl ⟨rfl, _, SqL.of (sm7 _ _ han4)⟩, ?_⟩
                refine ⟨_, rfl, _, rfl, a, CF, dx, _, _, rfl, sm8 _ _ h1, T.clF, T.nBl, fF_balloons f hl bl, _, rfl, bl, _, _, .ref b, rfl, rfl, SqL.of (sm8 _ _ w3), at_of (j := i) rfl (by rw [List.getElem?_map, w6] <;> rfl), _, rfl, ?_⟩
                refine ⟨a, hl, bl, b, f, f.balloon i, ts.getD i 0, rfl, hF.same sm8, W, w7.same sm8, w8, late_fit eL (by omega), fun H6 q sm9 hq hq2 => ?_⟩
                refine ⟨an, q, _, _, rfl, rfl, sm9 _ _ (sm7 _ _ han4), hq2, ?_, ?_⟩
                · rw [List.length_cons, List.length_map, flat_len]
                  exact Nat.le_of_lt (small1000 (by show 2 * i + 1 + 2 ≤ 1000; omega))
                · refine ⟨_, _, rfl, same_put (sm8.trans sm9) hanH, ?_⟩
                  rw [upd_same, flat_snoc, List.map_append] <;> rfl
              · rintro σ H4 ⟨s5, s6, rfl, sm, han4⟩
                rw [nV_len, d1] at han4
                refine ⟨_, rfl, ?_⟩
                exact call_same hF W k e0 sm hanH han4
        · refine ifT (decide_eq_true (by omega)) ⟨(by show 1 ≤ sizeLine; decide), fun p hp => hw ?_ p hp⟩
          rw [told_iff d1, decide_eq_false d2]
      · refine ifT ?_ (ifT rfl ⟨(by show 1 ≤ sizeLine; decide), fun p hp => hw (told_no d1) p hp⟩)
        have q : ¬ V.int ((ts.length : Nat) : Int) = V.int ((f.count : Nat) : Int) := by
          intro z
          injection z with z
          omega
        show (!decide (V.int ((ts.length : Nat) : Int) = V.int ((f.count : Nat) : Int))) = true
        rw [decide_eq_false q] <;> rfl
end
end Wb
namespace Wb
open PySem PySem.Spec PyProof.Rows L2
/-! ### best, soonest -/
theorem sum_ofNats : ∀ l : List Nat, (ofNats l).sum = ((Si93.waited l : Nat) : Int)
  | [] => rfl
  | x :: l => by
    have ih := sum_ofNats l
    show (x : Int) + (ofNats l).sum = ((x + l.sum : Nat) : Int)
    rw [ih]
    rfl
theorem plans_mem {f : Si93.Field} {l : List Nat} (h : l ∈ f.plans) : l.length = f.count := by
  unfold Si93.Field.plans at h
  exact (rows_mem (List.mem_filter.mp h).1).1
theorem plans_few {f : Si93.Field} (W : WF f) : f.plans.length ≤ 256 :=
  Nat.le_trans (List.length_filter_le _ _) (rows_few W.w3 W.bal)
theorem stepB_some (g h : List Nat → Nat) : ∀ (ps : List (List Nat)) (x : Si93.Best), ∃ y, ps.foldl (stepB g h) (some x) = some y
  | [], x => ⟨x, rfl⟩
  | p :: ps, x => by
    rw [List.foldl_cons]
    have e : ∃ z, stepB g h (some x) p = some z := by
      show ∃ z, (if Si93.better (g p) (h p) x.first x.second = true then some (⟨g p, h p, 1, p⟩ : Si93.Best) else if g p = x.first ∧ h p = x.second then some { x with many := x.many + 1 } else some x) = some z
      split
      · exact ⟨_, rfl⟩
      · split <;> exact ⟨_, rfl⟩
    obtain ⟨z, e⟩ := e
    rw [e]
    exact stepB_some g h ps z
theorem nV_ints (x : Si93.Best) : nV (x.first :: x.second :: x.many :: x.row) = (((x.first : Nat) : Int) :: Si93.ints (x.second :: x.many :: x.row)).map V.int := rfl
theorem scBest : FnScope ["field", "told", "plans", "plan"] ["field", "told"] (defScope (topS 37)) := ⟨rfl, rfl, rfl, by decide +kernel, rfl, by decide +kernel, by decide +kernel⟩
section
variable {P : Program} {w : World} {K : PySem.W.Frag} {mg : Str → Option Value} {base : Heap} {CF CB : Addr}
theorem ok_best {f g1 g2 g3 : Addr} {fd gd1 gd2 gd3 : FuncData} (F : Fun K "best" "best" (topS 37) f fd) (T : Txt K mg CF CB) (G1 : Callee P w K mg base 5 "plans_that_can_be" ["field"] (spPlans CF CB) g1 gd1)
    (G2 : Callee P w K mg base 2 "all_down_behind" ["field", "plan"] (spAllDown K CF CB) g2 gd2) (G3 : Callee P w K mg base 1 "least_of" ["plans", "measures"] spLeast g3 gd3) :
    FnOk P w K mg base CX0 6 f fd ["field", "told"] (spCall 4 CF CB) := by
  obtain ⟨t13, c13⟩ := T.c13
  refine F.ok scBest (fun vs H R E h => ?_) (fun cdv A outer s H vs R E hr h => ?_)
  · obtain ⟨a, hl, bl, t, f, ts, c, rfl, _⟩ := h
    rfl
  · obtain ⟨a, hl, bl, t, f, ts, c, rfl, hF, W, hT, hK, k⟩ := h
    have hr2 : Room 2 _ := hr.mono (by decide)
    have hr1 : Room 1 _ := hr.mono (by decide)
    refine ⟨_, pss_cons (ps_set (i := 2) scBest.nd rfl (.inl rfl) (pe_call G1.ok hr (by rfl) G1.g G1.kp G1.b .nil pass0 (pa_cons (pv 0) pa_nil)))
      (pss_cons (ps_if (pt_cmpR op_eq (pe_callB call_len_seq (by rfl) T.len PySem.boot_len (pa_cons (pv 2) pa_nil)) pe_int (nomark _))
        (pss_one (ps_ret (pe_lst (pa_cons (pe_glob (v := .int (-6)) rfl c13 ⟨_, rfl⟩) pa_nil)))) pss_nil)
      (pss_one (ps_ret (pe_call G3.ok hr1 (by rfl) G3.g G3.kp G3.b .nil pass0 (pa_cons (pv 2) (pa_cons
        (pe_lc (own := [("plan", 3)]) (g := gName 3) (tt := tYes) (te := tLst (tCons (tCB (rSum K) (tCons (tVar 3) tNil)) (tCons (tCall (spAllDown K CF CB) [] E0 (tCons (tVar 0) (tCons (tVar 3) tNil))) tNil))) rfl scBest.nd (pi_list (pv 2)) (blkOk_by (N := ["field", "told", "plans", "plan"]) (sc := defScope (topS 37)) (by decide +kernel))
          (fun _ _ _ _ _ => pg_name (i := 3) scBest.nd rfl (.inl rfl) (.inr rfl)) (fun _ _ _ _ _ => pts_nil)
          (fun _ _ _ _ _ => pe_lst (pa_cons (pe_callB (cr_sum rfl) (by rfl) T.sum (by decide +kernel) (pa_cons (pv 3) pa_nil)) (pa_cons (pe_call G2.ok hr2 (by rfl) G2.g G2.kp G2.b .nil pass0 (pa_cons (pv 0) (pa_cons (pv 3) pa_nil))) pa_nil)))) pa_nil)))))), ?_⟩
    cases hK
    have e0 : Si93.step f .best = (f, Si93.toldBest (f.plans.foldl (stepB Si93.waited f.down) none)) := rfl
    refine ⟨_, rfl, a, hl, bl, f, rfl, hF, W, fun H1 pl qs sm1 hpl hqs hqq => ?_⟩
    have hql : (qs.map V.ref).length = f.plans.length := by rw [List.length_map, Paired.length hqq]
    refine ⟨_, rfl, pl, _, rfl, .inl (SqL.of hqs), rfl, _, rfl, ?_⟩
    rw [hql]
    by_cases d1 : f.plans = []
    · refine ifT (by rw [d1]; rfl) ⟨(by show 1 ≤ sizeLine; decide), fun p hp => ?_⟩
      rw [d1] at e0
      exact call_same hF W k e0 (sm1.trans (same_new hp)) (sm1.free hp) upd_same
    · refine ifF (decide_eq_false (fun z => d1 (List.eq_nil_of_length_eq_zero (by injection z with z; omega)))) ?_
      refine ⟨_, rfl, _, rfl, pl, rfl, ⟨_, SqL.of hqs⟩, fun D hD => ?_⟩
      refine lc_it (n := (qs.map V.ref).length) walk_list (fun i H' => Same H1 H' ∧ ∃ rs : List Addr, H' D = some (.lst (rs.map V.ref)) ∧ Paired (fun r l => r ≠ D ∧ IntsIn H' r l) rs ((f.plans.take i).map fun l => enc2 (Si93.waited l, f.down l)))
        ⟨same_new hD, [], upd_same, .nil⟩ (fun i H' _ q => SqL.of (q.1 _ _ hqs)) ?_ ?_
      · rintro i v H2 H3 hi ⟨sm2, rs, hrs, hrr⟩ ⟨q1, hv⟩
        subst H3
        rw [hql] at hi
        obtain ⟨q, hq1, hq2⟩ := pair_at hqq (List.getElem?_eq_getElem hi)
        obtain rfl := ref_at hq1 hv
        have hlen := plans_mem (List.getElem_mem hi)
        have few := plans_few W
        have sm3 := sm1.trans sm2
        have hrl := Paired.length hrr
        rw [List.length_map, List.length_take] at hrl
        refine ⟨rfl, ?_⟩
        have fin : ∀ H4, Same H2 H4 → ∀ r, H4 r = none → ∃ acc, (upd H4 r (.lst [.int ((Si93.waited (f.plans[i]) : Nat) : Int), .int ((f.down (f.plans[i]) : Nat) : Int)])) D = some (.lst acc) ∧ acc.length < sizeLine ∧
            (Same H1 (upd (upd H4 r (.lst [.int ((Si93.waited (f.plans[i]) : Nat) : Int), .int ((f.down (f.plans[i]) : Nat) : Int)])) D (.lst (acc ++ [.ref r]))) ∧ ∃ rs : List Addr, (upd (upd H4 r (.lst [.int ((Si93.waited (f.plans[i]) : Nat) : Int), .int ((f.down (f.plans[i]) : Nat) : Int)])) D (.lst (acc ++ [.ref r]))) D = some (.lst (rs.map V.ref)) ∧
              Paired (fun r' l => r' ≠ D ∧ IntsIn (upd (upd H4 r (.lst [.int ((Si93.waited (f.plans[i]) : Nat) : Int), .int ((f.down (f.plans[i]) : Nat) : Int)])) D (.lst (acc ++ [.ref r]))) r' l) rs ((f.plans.take (i + 1)).map fun l => enc2 (Si93.waited l, f.down l))) := fun H4 sm4 r hr0 => by
          have sm5 := sm4.trans (same_new (o := HO.lst [.int ((Si93.waited (f.plans[i]) : Nat) : Int), .int ((f.down (f.plans[i]) : Nat) : Int)]) hr0)
          have hrD : r ≠ D := fun z => by
            rw [z, sm4 _ _ hrs] at hr0
            cases hr0
          refine ⟨_, sm5 _ _ hrs, ?_, same_put (sm2.trans sm5) hD, rs ++ [r], ?_, ?_⟩
          · rw [List.length_map]
            exact small1000 (by omega)
          · rw [upd_same, List.map_append] <;> rfl
          · rw [take_snoc (List.getElem?_eq_getElem hi), List.map_append]
            refine pair_app (pair_imp (fun r' l h => ⟨h.1, ?_⟩) hrr) (.cons ⟨hrD, ?_⟩ .nil)
            · show upd _ D _ r = _
              rw [upd_ne hrD, upd_same]
              rfl
            · show upd _ D _ r' = _
              rw [upd_ne h.1]
              exact sm5 _ _ h.2
        refine ⟨_, rfl, q, ofNats (f.plans[i]), rfl, SqL.of (sm2 _ _ hq2), ?_⟩
        rw [sum_ofNats]
        refine ⟨_, rfl, _, rfl, a, hl, bl, q, f, f.plans[i], rfl, hF.same sm3, W, NatsIn.at_ (sm2 _ _ hq2), hlen, fun H4 sm4 => ?_⟩
        exact ⟨(by show 2 ≤ sizeLine; decide), fun r hr0 => fin H4 sm4 r hr0⟩
      · rintro H2 ⟨sm2, rs, hrs, hrr⟩
        rw [hql, List.take_length] at hrr
        have sm3 := sm1.trans sm2
        obtain ⟨p0, pr, ep⟩ : ∃ x y, f.plans = x :: y := by
          cases q : f.plans with
          | nil => exact absurd q d1
          | cons x y => exact ⟨x, y, rfl⟩
        refine ⟨pl, D, qs, rs, f.plans, Si93.waited, f.down, rfl, sm2 _ _ hqs, in_same sm2 hqq, hrs, pair_imp (fun r l h => h.2) hrr, d1, fun l hl => ?_, fun x hx H3 z sm4 hz hz2 => ?_⟩
        · rw [plans_mem hl]
          exact W.bal
        · rw [hx] at e0
          exact call_same hF W k e0 (sm3.trans sm4) (sm3.free hz) hz2
end
theorem scSoonest : FnScope ["field", "told", "plans", "plan"] ["field", "told"] (defScope (topS 38)) := ⟨rfl, rfl, rfl, by decide +kernel, rfl, by decide +kernel, by decide +kernel⟩
section
variable {P : Program} {w : World} {K : PySem.W.Frag} {mg : Str → Option Value} {base : Heap} {CF CB : Addr}
theorem ok_soonest {f g1 g2 g3 : Addr} {fd gd1 gd2 gd3 : FuncData} (F : Fun K "soonest" "soonest" (topS 38) f fd) (T : Txt K mg CF CB) (G1 : Callee P w K mg base 5 "plans_that_can_be" ["field"] (spPlans CF CB) g1 gd1)
    (G2 : Callee P w K mg base 2 "all_down_behind" ["field", "plan"] (spAllDown K CF CB) g2 gd2) (G3 : Callee P w K mg base 1 "least_of" ["plans", "measures"] spLeast g3 gd3) :
    FnOk P w K mg base CX0 6 f fd ["field", "told"] (spCall 5 CF CB) := by
  obtain ⟨t13, c13⟩ := T.c13
  refine F.ok scSoonest (fun vs H R E h => ?_) (fun cdv A outer s H vs R E hr h => ?_)
  · obtain ⟨a, hl, bl, t, f, ts, c, rfl, _⟩ := h
    rfl
  · obtain ⟨a, hl, bl, t, f, ts, c, rfl, hF, W, hT, hK, k⟩ := h
    have hr2 : Room 2 _ := hr.mono (by decide)
    have hr1 : Room 1 _ := hr.mono (by decide)
    refine ⟨_, pss_cons (ps_set (i := 2) scSoonest.nd rfl (.inl rfl) (pe_call G1.ok hr (by rfl) G1.g G1.kp G1.b .nil pass0 (pa_cons (pv 0) pa_nil)))
      (pss_cons (ps_if (pt_cmpR op_eq (pe_callB call_len_seq (by rfl) T.len PySem.boot_len (pa_cons (pv 2) pa_nil)) pe_int (nomark _))
        (pss_one (ps_ret (pe_lst (pa_cons (pe_glob (v := .int (-6)) rfl c13 ⟨_, rfl⟩) pa_nil)))) pss_nil)
      (pss_one (ps_ret (pe_call G3.ok hr1 (by rfl) G3.g G3.kp G3.b .nil pass0 (pa_cons (pv 2) (pa_cons
        (pe_lc (own := [("plan", 3)]) (g := gName 3) (tt := tYes) (te := tLst (tCons (tCall (spAllDown K CF CB) [] E0 (tCons (tVar 0) (tCons (tVar 3) tNil))) (tCons (tCB (rSum K) (tCons (tVar 3) tNil)) tNil))) rfl scSoonest.nd (pi_list (pv 2)) (blkOk_by (N := ["field", "told", "plans", "plan"]) (sc := defScope (topS 38)) (by decide +kernel))
          (fun _ _ _ _ _ => pg_name (i := 3) scSoonest.nd rfl (.inl rfl) (.inr rfl)) (fun _ _ _ _ _ => pts_nil)
          (fun _ _ _ _ _ => pe_lst (pa_cons (pe_call G2.ok hr2 (by rfl) G2.g G2.kp G2.b .nil pass0 (pa_cons (pv 0) (pa_cons (pv 3) pa_nil))) (pa_cons (pe_callB (cr_sum rfl) (by rfl) T.sum (by decide +kernel) (pa_cons (pv 3) pa_nil)) pa_nil)))) pa_nil)))))), ?_⟩
    cases hK
    have e0 : Si93.step f .soonest = (f, Si93.toldBest (f.plans.foldl (stepB f.down Si93.waited) none)) := rfl
    refine ⟨_, rfl, a, hl, bl, f, rfl, hF, W, fun H1 pl qs sm1 hpl hqs hqq => ?_⟩
    have hql : (qs.map V.ref).length = f.plans.length := by rw [List.length_map, Paired.length hqq]
    refine ⟨_, rfl, pl, _, rfl, .inl (SqL.of hqs), rfl, _, rfl, ?_⟩
    rw [hql]
    by_cases d1 : f.plans = []
    · refine ifT (by rw [d1]; rfl) ⟨(by show 1 ≤ sizeLine; decide), fun p hp => ?_⟩
      rw [d1] at e0
      exact call_same hF W k e0 (sm1.trans (same_new hp)) (sm1.free hp) upd_same
    · refine ifF (decide_eq_false (fun z => d1 (List.eq_nil_of_length_eq_zero (by injection z with z; omega)))) ?_
      refine ⟨_, rfl, _, rfl, pl, rfl, ⟨_, SqL.of hqs⟩, fun D hD => ?_⟩
      refine lc_it (n := (qs.map V.ref).length) walk_list (fun i H' => Same H1 H' ∧ ∃ rs : List Addr, H' D = some (.lst (rs.map V.ref)) ∧ Paired (fun r l => r ≠ D ∧ IntsIn H' r l) rs ((f.plans.take i).map fun l => enc2 (f.down l, Si93.waited l)))
        ⟨same_new hD, [], upd_same, .nil⟩ (fun i H' _ q => SqL.of (q.1 _ _ hqs)) ?_ ?_
      · rintro i v H2 H3 hi ⟨sm2, rs, hrs, hrr⟩ ⟨q1, hv⟩
        subst H3
        rw [hql] at hi
        obtain ⟨q, hq1, hq2⟩ := pair_at hqq (List.getElem?_eq_getElem hi)
        obtain rfl := ref_at hq1 hv
        have hlen := plans_mem (List.getElem_mem hi)
        have few := plans_few W
        have sm3 := sm1.trans sm2
        have hrl := Paired.length hrr
        rw [List.length_map, List.length_take] at hrl
        refine ⟨rfl, ?_⟩
        have fin : ∀ H4, Same H2 H4 → ∀ r, H4 r = none → ∃ acc, (upd H4 r (.lst [.int ((f.down (f.plans[i]) : Nat) : Int), .int ((Si93.waited (f.plans[i]) : Nat) : Int)])) D = some (.lst acc) ∧ acc.length < sizeLine ∧
            (Same H1 (upd (upd H4 r (.lst [.int ((f.down (f.plans[i]) : Nat) : Int), .int ((Si93.waited (f.plans[i]) : Nat) : Int)])) D (.lst (acc ++ [.ref r]))) ∧ ∃ rs : List Addr, (upd (upd H4 r (.lst [.int ((f.down (f.plans[i]) : Nat) : Int), .int ((Si93.waited (f.plans[i]) : Nat) : Int)])) D (.lst (acc ++ [.ref r]))) D = some (.lst (rs.map V.ref)) ∧
              Paired (fun r' l => r' ≠ D ∧ IntsIn (upd (upd H4 r (.lst [.int ((f.down (f.plans[i]) : Nat) : Int), .int ((Si93.waited (f.plans[i]) : Nat) : Int)])) D (.lst (acc ++ [.ref r]))) r' l) rs ((f.plans.take (i + 1)).map fun l => enc2 (f.down l, Si93.waited l))) := fun H4 sm4 r hr0 => by
          have sm5 := sm4.trans (same_new (o := HO.lst [.int ((f.down (f.plans[i]) : Nat) : Int), .int ((Si93.waited (f.plans[i]) : Nat) : Int)]) hr0)
          have hrD : r ≠ D := fun z => by
            rw [z, sm4 _ _ hrs] at hr0
            cases hr0
          refine ⟨_, sm5 _ _ hrs, ?_, same_put (sm2.trans sm5) hD, rs ++ [r], ?_, ?_⟩
          · rw [List.length_map]
            exact small1000 (by omega)
          · rw [upd_same, List.map_append] <;> rfl
          · rw [take_snoc (List.getElem?_eq_getElem hi), List.map_append]
            refine pair_app (pair_imp (fun r' l h => ⟨h.1, ?_⟩) hrr) (.cons ⟨hrD, ?_⟩ .nil)
            · show upd _ D _ r = _
              rw [upd_ne hrD, upd_same]
              rfl
            · show upd _ D _ r' = _
              rw [upd_ne h.1]
              exact sm5 _ _ h.2
        refine ⟨_, rfl, _, rfl, a, hl, bl, q, f, f.plans[i], rfl, hF.same sm3, W, NatsIn.at_ (sm2 _ _ hq2), hlen, fun H4 sm4 => ?_⟩
        refine ⟨_, rfl, q, ofNats (f.plans[i]), rfl, SqL.of (sm4 _ _ (sm2 _ _ hq2)), ?_⟩
        rw [sum_ofNats]
        exact ⟨(by show 2 ≤ sizeLine; decide), fun r hr0 => fin H4 sm4 r hr0⟩
      · rintro H2 ⟨sm2, rs, hrs, hrr⟩
        rw [hql, List.take_length] at hrr
        have sm3 := sm1.trans sm2
        obtain ⟨p0, pr, ep⟩ : ∃ x y, f.plans = x :: y := by
          cases q : f.plans with
          | nil => exact absurd q d1
          | cons x y => exact ⟨x, y, rfl⟩
        refine ⟨pl, D, qs, rs, f.plans, f.down, Si93.waited, rfl, sm2 _ _ hqs, in_same sm2 hqq, hrs, pair_imp (fun r l h => h.2) hrr, d1, fun l hl => ?_, fun x hx H3 z sm4 hz hz2 => ?_⟩
        · rw [plans_mem hl]
          exact W.bal
        · rw [hx] at e0
          exact call_same hF W k e0 (sm3.trans sm4) (sm3.free hz) hz2
end
/-! ### lands -/
theorem scLands : FnScope ["field", "told", "number", "waits", "asked"] ["field", "told"] (defScope (topS 39)) := ⟨rfl, rfl, rfl, by decide +kernel, rfl, by decide +kernel, by decide +kernel⟩
section
variable {P : Program} {w : World} {K : PySem.W.Frag} {mg : Str → Option Value} {base : Heap} {CF CB : Addr}
theorem ok_lands {f g1 g2 g3 : Addr} {fd gd1 gd2 gd3 : FuncData} (F : Fun K "lands" "lands" (topS 39) f fd) (T : Txt K mg CF CB) (G1 : Callee P w K mg base 2 "is_beyond_hours" ["field", "balloon", "waits"] (spBeyond CF CB) g1 gd1)
    (G2 : Callee P w K mg base 1 "down_behind" ["balloon", "waits"] (spDown CB) g2 gd2) (G3 : Callee P w K mg base 2 "landing" ["field", "balloon", "waits"] (spLanding CF CB) g3 gd3) :
    FnOk P w K mg base CX0 3 f fd ["field", "told"] (spCall 6 CF CB) := by
  obtain ⟨t9, c9⟩ := T.c9
  obtain ⟨t10, c10⟩ := T.c10
  obtain ⟨t14, c14⟩ := T.c14
  refine F.ok scLands (fun vs H R E h => ?_) (fun cdv A outer s H vs R E hr h => ?_)
  · obtain ⟨a, hl, bl, t, f, ts, c, rfl, _⟩ := h
    rfl
  · obtain ⟨a, hl, bl, t, f, ts, c, rfl, hF, W, hT, hK, k⟩ := h
    have hr1 : Room 1 _ := hr.mono (by decide)
    refine ⟨_, pss_cons (ps_set (i := 2) scLands.nd rfl (.inl rfl) (pe_ix ix_list (pv 1) pe_int (fun _ _ => rfl)))
      (pss_cons (ps_set (i := 3) scLands.nd rfl (.inl rfl) (pe_ix ix_list (pv 1) pe_int (fun _ _ => rfl)))
      (pss_cons (ps_if (pt_cmpR op_ge (pv 2) (pe_callB call_len_seq (by rfl) T.len PySem.boot_len (pa_cons (pe_fld (pv 0) rfl) pa_nil)) (nomark _))
        (pss_one (ps_ret (pe_lst (pa_cons (pe_glob (v := .int (-2)) rfl c10 ⟨_, rfl⟩) pa_nil)))) pss_nil)
      (pss_cons (ps_if (pt_cmpR op_gt (pv 3) (pe_fld (pv 0) rfl) (nomark _)) (pss_one (ps_ret (pe_lst (pa_cons (pe_glob (v := .int (-1)) rfl c9 ⟨_, rfl⟩) pa_nil)))) pss_nil)
      (pss_cons (ps_set (i := 4) scLands.nd rfl (.inl rfl) (pe_ix ix_list (pe_fld (pv 0) rfl) (pv 2) (fun _ _ => rfl)))
      (pss_cons (ps_if (pt_val (pe_call G1.ok hr (by rfl) G1.g G1.kp G1.b .nil pass0 (pa_cons (pv 0) (pa_cons (pv 4) (pa_cons (pv 3) pa_nil)))))
        (pss_one (ps_ret (pe_lst (pa_cons (pe_glob (v := .int (-7)) rfl c14 ⟨_, rfl⟩) pa_nil)))) pss_nil)
      (pss_one (ps_ret (pe_op op_cat (pe_lst (pa_cons (pe_call G2.ok hr1 (by rfl) G2.g G2.kp G2.b .nil pass0 (pa_cons (pv 4) (pa_cons (pv 3) pa_nil))) pa_nil))
        (pe_call G3.ok hr (by rfl) G3.g G3.kp G3.b .nil pass0 (pa_cons (pv 0) (pa_cons (pv 4) (pa_cons (pv 3) pa_nil)))))))))))), ?_⟩
    cases hK with
    | lands i e =>
      obtain ⟨dx, h1⟩ := hF.obj
      obtain ⟨bs, w3, w4, w5⟩ := hF.count
      have hbs : (bs.map V.ref).length = f.count := by rw [List.length_map, w4]
      refine ⟨_, rfl, t, _, (0 : Int), .int (i : Int), rfl, rfl, SqL.of hT, at_of (j := 0) rfl rfl, ?_⟩
      refine ⟨_, rfl, t, _, (1 : Int), .int (e : Int), rfl, rfl, SqL.of hT, at_of (j := 1) rfl rfl, ?_⟩
      have e0 : Si93.step f (.lands i e) = if f.count ≤ i then (f, Si93.ok (-2)) else if f.waits < e then (f, Si93.ok (-1)) else if f.winds.length < e + (f.balloon i).flight.length then (f, Si93.ok (-7)) else
        (f, ⟨((e + (f.balloon i).flight.length : Nat) : Int), [(f.lands i e).1, (f.lands i e).2]⟩) := rfl
      refine ⟨_, rfl, _, rfl, a, CF, dx, _, _, rfl, h1, T.clF, T.nBl, fF_balloons f hl bl, bl, _, rfl, .inl (SqL.of w3), _, _, rfl, rfl, _, rfl, ?_⟩
      rw [hbs]
      by_cases d1 : f.count ≤ i
      · refine ifT (decide_eq_true (by omega)) ⟨(by show 1 ≤ sizeLine; decide), fun p hp => ?_⟩
        rw [if_pos d1] at e0
        exact call_same hF W k e0 (same_new hp) hp upd_same
      refine ifF (decide_eq_false (by omega)) ?_
      rw [if_neg d1] at e0
      refine ⟨_, rfl, _, rfl, a, CF, dx, _, _, rfl, h1, T.clF, T.nWt, fF_waits f hl bl, _, _, rfl, rfl, _, rfl, ?_⟩
      by_cases d2 : f.waits < e
      · refine ifT (decide_eq_true (by omega)) ⟨(by show 1 ≤ sizeLine; decide), fun p hp => ?_⟩
        rw [if_pos d2] at e0
        exact call_same hF W k e0 (same_new hp) hp upd_same
      refine ifF (decide_eq_false (by omega)) ?_
      rw [if_neg d2] at e0
      obtain ⟨b, w6, w7, w8⟩ := w5 i (by omega)
      refine ⟨_, rfl, a, CF, dx, _, _, rfl, h1, T.clF, T.nBl, fF_balloons f hl bl, _, rfl, bl, _, _, .ref b, rfl, rfl, SqL.of w3, at_of (j := i) rfl (by rw [List.getElem?_map, w6] <;> rfl), ?_⟩
      refine ⟨_, rfl, _, rfl, _, rfl, a, hl, bl, b, f, f.balloon i, e, rfl, hF, w7, _, rfl, ?_⟩
      by_cases d3 : f.winds.length < e + (f.balloon i).flight.length
      · refine ifT (decide_eq_true d3) ⟨(by show 1 ≤ sizeLine; decide), fun p hp => ?_⟩
        rw [if_pos d3] at e0
        exact call_same hF W k e0 (same_new hp) hp upd_same
      refine ifF (decide_eq_false d3) ?_
      rw [if_neg d3] at e0
      refine ⟨_, rfl, _, rfl, b, f.balloon i, e, rfl, w7, (by show 1 ≤ sizeLine; decide), fun u hu => ?_⟩
      have sm1 := same_new (o := HO.lst [V.int ((e + (f.balloon i).flight.length : Nat) : Int)]) hu
      refine ⟨_, rfl, _, rfl, _, rfl, a, hl, bl, b, f, f.balloon i, e, rfl, hF.same sm1, W, w7.same sm1, w8, by omega, fun H1 q sm2 hq hq2 => ?_⟩
      refine ⟨u, q, _, _, rfl, rfl, sm2 _ _ upd_same, hq2, (by show 1 + 2 ≤ sizeLine; decide), fun p hp => ?_⟩
      exact call_same hF W k e0 ((sm1.trans sm2).trans (same_new hp)) ((sm1.trans sm2).free hp) upd_same
end
end Wb
namespace Wb
open PySem PySem.Spec PyProof.Rows L2
/-! ### split_calls -/
/-- a call as it is taken out: what is told of it lies where nothing was -/
def CallNew (H H' : Hp) (t : Addr) (q : Cal) : Prop := ∃ r, H' t = some (.tup [.int (q.1 : Int), .ref r]) ∧ NatsIn H' r q.2 ∧ H r = none
def CallNe (H H' : Hp) (u t : Addr) (q : Cal) : Prop := ∃ r, H' t = some (.tup [.int (q.1 : Int), .ref r]) ∧ NatsIn H' r q.2 ∧ H r = none ∧ r ≠ u
def spSplit (K : PySem.W.Frag) : Sp := fun vs H R _ => ∃ (c : Addr) (qs : List Cal), vs = [.ref c] ∧ IntsAt K H c (encs qs) ∧ (encs qs).length ≤ 2000 ∧
  ∀ H' p ts, Same H H' → H p = none → H' p = some (.lst (ts.map V.ref)) → Paired (CallNew H H') ts qs → R (.ref p) H'
theorem scSplit : FnScope ["calls", "found", "at", "end"] ["calls"] (defScope (topS 41)) := ⟨rfl, rfl, rfl, by decide +kernel, rfl, by decide +kernel, by decide +kernel⟩
def pos (qs : List Cal) (i : Nat) : Nat := (encs (qs.take i)).length
theorem encs_app (a b : List Cal) : encs (a ++ b) = encs a ++ encs b := by
  unfold encs
  rw [List.flatMap_append]
theorem pos_drop (qs : List Cal) (i : Nat) : (encs qs).drop (pos qs i) = encs (qs.drop i) := by
  have e : encs qs = encs (qs.take i) ++ encs (qs.drop i) := by rw [← encs_app, List.take_append_drop]
  rw [e]
  unfold pos
  rw [List.drop_left]
theorem pos_more {qs : List Cal} {i : Nat} (h : i < qs.length) : pos qs (i + 1) = pos qs i + (qs[i].2.length + 3) := by
  unfold pos
  rw [List.take_add_one, List.getElem?_eq_getElem h, encs_app, List.length_append]
  show _ = _ + _
  congr 1
  show (enc1 qs[i] ++ encs []).length = _
  rw [List.length_append, enc1_len] <;> rfl
theorem pos_le (qs : List Cal) (i : Nat) : pos qs i ≤ (encs qs).length := by
  have e : encs qs = encs (qs.take i) ++ encs (qs.drop i) := by rw [← encs_app, List.take_append_drop]
  unfold pos
  rw [e, List.length_append]
  omega
theorem pos_all (qs : List Cal) {i : Nat} (h : qs.length ≤ i) : pos qs i = (encs qs).length := by
  unfold pos
  rw [List.take_of_length_le h]
theorem pos_lt {qs : List Cal} {i : Nat} (h : i < qs.length) : pos qs i + (qs[i].2.length + 3) ≤ (encs qs).length := by
  rw [← pos_more h]
  exact pos_le qs (i + 1)
theorem drop_i {qs : List Cal} {i : Nat} (h : i < qs.length) : qs.drop i = qs[i] :: qs.drop (i + 1) := by
  rw [List.getElem_cons_drop]
theorem ints_at {ns : List Int} {i : Nat} {x : Int} (h : ns[i]? = some x) : (ns.map V.int)[i]? = some (V.int x) := by
  rw [List.getElem?_map, h] <;> rfl
theorem cut_at {ns : List Int} {p k : Nat} (h : p + 2 + k ≤ ns.length) : cutV (ns.map V.int) (some ((p + 2 : Nat) : Int)) (some ((p + 2 + k : Nat) : Int)) = ((ns.drop (p + 2)).take k).map V.int := by
  unfold cutV
  rw [HT.sIx_nat, HT.sIx_nat, List.length_map, List.map_take, List.map_drop]
  have e1 : min (p + 2) ns.length = p + 2 := by omega
  have e2 : min (p + 2 + k) ns.length = p + 2 + k := by omega
  rw [e1, e2]
  congr 1
  omega
section
variable {P : Program} {w : World} {K : PySem.W.Frag} {mg : Str → Option Value} {base : Heap} {CF CB : Addr}
theorem ok_split {f : Addr} {fd : FuncData} (F : Fun K "split_calls" "split_calls" (topS 41) f fd) (T : Txt K mg CF CB) : FnOk P w K mg base CX0 1 f fd ["calls"] (spSplit K) := by
  refine F.ok scSplit (fun vs H R E h => ?_) (fun cdv A outer s H vs R E hr h => ?_)
  · obtain ⟨c, qs, rfl, _⟩ := h
    rfl
  · obtain ⟨c, qs, rfl, hc, hlen, k⟩ := h
    refine ⟨_, pss_cons (ps_set (i := 1) scSplit.nd rfl (.inl rfl) (pe_lst pa_nil))
      (pss_cons (ps_set (i := 2) scSplit.nd rfl (.inl rfl) pe_int)
      (pss_cons (ps_while PassesOwn.never (pt_cmpR op_lt (pv 2) (pe_callB call_len_seq (by rfl) T.len PySem.boot_len (pa_cons (pv 0) pa_nil)) (nomark _))
        (pss_cons (ps_set (i := 3) scSplit.nd rfl (.inl rfl) (pe_op op_add (pe_op op_add (pv 2) pe_int) (pe_ix ix_list (pv 0) (pe_op op_add (pv 2) pe_int) (fun _ _ => rfl))))
        (pss_cons (ps_expr (pe_bm PySem.F.plainAttrs_list PySem.F.slot_list_append PySem.F.type_list_append mt_append (pv 1)
          (pa_cons (pe_tup (pa_cons (pe_ix ix_list (pv 0) (pv 2) (fun _ _ => rfl)) (pa_cons (pe_slice sl_list (pv 0) (po_some (pe_op op_add (pv 2) pe_int)) (po_some (pv 3))) pa_nil))) pa_nil)))
        (pss_one (ps_set (i := 2) scSplit.nd rfl (.inl rfl) (pe_op op_add (pv 3) pe_int))))))
      (pss_one (ps_ret (pv 1))))), ?_⟩
    refine ⟨(by show 0 ≤ sizeLine; decide), fun p0 hp0 => ?_⟩
    refine ⟨fun m σ H' => ∃ (i : Nat) (s3 : Option V) (ts : List Addr), m = qs.length - i ∧ i ≤ qs.length ∧ σ = [some (.ref c), some (.ref p0), some (.int ((pos qs i : Nat) : Int)), s3] ∧ Same H H' ∧ H' p0 = some (.lst (ts.map V.ref)) ∧
      Paired (CallNe H H' p0) ts (qs.take i), ⟨_, 0, none, [], rfl, Nat.zero_le _, rfl, same_new hp0, upd_same, .nil⟩, ?_⟩
    rintro m σ H1 ⟨i, s3, ts, rfl, hi, rfl, sm, hp1, hts⟩
    have hcl : ((encs qs).map V.int).length = (encs qs).length := List.length_map ..
    refine ⟨_, rfl, _, rfl, c, _, rfl, .inl (sm.seq hc), _, _, rfl, rfl, _, rfl, ?_⟩
    rw [hcl]
    by_cases d : i < qs.length
    · have b := pos_lt d
      refine ifT (decide_eq_true (by omega)) ?_
      have hd := pos_drop qs i
      rw [drop_i d, encs_cons] at hd
      obtain ⟨q1, q2, q3, _⟩ := drop_at hd
      refine ⟨fun σ' H' => ∃ (s3 : Option V) (ts : List Addr), σ' = [some (.ref c), some (.ref p0), some (.int ((pos qs (i + 1) : Nat) : Int)), s3] ∧ Same H H' ∧ H' p0 = some (.lst (ts.map V.ref)) ∧ Paired (CallNe H H' p0) ts (qs.take (i + 1)), ?_, ?_⟩
      · rintro σ' H' ⟨s3', ts', e1, e2, e3, e4⟩
        exact ⟨qs.length - (i + 1), by omega, i + 1, s3', ts', rfl, by omega, e1, e2, e3, e4⟩
      refine ⟨_, rfl, _, _, rfl, rfl, _, rfl, _, rfl, _, _, rfl, rfl, c, _, _, .int ((qs[i].2.length : Nat) : Int), rfl, rfl, sm.seq hc, at_of (j := pos qs i + 1) (by omega) (ints_at q2), _, _, rfl, rfl, ?_⟩
      have e2 : ((pos qs i : Nat) : Int) + 2 + ((qs[i].2.length : Nat) : Int) = ((pos qs i + 2 + qs[i].2.length : Nat) : Int) := by omega
      refine ⟨_, rfl, .inl ⟨rfl, _, SqL.of hp1⟩, ?_⟩
      refine ⟨_, rfl, _, rfl, c, _, _, .int (qs[i].1 : Int), rfl, rfl, sm.seq hc, at_of (j := pos qs i) rfl (ints_at q1), ?_⟩
      refine ⟨_, rfl, _, rfl, _, _, rfl, rfl, _, rfl, _, rfl, _, rfl, c, _, rfl, sm.seq hc, fun r hr0 => ?_⟩
      have ec : cutV ((encs qs).map V.int) (some (((pos qs i : Nat) : Int) + 2)) (some (((pos qs i : Nat) : Int) + 2 + ((qs[i].2.length : Nat) : Int))) = nV qs[i].2 := by
        have e1 : ((pos qs i : Nat) : Int) + 2 = ((pos qs i + 2 : Nat) : Int) := by omega
        rw [e2, e1, cut_at (by omega), q3] <;> rfl
      refine ⟨(by show 2 ≤ sizeLine; decide), fun t ht => ?_⟩
      have sm1 : Same H1 (upd H1 r (.lst (cutV ((encs qs).map V.int) (some (((pos qs i : Nat) : Int) + 2)) (some (((pos qs i : Nat) : Int) + 2 + ((qs[i].2.length : Nat) : Int)))))) := same_new hr0
      have sm2 := sm1.trans (same_new (o := HO.tup [V.int (qs[i].1 : Int), V.ref r]) ht)
      have htl := Paired.length hts
      rw [List.length_take] at htl
      have hql : qs.length ≤ 2000 := by
        have : ∀ l : List Cal, l.length ≤ (encs l).length := fun l => by
          induction l with
          | nil => exact Nat.le_refl _
          | cons x l ih =>
            rw [encs_cons, List.length_append, enc1_len, List.length_cons]
            omega
        have := this qs
        omega
      refine ⟨p0, _, _, rfl, rfl, sm2 _ _ hp1, ?_, ?_⟩
      · rw [List.length_map]
        exact Nat.lt_of_le_of_lt (by omega : ts.length ≤ 2000) (by rw [sizeLine_eq]; decide)
      · refine ⟨_, rfl, _, _, rfl, rfl, ?_⟩
        have hp0t : p0 ≠ t := ne_of_none (sm1 _ _ hp1) ht
        have hp0r : p0 ≠ r := ne_of_none hp1 hr0
        have hrt : r ≠ t := ne_of_none upd_same ht
        have hrH : H r = none := sm.free hr0
        refine ⟨some (.int (((pos qs i : Nat) : Int) + 2 + ((qs[i].2.length : Nat) : Int))), ts ++ [t], ?_, same_put (sm.trans sm2) hp0, ?_, ?_⟩
        · have e3 : ((pos qs i : Nat) : Int) + 2 + ((qs[i].2.length : Nat) : Int) + 1 = ((pos qs (i + 1) : Nat) : Int) := by
            rw [pos_more d]
            omega
          rw [← e3]
          rfl
        · rw [upd_same, List.map_append] <;> rfl
        · rw [take_snoc (List.getElem?_eq_getElem d)]
          refine pair_app (pair_imp (fun u q h => ?_) hts) (.cons ⟨r, ?_, ?_, hrH, fun z => hp0r z.symm⟩ .nil)
          · obtain ⟨r', z1, z2, z3, n2⟩ := h
            have n1 : u ≠ p0 := ne_of z1 hp1 (by intro z; cases z)
            refine ⟨r', ?_, ?_, z3, n2⟩
            · rw [upd_ne n1]
              exact sm2 _ _ z1
            · show upd _ p0 _ r' = _
              rw [upd_ne n2]
              exact sm2 _ _ z2
          · rw [upd_ne (fun z => hp0t z.symm), upd_same]
          · show upd _ p0 _ r = _
            rw [upd_ne (fun z => hp0r z.symm), upd_ne hrt, upd_same, ec]
    · refine ifF (decide_eq_false ?_) ?_
      · rw [pos_all qs (by omega)]
        omega
      · have e : i = qs.length := by omega
        rw [e, List.take_length] at hts
        exact ⟨_, rfl, k H1 p0 ts sm hp0 hp1 (pair_imp (fun t q h => (by obtain ⟨r, z1, z2, z3, _⟩ := h; exact ⟨r, z1, z2, z3⟩)) hts)⟩
end
end Wb
namespace Wb
open PySem PySem.Spec PyProof.Rows L2
/-! ### answers -/
def flatN : Si93.Field → List Cal → List Int
  | _, [] => []
  | f, q :: r => (((Si93Neutral.step f [row q]).2.length : Nat) : Int) :: ((Si93Neutral.step f [row q]).2 ++ flatN (Si93Neutral.step f [row q]).1 r)
theorem flat_eq : ∀ (qs : List Cal) (f : Si93.Field), PyFlat.told (PyFlat.played Si93Neutral.step f (qs.map fun q => [row q])) = flatN f qs
  | [], _ => rfl
  | q :: r, f => by
    have ih := flat_eq r (Si93Neutral.step f [row q]).1
    show (((Si93Neutral.step f [row q]).2.length : Nat) : Int) :: ((Si93Neutral.step f [row q]).2 ++ PyFlat.told (PyFlat.played Si93Neutral.step (Si93Neutral.step f [row q]).1 (r.map fun q => [row q]))) = _
    rw [ih]
    rfl
theorem stepN {q : Cal} {c : Si93.Call} (h : callN q = some c) (f : Si93.Field) : Si93Neutral.step f [row q] = ((Si93.step f c).1, (Si93.step f c).2.v :: (Si93.step f c).2.l) := by
  have e : Si93Neutral.callOf (([row q] : List (List Int)).headD []) = some c := h
  unfold Si93Neutral.step
  rw [e] <;> rfl
theorem kind7 {q : Cal} {c : Si93.Call} (h : Kind q c) : q.1 < 7 := by
  cases h <;> simp
def CallIn (H : Hp) (hl bl g t : Addr) (q : Cal) : Prop := ∃ r, H t = some (.tup [.int (q.1 : Int), .ref r]) ∧ NatsIn H r q.2 ∧ r ≠ hl ∧ r ≠ bl ∧ r ≠ g
theorem pair_mem {α β : Type} {F : α → β → Prop} {l : List α} {m : List β} (h : Paired F l m) : Paired (fun a b => a ∈ l ∧ F a b) l m := by
  induction h with
  | nil => exact .nil
  | cons h t ih => exact .cons ⟨List.mem_cons_self .., h⟩ (pair_imp (fun a b z => ⟨List.mem_cons_of_mem _ z.1, z.2⟩) ih)
theorem refs_inj {a b : List Addr} (h : a.map V.ref = b.map V.ref) : a = b := by
  induction a generalizing b with
  | nil =>
    cases b with
    | nil => rfl
    | cons y b => cases h
  | cons x a ih =>
    cases b with
    | nil => cases h
    | cons y b =>
      rw [List.map_cons, List.map_cons] at h
      injection h with h1 h2
      injection h1 with h1
      rw [h1, ih h2]
/-- a list that is none of the field's is turned: the field stands -/
theorem field_upd {CF CB : Addr} {H : Hp} {a hl bl g : Addr} {f : Si93.Field} {xs ys : List V} (F : FieldAt CF CB H a hl bl f) (ap : Apart CB H hl bl g) (n1 : g ≠ hl) (n2 : g ≠ bl) (hg : H g = some (.lst xs)) : FieldAt CF CB (upd H g (.lst ys)) a hl bl f := by
  obtain ⟨⟨dx, h1⟩, ne, ⟨hs, h2, h3⟩, ⟨bs, h4, h5⟩⟩ := F
  obtain ⟨hs', bs', z1, z2, z3, z4⟩ := ap
  have e1 : hs = hs' := refs_inj (lst_inj h2 z1)
  have e2 : bs = bs' := refs_inj (lst_inj h4 z2)
  subst e1
  subst e2
  refine ⟨⟨dx, (upd_ne (ne_of h1 hg (by intro z; cases z))).trans h1⟩, ne, ⟨hs, (upd_ne (fun z => n1 z.symm)).trans h2, pair_imp (fun q w h => ?_) (pair_mem h3)⟩, ⟨bs, (upd_ne (fun z => n2 z.symm)).trans h4, pair_imp (fun b x h => ?_) (pair_mem h5)⟩⟩
  · obtain ⟨hm, m1, m2, ts, h6, h7⟩ := h
    refine ⟨m1, m2, ts, (upd_ne (z3 q hm)).trans h6, pair_imp (fun t p h => ?_) h7⟩
    exact (upd_ne (ne_of h hg (by intro z; cases z))).trans h
  · obtain ⟨hm, d, fl, h6, h7, n⟩ := h
    obtain ⟨dx', x', fl', z5, z6⟩ := z4 b hm
    rw [h6] at z5
    injection z5 with z5
    injection z5 with _ _ z5
    have ef : fl = fl' := by
      unfold bF at z5
      injection z5 with _ z5
      injection z5 with _ z5
      injection z5 with z5 _
      injection z5 with _ z5
      injection z5
    subst ef
    exact ⟨d, fl, (upd_ne (ne_of h6 hg (by intro z; cases z))).trans h6, (upd_ne z6).trans h7, n⟩
theorem apart_upd {CB : Addr} {H : Hp} {hl bl g : Addr} {xs ys : List V} (ap : Apart CB H hl bl g) (n1 : g ≠ hl) (n2 : g ≠ bl) (hg : H g = some (.lst xs)) : Apart CB (upd H g (.lst ys)) hl bl g := by
  obtain ⟨hs', bs', z1, z2, z3, z4⟩ := ap
  refine ⟨hs', bs', (upd_ne (fun z => n1 z.symm)).trans z1, (upd_ne (fun z => n2 z.symm)).trans z2, z3, fun b hb => ?_⟩
  obtain ⟨dx', x', fl', z5, z6⟩ := z4 b hb
  exact ⟨dx', x', fl', (upd_ne (ne_of z5 hg (by intro z; cases z))).trans z5, z6⟩
theorem apart_init {CF CB : Addr} {H : Hp} {a hl bl g : Addr} (F : FieldAt CF CB H a hl bl Si93.init) : Apart CB H hl bl g := by
  obtain ⟨hs, h2, h3⟩ := F.hrs
  obtain ⟨bs, h4, h5⟩ := F.bls
  have e1 : hs = [] := List.eq_nil_of_length_eq_zero (Paired.length h3)
  have e2 : bs = [] := List.eq_nil_of_length_eq_zero (Paired.length h5)
  subst e1
  subst e2
  exact ⟨[], [], h2, h4, fun q hq => (by cases hq), fun b hb => (by cases hb)⟩
def spAns (K : PySem.W.Frag) : Sp := fun vs H R _ => ∃ (c : Addr) (qs : List Cal), vs = [.ref c] ∧ IntsAt K H c (encs qs) ∧ (encs qs).length ≤ 2000 ∧ (∀ q ∈ qs, ∃ cl, callN q = some cl) ∧
  Si93Neutral.short Si93Neutral.start 999999 (qs.map fun q => [row q]) = true ∧ ∀ H' p, H' p = some (.lst ((flatN Si93.init qs).map V.int)) → R (.ref p) H'
theorem scAns : FnScope ["calls", "field", "given", "number", "told", "answer"] ["calls"] (defScope (topS 42)) := ⟨rfl, rfl, rfl, by decide +kernel, rfl, by decide +kernel, by decide +kernel⟩
theorem encs_many : ∀ l : List Cal, l.length ≤ (encs l).length
  | [] => Nat.le_refl _
  | x :: l => by
    have ih := encs_many l
    rw [encs_cons, List.length_append, enc1_len, List.length_cons]
    omega
section
variable {P : Program} {w : World} {K : PySem.W.Frag} {mg : Str → Option Value} {base : Heap} {CF CB : Addr}
theorem ok_ans {f g1 g2 CT : Addr} {fd gd1 gd2 : FuncData} {fs : List Addr} (F : Fun K "answers" "answers" (topS 42) f fd) (T : Txt K mg CF CB) (M : Mk K CF g1) (GI : FnOk P w K mg base CX0 2 g1 gd1 ["self"] (spFInit CF CB)) (bI : Binds K gd1 ["self"] [])
    (GS : Callee P w K mg base 1 "split_calls" ["calls"] (spSplit K) g2 gd2) (gT : mg "CALLS" = some (.ref CT)) (hT : ∀ H : Hp, SqT K H CT (fs.map V.ref)) (hfs : fs.length = 7)
    (A : ∀ n g, fs[n]? = some g → Keeps P w K mg base 6 g (spCall n CF CB)) : FnOk P w K mg base CX0 7 f fd ["calls"] (spAns K) := by
  refine F.ok scAns (fun vs H R E h => ?_) (fun cdv A' outer s H vs R E hr h => ?_)
  · obtain ⟨c, qs, rfl, _⟩ := h
    rfl
  · obtain ⟨c, qs, rfl, hc, hlen, hq, hshort, k⟩ := h
    have hr1 : Room 1 _ := hr.mono (by decide)
    have hr3 : Room 3 _ := hr.mono (by decide)
    refine ⟨_, pss_cons (ps_set (i := 1) scAns.nd rfl (.inl rfl) (pe_make0 M GI hr3 rfl T.gF bI .nil pass0))
      (pss_cons (ps_set (i := 2) scAns.nd rfl (.inl rfl) (pe_lst pa_nil))
      (pss_cons (ps_for PassesOwn.never rfl (pi_list (pe_call GS.ok hr1 (by rfl) GS.g GS.kp GS.b .nil pass0 (pa_cons (pv 0) pa_nil)))
          (pg_tup rfl (pgs_cons (pg_name (i := 3) scAns.nd rfl (.inl rfl)) (pgs_cons (pg_name (i := 4) scAns.nd rfl (.inl rfl)) pgs_nil)))
        (pss_cons (ps_set (i := 5) scAns.nd rfl (.inl rfl) (pe_callE (S := fun g sp => ∃ n, fs[n]? = some g ∧ sp = spCall n CF CB) (pe_ix ix_tup (pe_glob (v := .ref CT) rfl gT rfl) (pv 3) (fun _ _ => rfl))
            (fun g sp z => (by obtain ⟨n, z1, z2⟩ := z; rw [z2]; exact A n g z1)) hr (pa_cons (pv 1) (pa_cons (pv 4) pa_nil))))
        (pss_cons (ps_expr (pe_bm PySem.F.plainAttrs_list PySem.F.slot_list_append PySem.F.type_list_append mt_append (pv 2) (pa_cons (pe_callB call_len_seq (by rfl) T.len PySem.boot_len (pa_cons (pv 5) pa_nil)) pa_nil)))
        (pss_one (ps_expr (pe_bm PySem.F.plainAttrs_list PySem.F.slot_list_extend PySem.F.type_list_extend mt_extend (pv 2) (pa_cons (pv 5) pa_nil)))))))
      (pss_one (ps_ret (pv 2))))), ?_⟩
    intro a dx na nd ne
    refine ⟨a, dx, rfl, upd_same, fun H1 hl0 bl0 m1 m2 hF0 hk => ⟨rfl, ?_⟩⟩
    have sm1 : Same H H1 := Same.made na nd hk
    refine ⟨(by show 0 ≤ sizeLine; decide), fun g hg => ?_⟩
    have sm2 : Same H1 (upd H1 g (.lst [])) := same_new hg
    refine ⟨_, rfl, c, qs, rfl, sm2.seq (sm1.seq hc), hlen, fun H2 p ts sm3 hp hp2 hts => ?_⟩
    refine ⟨p, rfl, ⟨_, SqL.of hp2⟩, ?_⟩
    have hq2000 : qs.length ≤ 2000 := Nat.le_trans (encs_many qs) hlen
    obtain ⟨hs0, y1, _⟩ := hF0.hrs
    obtain ⟨bs0, y2, _⟩ := hF0.bls
    have hF2 : FieldAt CF CB H2 a hl0 bl0 Si93.init := (hF0.same sm2).same sm3
    have ng1 : g ≠ hl0 := fun z => by
      rw [z, y1] at hg
      cases hg
    have ng2 : g ≠ bl0 := fun z => by
      rw [z, y2] at hg
      cases hg
    have np : ∀ {q : Addr} {o : HO}, (upd H1 g (.lst [])) q = some o → p ≠ q := fun {q o} z z2 => by
      rw [z2, z] at hp
      cases hp
    have hqt := Paired.length hts
    refine for_it (n := (ts.map V.ref).length) walk_list (fun i σ H' => ∃ (f : Si93.Field) (hl bl : Addr) (n : Nat) (ws : List Int) (s3 s4 s5 : Option V), σ = [some (.ref c), some (.ref a), some (.ref g), s3, s4, s5] ∧ FieldAt CF CB H' a hl bl f ∧ WF f ∧
        H' g = some (.lst (ws.map V.int)) ∧ g ≠ hl ∧ g ≠ bl ∧ Apart CB H' hl bl g ∧ H' p = some (.lst (ts.map V.ref)) ∧ p ≠ hl ∧ p ≠ bl ∧ p ≠ g ∧ Paired (CallIn H' hl bl g) ts qs ∧ ws ++ flatN f (qs.drop i) = flatN Si93.init qs ∧
        Si93Neutral.short f n ((qs.drop i).map fun q => [row q]) = true ∧ ws.length + n ≤ 999999 + i)
      ⟨Si93.init, hl0, bl0, 999999, [], none, none, none, rfl, hF2, wf_init, sm3 _ _ upd_same, ng1, ng2, apart_init hF2, hp2, np (sm2 _ _ y1), np (sm2 _ _ y2), np upd_same, ?_, rfl, hshort, Nat.le_refl _⟩
      (fun i σ H' _ ⟨_, _, _, _, _, _, _, _, _, _, _, _, _, _, _, z, _⟩ => SqL.of z) ?_ ?_
    · refine pair_imp (fun t q z => ?_) hts
      obtain ⟨r, z1, z2, z3⟩ := z
      have nr : ∀ {q : Addr} {o : HO}, (upd H1 g (.lst [])) q = some o → r ≠ q := fun {q o} z z4 => by
        rw [z4, z] at z3
        cases z3
      exact ⟨r, z1, z2, nr (sm2 _ _ y1), nr (sm2 _ _ y2), nr upd_same⟩
    · rintro i v σ H3 H4 hi ⟨f, hl, bl, n, ws, s3, s4, s5, rfl, hF, W, hg3, g1', g2', ap, hp3, p1, p2, p3, hcs, hflat, hsh, hn⟩ ⟨q1, hv⟩
      subst H4
      rw [List.length_map] at hi
      have hiq : i < qs.length := by omega
      obtain ⟨t, ht1, r, ht2, hr2, r1, r2, r3⟩ := pair_at hcs (List.getElem?_eq_getElem hiq)
      obtain rfl := ref_at ht1 hv
      obtain ⟨cl, hcl⟩ := hq _ (List.getElem_mem hiq)
      have hK := kind_of hcl
      have h7 := kind7 hK
      have hfn : fs[qs[i].1]? = some (fs[qs[i].1]'(by omega)) := List.getElem?_eq_getElem (by omega)
      rw [drop_i hiq] at hflat hsh
      have hsh' : (decide ((Si93Neutral.step f [row qs[i]]).2.length ≤ n) && Si93Neutral.short (Si93Neutral.step f [row qs[i]]).1 (n - (Si93Neutral.step f [row qs[i]]).2.length) ((qs.drop (i + 1)).map fun q => [row q])) = true := hsh
      rw [Bool.and_eq_true] at hsh'
      obtain ⟨hs1, hs2⟩ := hsh'
      have hs1 := of_decide_eq_true hs1
      have hflat' : ws ++ ((((Si93Neutral.step f [row qs[i]]).2.length : Nat) : Int) :: ((Si93Neutral.step f [row qs[i]]).2 ++ flatN (Si93Neutral.step f [row qs[i]]).1 (qs.drop (i + 1)))) = flatN Si93.init qs := hflat
      rw [stepN hcl f] at hs1 hs2 hflat'
      have hs1 : ((Si93.step f cl).2.v :: (Si93.step f cl).2.l).length ≤ n := hs1
      refine ⟨t, _, rfl, SqT.of ht2, rfl, _, _, rfl, _, _, rfl, rfl, ?_⟩
      refine ⟨_, rfl, CT, _, _, _, rfl, rfl, hT H3, at_of (j := qs[i].1) rfl (by rw [List.getElem?_map, hfn] <;> rfl), _, _, rfl, ⟨qs[i].1, hfn, rfl⟩, _, rfl, _, rfl, ?_⟩
      refine ⟨a, hl, bl, r, f, qs[i].2, cl, rfl, hF, W, hr2, hK, fun H5 an hl' bl' hF5 W5 e1 e2 fr apk han na1 na2 hout => ?_⟩
      obtain ⟨dxa, ha3⟩ := hF.obj
      have nga : g ≠ a := ne_of hg3 ha3 (by intro z; cases z)
      have hg5 : H5 g = some (.lst (ws.map V.int)) := fr g _ hg3 nga g1' g2'
      have ap5 := apk g _ hg3 ap
      have nang : an ≠ g := fun z => by
        rw [z, hg3] at han
        cases han
      have out : ∀ {q : Addr} {o : HO}, H3 q = some o → q ≠ hl → q ≠ bl → q ≠ hl' ∧ q ≠ bl' := fun {q o} z z1 z2 => by
        refine ⟨fun z3 => ?_, fun z3 => ?_⟩
        · rcases e1 with e | e
          · exact z1 (z3.trans e)
          · rw [← z3, z] at e
            cases e
        · rcases e2 with e | e
          · exact z2 (z3.trans e)
          · rw [← z3, z] at e
            cases e
      obtain ⟨ng1', ng2'⟩ := out hg3 g1' g2'
      refine ⟨_, rfl, .inl ⟨rfl, _, SqL.of hg5⟩, _, rfl, an, _, rfl, .inl (SqL.of hout), g, _, _, rfl, rfl, hg5, ?_, ?_⟩
      · rw [List.length_map, sizeLine_eq]
        omega
      refine ⟨_, rfl, .inl ⟨rfl, _, SqL.of upd_same⟩, _, rfl, g, an, _, _, rfl, rfl, upd_same, (upd_ne nang).trans hout, ?_, ?_⟩
      · rw [List.length_append, List.length_map, List.length_map, sizeLine_eq]
        show ws.length + 1 + ((Si93.step f cl).2.v :: (Si93.step f cl).2.l).length ≤ _
        omega
      · rw [upd_upd]
        have eL : ((((Si93.step f cl).2.v :: (Si93.step f cl).2.l).map V.int).length : Int) = ((((Si93.step f cl).2.v :: (Si93.step f cl).2.l).length : Nat) : Int) := by
          rw [List.length_map]
        have eW : ws.map V.int ++ [V.int (((((Si93.step f cl).2.v :: (Si93.step f cl).2.l).map V.int).length : Nat) : Int)] ++ ((Si93.step f cl).2.v :: (Si93.step f cl).2.l).map V.int =
            (ws ++ (((((Si93.step f cl).2.v :: (Si93.step f cl).2.l).length : Nat) : Int) :: ((Si93.step f cl).2.v :: (Si93.step f cl).2.l))).map V.int := by
          rw [eL, List.map_append, List.append_assoc] <;> rfl
        have hp5 : H5 p = some (.lst (ts.map V.ref)) := fr p _ hp3 (ne_of hp3 ha3 (by intro z; cases z)) p1 p2
        obtain ⟨np1, np2⟩ := out hp3 p1 p2
        refine ⟨(Si93.step f cl).1, hl', bl', n - ((Si93.step f cl).2.v :: (Si93.step f cl).2.l).length, ws ++ (((((Si93.step f cl).2.v :: (Si93.step f cl).2.l).length : Nat) : Int) :: ((Si93.step f cl).2.v :: (Si93.step f cl).2.l)), _, _, _, rfl,
          field_upd hF5 ap5 ng1' ng2' hg5, W5, ?_, ng1', ng2', apart_upd ap5 ng1' ng2' hg5, (upd_ne p3).trans hp5, np1, np2, p3, ?_, ?_, hs2, ?_⟩
        · rw [upd_same]
          exact congrArg (fun z => some (HO.lst z)) eW
        · refine pair_imp (fun t' q' z => ?_) hcs
          obtain ⟨r', z1, z2, z3, z4, z5⟩ := z
          have z2' : H3 r' = some (.lst (nV q'.2)) := z2
          obtain ⟨z6, z7⟩ := out z2' z3 z4
          obtain ⟨hs', bs', u1, u2, _, _⟩ := ap
          refine ⟨r', ?_, ?_, z6, z7, z5⟩
          · rw [upd_ne (ne_of z1 hg3 (by intro z; cases z))]
            exact fr _ _ z1 (ne_of z1 ha3 (by intro z; cases z)) (ne_of z1 u1 (by intro z; cases z)) (ne_of z1 u2 (by intro z; cases z))
          · show upd _ g _ r' = _
            rw [upd_ne z5]
            exact fr _ _ z2' (ne_of z2' ha3 (by intro z; cases z)) z3 z4
        · rw [← hflat', List.append_assoc] <;> rfl
        · rw [List.length_append]
          show ws.length + (((Si93.step f cl).2.v :: (Si93.step f cl).2.l).length + 1) + _ ≤ _
          omega
    · rintro σ H3 ⟨f, hl, bl, n, ws, s3, s4, s5, rfl, hF, W, hg3, g1', g2', ap, hp3, p1, p2, p3, hcs, hflat, hsh, hn⟩
      rw [List.length_map, hqt, List.drop_length] at hflat
      have e : ws = flatN Si93.init qs := by
        rw [← hflat]
        exact (List.append_nil ws).symm
      rw [e] at hg3
      exact ⟨_, rfl, k H3 g hg3⟩
end
end Wb
namespace Wb
/-! ### the request -/
theorem ask_of {l : List Int} (h : PySi93.answers_asked l = true) : ∃ qs : List Cal, l = encs qs ∧ (∀ q ∈ qs, ∃ c, callN q = some c) ∧ Si93Neutral.short Si93Neutral.start 999999 (qs.map fun q => [row q]) = true ∧ PySi93.answers l = flatN Si93.init qs := by
  unfold PySi93.answers_asked at h
  cases e : PySi93.calls l with
  | none =>
    rw [e] at h
    cases h
  | some cs =>
    rw [e] at h
    have h' : (!cs.isEmpty && cs.all PySi93.fits && PyFlat.atMost 40 cs && Si93Neutral.asked cs && PyFlat.short 10000000 (PySi93.answers l)) = true := h
    rw [Bool.and_eq_true, Bool.and_eq_true] at h'
    have ha := h'.1.2
    unfold Si93Neutral.asked at ha
    rw [Bool.and_eq_true, Bool.and_eq_true, Bool.and_eq_true, Bool.and_eq_true] at ha
    obtain ⟨a1, _, _, _, a2⟩ := ha
    obtain ⟨p1, p2⟩ := PyWide.put_calls l.length l cs e
    obtain ⟨qs, e1, e2, e3⟩ := asked_kinds p2 a1
    refine ⟨qs, p1.trans e2, e3, ?_, ?_⟩
    · rw [← e1]
      exact a2
    · unfold PySi93.answers
      rw [e]
      show PyFlat.told (PyFlat.played Si93Neutral.step Si93Neutral.start cs) = _
      rw [e1]
      exact flat_eq qs Si93.init
end Wb
namespace Wb
open PySem PySem.Spec PyProof.Rows L2
/-! ### the end: what the top has written -/
theorem all_of {P : Program} {w : World} {K : PySem.W.Frag} {h : Heap} {mg : Str → Option Value} {CF CB CT fa f1 f2 f3 f4 f5 f6 f7 f8 f10 f11 f12 f13 f32 f33 f34 f35 f36 f37 f38 f39 f41 f42 fB0 fF0 fF1 : Addr} {od1 an1 od2 an2 od3 an3 od4 an4 od5 an5 od6 an6 od7 an7 od8 an8 od10 an10 od11 an11 od12 an12 od13 an13 od32 an32 od33 an33 od34 an34 od35 an35 od36 an36 od37 an37 od38 an38 od39 an39 od41 an41 od42 an42 odB0 anB0 odF0 anF0 odF1 anF1 odT : Option Addr} {sl1 sl2 sl3 sl4 sl5 sl6 sl7 sl8 sl10 sl11 sl12 sl13 sl32 sl33 sl34 sl35 sl36 sl37 sl38 sl39 sl41 sl42 slB0 slF0 slF1 slT : Array (Option Value)} {oc1 kV1 dc1 pm1 cd1 ct1 oc2 kV2 dc2 pm2 cd2 ct2 oc3 kV3 dc3 pm3 cd3 ct3 oc4 kV4 dc4 pm4 cd4 ct4 oc5 kV5 dc5 pm5 cd5 ct5 oc6 kV6 dc6 pm6 cd6 ct6 oc7 kV7 dc7 pm7 cd7 ct7 oc8 kV8 dc8 pm8 cd8 ct8 oc10 kV10 dc10 pm10 cd10 ct10 oc11 kV11 dc11 pm11 cd11 ct11 oc12 kV12 dc12 pm12 cd12 ct12 oc13 kV13 dc13 pm13 cd13 ct13 oc32 kV32 dc32 pm32 cd32 ct32 oc33 kV33 dc33 pm33 cd33 ct33 oc34 kV34 dc34 pm34 cd34 ct34 oc35 kV35 dc35 pm35 cd35 ct35 oc36 kV36 dc36 pm36 cd36 ct36 oc37 kV37 dc37 pm37 cd37 ct37 oc38 kV38 dc38 pm38 cd38 ct38 oc39 kV39 dc39 pm39 cd39 ct39 oc41 kV41 dc41 pm41 cd41 ct41 oc42 kV42 dc42 pm42 cd42 ct42 ocB0 kVB0 dcB0 pmB0 cdB0 ctB0 ocF0 kVF0 dcF0 pmF0 cdF0 ctF0 ocF1 kVF1 dcF1 pmF1 cdF1 ctF1 : Value} {t0 t1 t2 t3 t4 t5 t6 t7 t8 t9 t10 t11 t12 t13 : Tok} {nT : Nat} (X : K.In h) (G : h.Ns mainGlobals mg) (hfa : mg "answers" = some (.ref fa))
    (aF : PySem.W.nsIn K mainGlobals "Field" = some (some (.ref CF)))
    (aB : PySem.W.nsIn K mainGlobals "Balloon" = some (some (.ref CB)))
    (a1 : PySem.W.nsIn K mainGlobals "down_behind" = some (some (.ref f1)))
    (l1 : K.lookup f1 = some ⟨oc1, od1, .func (PySem.W.fnOf "down_behind" "down_behind" (defArgs (topS 1)) (defBody (topS 1)) (defScope (topS 1)) .none kV1 dc1 pm1 an1 cd1 ct1), sl1⟩)
    (c1 : PySem.W.codeIn K cd1 "down_behind" = true)
    (k1 : PySem.W.keepIn K (.ref f1) = true)
    (a2 : PySem.W.nsIn K mainGlobals "all_down_behind" = some (some (.ref f2)))
    (l2 : K.lookup f2 = some ⟨oc2, od2, .func (PySem.W.fnOf "all_down_behind" "all_down_behind" (defArgs (topS 2)) (defBody (topS 2)) (defScope (topS 2)) .none kV2 dc2 pm2 an2 cd2 ct2), sl2⟩)
    (c2 : PySem.W.codeIn K cd2 "all_down_behind" = true)
    (k2 : PySem.W.keepIn K (.ref f2) = true)
    (a3 : PySem.W.nsIn K mainGlobals "air_by_hour" = some (some (.ref f3)))
    (l3 : K.lookup f3 = some ⟨oc3, od3, .func (PySem.W.fnOf "air_by_hour" "air_by_hour" (defArgs (topS 3)) (defBody (topS 3)) (defScope (topS 3)) .none kV3 dc3 pm3 an3 cd3 ct3), sl3⟩)
    (c3 : PySem.W.codeIn K cd3 "air_by_hour" = true)
    (k3 : PySem.W.keepIn K (.ref f3) = true)
    (a4 : PySem.W.nsIn K mainGlobals "landing" = some (some (.ref f4)))
    (l4 : K.lookup f4 = some ⟨oc4, od4, .func (PySem.W.fnOf "landing" "landing" (defArgs (topS 4)) (defBody (topS 4)) (defScope (topS 4)) .none kV4 dc4 pm4 an4 cd4 ct4), sl4⟩)
    (c4 : PySem.W.codeIn K cd4 "landing" = true)
    (k4 : PySem.W.keepIn K (.ref f4) = true)
    (a5 : PySem.W.nsIn K mainGlobals "is_beyond_hours" = some (some (.ref f5)))
    (l5 : K.lookup f5 = some ⟨oc5, od5, .func (PySem.W.fnOf "is_beyond_hours" "is_beyond_hours" (defArgs (topS 5)) (defBody (topS 5)) (defScope (topS 5)) .none kV5 dc5 pm5 an5 cd5 ct5), sl5⟩)
    (c5 : PySem.W.codeIn K cd5 "is_beyond_hours" = true)
    (k5 : PySem.W.keepIn K (.ref f5) = true)
    (a6 : PySem.W.nsIn K mainGlobals "first_beyond_hours" = some (some (.ref f6)))
    (l6 : K.lookup f6 = some ⟨oc6, od6, .func (PySem.W.fnOf "first_beyond_hours" "first_beyond_hours" (defArgs (topS 6)) (defBody (topS 6)) (defScope (topS 6)) .none kV6 dc6 pm6 an6 cd6 ct6), sl6⟩)
    (c6 : PySem.W.codeIn K cd6 "first_beyond_hours" = true)
    (k6 : PySem.W.keepIn K (.ref f6) = true)
    (a7 : PySem.W.nsIn K mainGlobals "too_near" = some (some (.ref f7)))
    (l7 : K.lookup f7 = some ⟨oc7, od7, .func (PySem.W.fnOf "too_near" "too_near" (defArgs (topS 7)) (defBody (topS 7)) (defScope (topS 7)) .none kV7 dc7 pm7 an7 cd7 ct7), sl7⟩)
    (c7 : PySem.W.codeIn K cd7 "too_near" = true)
    (k7 : PySem.W.keepIn K (.ref f7) = true)
    (a8 : PySem.W.nsIn K mainGlobals "first_too_near" = some (some (.ref f8)))
    (l8 : K.lookup f8 = some ⟨oc8, od8, .func (PySem.W.fnOf "first_too_near" "first_too_near" (defArgs (topS 8)) (defBody (topS 8)) (defScope (topS 8)) .none kV8 dc8 pm8 an8 cd8 ct8), sl8⟩)
    (c8 : PySem.W.codeIn K cd8 "first_too_near" = true)
    (k8 : PySem.W.keepIn K (.ref f8) = true)
    (a10 : PySem.W.nsIn K mainGlobals "every_plan" = some (some (.ref f10)))
    (l10 : K.lookup f10 = some ⟨oc10, od10, .func (PySem.W.fnOf "every_plan" "every_plan" (defArgs (topS 10)) (defBody (topS 10)) (defScope (topS 10)) .none kV10 dc10 pm10 an10 cd10 ct10), sl10⟩)
    (c10 : PySem.W.codeIn K cd10 "every_plan" = true)
    (k10 : PySem.W.keepIn K (.ref f10) = true)
    (a11 : PySem.W.nsIn K mainGlobals "can_be" = some (some (.ref f11)))
    (l11 : K.lookup f11 = some ⟨oc11, od11, .func (PySem.W.fnOf "can_be" "can_be" (defArgs (topS 11)) (defBody (topS 11)) (defScope (topS 11)) .none kV11 dc11 pm11 an11 cd11 ct11), sl11⟩)
    (c11 : PySem.W.codeIn K cd11 "can_be" = true)
    (k11 : PySem.W.keepIn K (.ref f11) = true)
    (a12 : PySem.W.nsIn K mainGlobals "plans_that_can_be" = some (some (.ref f12)))
    (l12 : K.lookup f12 = some ⟨oc12, od12, .func (PySem.W.fnOf "plans_that_can_be" "plans_that_can_be" (defArgs (topS 12)) (defBody (topS 12)) (defScope (topS 12)) .none kV12 dc12 pm12 an12 cd12 ct12), sl12⟩)
    (c12 : PySem.W.codeIn K cd12 "plans_that_can_be" = true)
    (k12 : PySem.W.keepIn K (.ref f12) = true)
    (a13 : PySem.W.nsIn K mainGlobals "least_of" = some (some (.ref f13)))
    (l13 : K.lookup f13 = some ⟨oc13, od13, .func (PySem.W.fnOf "least_of" "least_of" (defArgs (topS 13)) (defBody (topS 13)) (defScope (topS 13)) .none kV13 dc13 pm13 an13 cd13 ct13), sl13⟩)
    (c13 : PySem.W.codeIn K cd13 "least_of" = true)
    (k13 : PySem.W.keepIn K (.ref f13) = true)
    (a32 : PySem.W.nsIn K mainGlobals "begins" = some (some (.ref f32)))
    (l32 : K.lookup f32 = some ⟨oc32, od32, .func (PySem.W.fnOf "begins" "begins" (defArgs (topS 32)) (defBody (topS 32)) (defScope (topS 32)) .none kV32 dc32 pm32 an32 cd32 ct32), sl32⟩)
    (c32 : PySem.W.codeIn K cd32 "begins" = true)
    (k32 : PySem.W.keepIn K (.ref f32) = true)
    (a33 : PySem.W.nsIn K mainGlobals "hour" = some (some (.ref f33)))
    (l33 : K.lookup f33 = some ⟨oc33, od33, .func (PySem.W.fnOf "hour" "hour" (defArgs (topS 33)) (defBody (topS 33)) (defScope (topS 33)) .none kV33 dc33 pm33 an33 cd33 ct33), sl33⟩)
    (c33 : PySem.W.codeIn K cd33 "hour" = true)
    (k33 : PySem.W.keepIn K (.ref f33) = true)
    (a34 : PySem.W.nsIn K mainGlobals "can_be_flown" = some (some (.ref f34)))
    (l34 : K.lookup f34 = some ⟨oc34, od34, .func (PySem.W.fnOf "can_be_flown" "can_be_flown" (defArgs (topS 34)) (defBody (topS 34)) (defScope (topS 34)) .none kV34 dc34 pm34 an34 cd34 ct34), sl34⟩)
    (c34 : PySem.W.codeIn K cd34 "can_be_flown" = true)
    (k34 : PySem.W.keepIn K (.ref f34) = true)
    (a35 : PySem.W.nsIn K mainGlobals "balloon" = some (some (.ref f35)))
    (l35 : K.lookup f35 = some ⟨oc35, od35, .func (PySem.W.fnOf "balloon" "balloon" (defArgs (topS 35)) (defBody (topS 35)) (defScope (topS 35)) .none kV35 dc35 pm35 an35 cd35 ct35), sl35⟩)
    (c35 : PySem.W.codeIn K cd35 "balloon" = true)
    (k35 : PySem.W.keepIn K (.ref f35) = true)
    (a36 : PySem.W.nsIn K mainGlobals "check" = some (some (.ref f36)))
    (l36 : K.lookup f36 = some ⟨oc36, od36, .func (PySem.W.fnOf "check" "check" (defArgs (topS 36)) (defBody (topS 36)) (defScope (topS 36)) .none kV36 dc36 pm36 an36 cd36 ct36), sl36⟩)
    (c36 : PySem.W.codeIn K cd36 "check" = true)
    (k36 : PySem.W.keepIn K (.ref f36) = true)
    (a37 : PySem.W.nsIn K mainGlobals "best" = some (some (.ref f37)))
    (l37 : K.lookup f37 = some ⟨oc37, od37, .func (PySem.W.fnOf "best" "best" (defArgs (topS 37)) (defBody (topS 37)) (defScope (topS 37)) .none kV37 dc37 pm37 an37 cd37 ct37), sl37⟩)
    (c37 : PySem.W.codeIn K cd37 "best" = true)
    (k37 : PySem.W.keepIn K (.ref f37) = true)
    (a38 : PySem.W.nsIn K mainGlobals "soonest" = some (some (.ref f38)))
    (l38 : K.lookup f38 = some ⟨oc38, od38, .func (PySem.W.fnOf "soonest" "soonest" (defArgs (topS 38)) (defBody (topS 38)) (defScope (topS 38)) .none kV38 dc38 pm38 an38 cd38 ct38), sl38⟩)
    (c38 : PySem.W.codeIn K cd38 "soonest" = true)
    (k38 : PySem.W.keepIn K (.ref f38) = true)
    (a39 : PySem.W.nsIn K mainGlobals "lands" = some (some (.ref f39)))
    (l39 : K.lookup f39 = some ⟨oc39, od39, .func (PySem.W.fnOf "lands" "lands" (defArgs (topS 39)) (defBody (topS 39)) (defScope (topS 39)) .none kV39 dc39 pm39 an39 cd39 ct39), sl39⟩)
    (c39 : PySem.W.codeIn K cd39 "lands" = true)
    (k39 : PySem.W.keepIn K (.ref f39) = true)
    (a41 : PySem.W.nsIn K mainGlobals "split_calls" = some (some (.ref f41)))
    (l41 : K.lookup f41 = some ⟨oc41, od41, .func (PySem.W.fnOf "split_calls" "split_calls" (defArgs (topS 41)) (defBody (topS 41)) (defScope (topS 41)) .none kV41 dc41 pm41 an41 cd41 ct41), sl41⟩)
    (c41 : PySem.W.codeIn K cd41 "split_calls" = true)
    (k41 : PySem.W.keepIn K (.ref f41) = true)
    (a42 : PySem.W.nsIn K mainGlobals "answers" = some (some (.ref f42)))
    (l42 : K.lookup f42 = some ⟨oc42, od42, .func (PySem.W.fnOf "answers" "answers" (defArgs (topS 42)) (defBody (topS 42)) (defScope (topS 42)) .none kV42 dc42 pm42 an42 cd42 ct42), sl42⟩)
    (c42 : PySem.W.codeIn K cd42 "answers" = true)
    (k42 : PySem.W.keepIn K (.ref f42) = true)
    (aB0 : PySem.W.findIn K (.ref CB) "__init__" = some (some (.ref fB0)))
    (iB0 : PySem.W.isFn K (.ref fB0) = true)
    (lB0 : K.lookup fB0 = some ⟨ocB0, odB0, .func (PySem.W.fnOf "__init__" "Balloon.__init__" (defArgs (sBInit)) (defBody (sBInit)) (defScope (sBInit)) .none kVB0 dcB0 pmB0 anB0 cdB0 ctB0), slB0⟩)
    (cB0 : PySem.W.codeIn K cdB0 "Balloon.__init__" = true)
    (kB0 : PySem.W.keepIn K (.ref fB0) = true)
    (aF0 : PySem.W.findIn K (.ref CF) "__init__" = some (some (.ref fF0)))
    (iF0 : PySem.W.isFn K (.ref fF0) = true)
    (lF0 : K.lookup fF0 = some ⟨ocF0, odF0, .func (PySem.W.fnOf "__init__" "Field.__init__" (defArgs (sFInit)) (defBody (sFInit)) (defScope (sFInit)) .none kVF0 dcF0 pmF0 anF0 cdF0 ctF0), slF0⟩)
    (cF0 : PySem.W.codeIn K cdF0 "Field.__init__" = true)
    (kF0 : PySem.W.keepIn K (.ref fF0) = true)
    (aF1 : PySem.W.findIn K (.ref CF) "begin" = some (some (.ref fF1)))
    (iF1 : PySem.W.isFn K (.ref fF1) = true)
    (lF1 : K.lookup fF1 = some ⟨ocF1, odF1, .func (PySem.W.fnOf "begin" "Field.begin" (defArgs (sFBegin)) (defBody (sFBegin)) (defScope (sFBegin)) .none kVF1 dcF1 pmF1 anF1 cdF1 ctF1), slF1⟩)
    (cF1 : PySem.W.codeIn K cdF1 "Field.begin" = true)
    (kF1 : PySem.W.keepIn K (.ref fF1) = true)
    (pgF : PySem.W.plainGet K CF Str.empty = true)
    (hdF : PySem.W.hasDictIn K CF = true)
    (poF : PySem.W.plainOver K CF = true)
    (saF : PySem.W.findIn K (.ref CF) "__setattr__" = some (some (.builtin "object.__setattr__")))
    (mkF : PySem.W.makesIn K CF = true)
    (kcF : PySem.W.keepIn K (.ref CF) = true)
    (nF0 : PySem.W.findIn K (.ref CF) "heights" = some none)
    (nF1 : PySem.W.findIn K (.ref CF) "near" = some none)
    (nF2 : PySem.W.findIn K (.ref CF) "longest_wait" = some none)
    (nF3 : PySem.W.findIn K (.ref CF) "hours" = some none)
    (nF4 : PySem.W.findIn K (.ref CF) "balloons" = some none)
    (pgB : PySem.W.plainGet K CB Str.empty = true)
    (hdB : PySem.W.hasDictIn K CB = true)
    (poB : PySem.W.plainOver K CB = true)
    (saB : PySem.W.findIn K (.ref CB) "__setattr__" = some (some (.builtin "object.__setattr__")))
    (mkB : PySem.W.makesIn K CB = true)
    (kcB : PySem.W.keepIn K (.ref CB) = true)
    (nB0 : PySem.W.findIn K (.ref CB) "east" = some none)
    (nB1 : PySem.W.findIn K (.ref CB) "north" = some none)
    (nB2 : PySem.W.findIn K (.ref CB) "flight" = some none)
    (z0 : PySem.W.nsIn K mainGlobals "len" = some none)
    (z1 : PySem.W.nsIn K mainGlobals "max" = some none)
    (z2 : PySem.W.nsIn K mainGlobals "min" = some none)
    (z3 : PySem.W.nsIn K mainGlobals "sum" = some none)
    (z4 : PySem.W.nsIn K mainGlobals "all" = some none)
    (z5 : PySem.W.nsIn K mainGlobals "zip" = some none)
    (z6 : PySem.W.nsIn K mainGlobals "range" = some none)
    (z7 : PySem.W.nsIn K mainGlobals "enumerate" = some none)
    (v0 : PySem.W.nsIn K mainGlobals "MOST_HEIGHTS" = some (some (.int (4) t0)))
    (v1 : PySem.W.nsIn K mainGlobals "MOST_NEAR" = some (some (.int (1000) t1)))
    (v2 : PySem.W.nsIn K mainGlobals "MOST_WAIT" = some (some (.int (3) t2)))
    (v3 : PySem.W.nsIn K mainGlobals "MOST_HOURS" = some (some (.int (8) t3)))
    (v4 : PySem.W.nsIn K mainGlobals "MOST_BALLOONS" = some (some (.int (4) t4)))
    (v5 : PySem.W.nsIn K mainGlobals "MOST_FLIGHT" = some (some (.int (5) t5)))
    (v6 : PySem.W.nsIn K mainGlobals "WIND_ADDED" = some (some (.int (9) t6)))
    (v7 : PySem.W.nsIn K mainGlobals "PLACE_ADDED" = some (some (.int (100) t7)))
    (v8 : PySem.W.nsIn K mainGlobals "WRONG" = some (some (.int (-1) t8)))
    (v9 : PySem.W.nsIn K mainGlobals "NO_BALLOON" = some (some (.int (-2) t9)))
    (v10 : PySem.W.nsIn K mainGlobals "TOO_MANY" = some (some (.int (-5) t10)))
    (v11 : PySem.W.nsIn K mainGlobals "TOO_NEAR" = some (some (.int (-6) t11)))
    (v12 : PySem.W.nsIn K mainGlobals "NO_PLAN" = some (some (.int (-6) t12)))
    (v13 : PySem.W.nsIn K mainGlobals "BEYOND_HOURS" = some (some (.int (-7) t13)))
    (aT : PySem.W.nsIn K mainGlobals "CALLS" = some (some (.ref CT)))
    (lT : K.lookup CT = some ⟨.type "tuple", odT, .seq #[.ref f32, .ref f33, .ref f35, .ref f36, .ref f37, .ref f38, .ref f39] nT, slT⟩) :
    ∃ fd : FuncData, (∀ (s : Shared) (us : List Value), us.length = (["calls"] : List Str).length → BindsTo s fd ⟨us, []⟩ ((["calls"] : List Str).zip us)) ∧ ∀ base : Heap, K.In base → base.Ns mainGlobals mg → FnOk P w K mg base CX0 7 fa fd ["calls"] (spAns K) := by
  have e := hfa.symm.trans (PySem.W.mg_of X G a42)
  cases e
  have T : Txt K mg CF CB := { clF := ⟨pgF, hdF, poF, saF⟩, clB := ⟨pgB, hdB, poB, saB⟩, gF := PySem.W.mg_of X G aF, gB := PySem.W.mg_of X G aB, nHt := nF0, nNr := nF1, nWt := nF2, nHr := nF3, nBl := nF4, nEa := nB0, nNo := nB1, nFl := nB2, len := PySem.W.mg_none_of X G z0, max := PySem.W.mg_none_of X G z1, min := PySem.W.mg_none_of X G z2, sum := PySem.W.mg_none_of X G z3, all := PySem.W.mg_none_of X G z4, zip := PySem.W.mg_none_of X G z5, range := PySem.W.mg_none_of X G z6, enum := PySem.W.mg_none_of X G z7, c1 := ⟨_, PySem.W.mg_of X G v0⟩, c2 := ⟨_, PySem.W.mg_of X G v1⟩, c3 := ⟨_, PySem.W.mg_of X G v2⟩, c4 := ⟨_, PySem.W.mg_of X G v3⟩, c5 := ⟨_, PySem.W.mg_of X G v4⟩, c6 := ⟨_, PySem.W.mg_of X G v5⟩, c7 := ⟨_, PySem.W.mg_of X G v6⟩, c8 := ⟨_, PySem.W.mg_of X G v7⟩, c9 := ⟨_, PySem.W.mg_of X G v8⟩, c10 := ⟨_, PySem.W.mg_of X G v9⟩, c11 := ⟨_, PySem.W.mg_of X G v10⟩, c12 := ⟨_, PySem.W.mg_of X G v11⟩, c13 := ⟨_, PySem.W.mg_of X G v12⟩, c14 := ⟨_, PySem.W.mg_of X G v13⟩ }
  have F1 := fun_mk (st := topS 1) l1 c1 k1
  have b1 := F1.binds (ps := ["balloon", "waits"]) fun _ _ _ _ _ _ us hl => match us, hl with | [_, _], _ => rfl
  have F2 := fun_mk (st := topS 2) l2 c2 k2
  have b2 := F2.binds (ps := ["field", "plan"]) fun _ _ _ _ _ _ us hl => match us, hl with | [_, _], _ => rfl
  have F3 := fun_mk (st := topS 3) l3 c3 k3
  have b3 := F3.binds (ps := ["field", "balloon", "waits"]) fun _ _ _ _ _ _ us hl => match us, hl with | [_, _, _], _ => rfl
  have F4 := fun_mk (st := topS 4) l4 c4 k4
  have b4 := F4.binds (ps := ["field", "balloon", "waits"]) fun _ _ _ _ _ _ us hl => match us, hl with | [_, _, _], _ => rfl
  have F5 := fun_mk (st := topS 5) l5 c5 k5
  have b5 := F5.binds (ps := ["field", "balloon", "waits"]) fun _ _ _ _ _ _ us hl => match us, hl with | [_, _, _], _ => rfl
  have F6 := fun_mk (st := topS 6) l6 c6 k6
  have b6 := F6.binds (ps := ["field", "plan"]) fun _ _ _ _ _ _ us hl => match us, hl with | [_, _], _ => rfl
  have F7 := fun_mk (st := topS 7) l7 c7 k7
  have b7 := F7.binds (ps := ["near", "one", "other"]) fun _ _ _ _ _ _ us hl => match us, hl with | [_, _, _], _ => rfl
  have F8 := fun_mk (st := topS 8) l8 c8 k8
  have b8 := F8.binds (ps := ["field", "plan"]) fun _ _ _ _ _ _ us hl => match us, hl with | [_, _], _ => rfl
  have F10 := fun_mk (st := topS 10) l10 c10 k10
  have b10 := F10.binds (ps := ["field"]) fun _ _ _ _ _ _ us hl => match us, hl with | [_], _ => rfl
  have F11 := fun_mk (st := topS 11) l11 c11 k11
  have b11 := F11.binds (ps := ["field", "plan"]) fun _ _ _ _ _ _ us hl => match us, hl with | [_, _], _ => rfl
  have F12 := fun_mk (st := topS 12) l12 c12 k12
  have b12 := F12.binds (ps := ["field"]) fun _ _ _ _ _ _ us hl => match us, hl with | [_], _ => rfl
  have F13 := fun_mk (st := topS 13) l13 c13 k13
  have b13 := F13.binds (ps := ["plans", "measures"]) fun _ _ _ _ _ _ us hl => match us, hl with | [_, _], _ => rfl
  have F32 := fun_mk (st := topS 32) l32 c32 k32
  have b32 := F32.binds (ps := ["field", "told"]) fun _ _ _ _ _ _ us hl => match us, hl with | [_, _], _ => rfl
  have F33 := fun_mk (st := topS 33) l33 c33 k33
  have b33 := F33.binds (ps := ["field", "told"]) fun _ _ _ _ _ _ us hl => match us, hl with | [_, _], _ => rfl
  have F34 := fun_mk (st := topS 34) l34 c34 k34
  have b34 := F34.binds (ps := ["field", "flight"]) fun _ _ _ _ _ _ us hl => match us, hl with | [_, _], _ => rfl
  have F35 := fun_mk (st := topS 35) l35 c35 k35
  have b35 := F35.binds (ps := ["field", "told"]) fun _ _ _ _ _ _ us hl => match us, hl with | [_, _], _ => rfl
  have F36 := fun_mk (st := topS 36) l36 c36 k36
  have b36 := F36.binds (ps := ["field", "plan"]) fun _ _ _ _ _ _ us hl => match us, hl with | [_, _], _ => rfl
  have F37 := fun_mk (st := topS 37) l37 c37 k37
  have b37 := F37.binds (ps := ["field", "told"]) fun _ _ _ _ _ _ us hl => match us, hl with | [_, _], _ => rfl
  have F38 := fun_mk (st := topS 38) l38 c38 k38
  have b38 := F38.binds (ps := ["field", "told"]) fun _ _ _ _ _ _ us hl => match us, hl with | [_, _], _ => rfl
  have F39 := fun_mk (st := topS 39) l39 c39 k39
  have b39 := F39.binds (ps := ["field", "told"]) fun _ _ _ _ _ _ us hl => match us, hl with | [_, _], _ => rfl
  have F41 := fun_mk (st := topS 41) l41 c41 k41
  have b41 := F41.binds (ps := ["calls"]) fun _ _ _ _ _ _ us hl => match us, hl with | [_], _ => rfl
  have F42 := fun_mk (st := topS 42) l42 c42 k42
  have b42 := F42.binds (ps := ["calls"]) fun _ _ _ _ _ _ us hl => match us, hl with | [_], _ => rfl
  have FB0 := fun_mk (st := sBInit) lB0 cB0 kB0
  have bB0 := FB0.binds (ps := ["self", "east", "north", "flight"]) fun _ _ _ _ _ _ us hl => match us, hl with | [_, _, _, _], _ => rfl
  have FF0 := fun_mk (st := sFInit) lF0 cF0 kF0
  have bF0 := FF0.binds (ps := ["self"]) fun _ _ _ _ _ _ us hl => match us, hl with | [_], _ => rfl
  have FF1 := fun_mk (st := sFBegin) lF1 cF1 kF1
  have bF1 := FF1.binds (ps := ["self", "heights", "near", "longest_wait"]) fun _ _ _ _ _ _ us hl => match us, hl with | [_, _, _, _], _ => rfl
  refine ⟨PySem.W.fnOf "answers" "answers" (defArgs (topS 42)) (defBody (topS 42)) (defScope (topS 42)) .none kV42 dc42 pm42 an42 cd42 ct42, fun s us hu => match us, hu with | [_], _ => .of_eq rfl, fun base _ _ => ?_⟩
  have C1 := Callee.mk (P := P) (w := w) (base := base) (ok_down F1 T) (PySem.W.mg_of X G a1) k1 b1
  have C2 := Callee.mk (P := P) (w := w) (base := base) (ok_allDown F2 T C1) (PySem.W.mg_of X G a2) k2 b2
  have C3 := Callee.mk (P := P) (w := w) (base := base) (ok_air F3 T) (PySem.W.mg_of X G a3) k3 b3
  have C4 := Callee.mk (P := P) (w := w) (base := base) (ok_landing F4 T C1 C3) (PySem.W.mg_of X G a4) k4 b4
  have C5 := Callee.mk (P := P) (w := w) (base := base) (ok_beyond F5 T C1) (PySem.W.mg_of X G a5) k5 b5
  have C6 := Callee.mk (P := P) (w := w) (base := base) (ok_late F6 T C5) (PySem.W.mg_of X G a6) k6 b6
  have C7 := Callee.mk (P := P) (w := w) (base := base) (ok_near F7) (PySem.W.mg_of X G a7) k7 b7
  have C8 := Callee.mk (P := P) (w := w) (base := base) (ok_bad F8 T C3 C7) (PySem.W.mg_of X G a8) k8 b8
  have C10 := Callee.mk (P := P) (w := w) (base := base) (ok_every F10 T) (PySem.W.mg_of X G a10) k10 b10
  have C11 := Callee.mk (P := P) (w := w) (base := base) (ok_canBe F11 C6 C8) (PySem.W.mg_of X G a11) k11 b11
  have C12 := Callee.mk (P := P) (w := w) (base := base) (ok_plans F12 C10 C11) (PySem.W.mg_of X G a12) k12 b12
  have C13 := Callee.mk (P := P) (w := w) (base := base) (ok_least F13 T) (PySem.W.mg_of X G a13) k13 b13
  have C34 := Callee.mk (P := P) (w := w) (base := base) (ok_fly F34 T) (PySem.W.mg_of X G a34) k34 b34
  have C41 := Callee.mk (P := P) (w := w) (base := base) (ok_split F41 T) (PySem.W.mg_of X G a41) k41 b41
  have MF1 := CalleeM.mk (P := P) (w := w) (mg := mg) (base := base) (ok_begin (CB := CB) FF1 T) ⟨aF1, iF1, kF1⟩ bF1
  have A0 : Keeps P w K mg base 6 f32 (spCall 0 CF CB) := ⟨_, _, (ok_begins F32 T MF1).mono (by decide), k32, b32⟩
  have A1 : Keeps P w K mg base 6 f33 (spCall 1 CF CB) := ⟨_, _, (ok_hour F33 T).mono (by decide), k33, b33⟩
  have A2 : Keeps P w K mg base 6 f35 (spCall 2 CF CB) := ⟨_, _, (ok_balloon F35 T C34 ⟨mkB, aB0, iB0, kcB⟩ (ok_bInit (CF := CF) FB0 T) bB0).mono (by decide), k35, b35⟩
  have A3 : Keeps P w K mg base 6 f36 (spCall 3 CF CB) := ⟨_, _, (ok_check F36 T C6 C8 C2 C4).mono (by decide), k36, b36⟩
  have A4 : Keeps P w K mg base 6 f37 (spCall 4 CF CB) := ⟨_, _, ok_best F37 T C12 C2 C13, k37, b37⟩
  have A5 : Keeps P w K mg base 6 f38 (spCall 5 CF CB) := ⟨_, _, ok_soonest F38 T C12 C2 C13, k38, b38⟩
  have A6 : Keeps P w K mg base 6 f39 (spCall 6 CF CB) := ⟨_, _, (ok_lands F39 T C5 C1 C4).mono (by decide), k39, b39⟩
  refine ok_ans (fs := [f32, f33, f35, f36, f37, f38, f39]) F42 T ⟨mkF, aF0, iF0, kcF⟩ (ok_fInit FF0 T MF1) bF0 C41 (PySem.W.mg_of X G aT) (fun H => .inr ⟨_, _, _, lT, rfl, rfl, by show 7 ≤ sizeLine; decide, ?_⟩) rfl fun n g hg => ?_
  · exact .cons rfl (.cons rfl (.cons rfl (.cons rfl (.cons rfl (.cons rfl (.cons rfl (.nil)))))))
  · match n, hg with
    | 0, hg => cases hg; exact A0
    | 1, hg => cases hg; exact A1
    | 2, hg => cases hg; exact A2
    | 3, hg => cases hg; exact A3
    | 4, hg => cases hg; exact A4
    | 5, hg => cases hg; exact A5
    | 6, hg => cases hg; exact A6
    | n + 7, hg => simp at hg
end Wb
open PySem PySem.W PyProof.Rows
set_option maxRecDepth 100000 in
set_option maxHeartbeats 8000000 in
theorem PySem.Challenge.cw_waitingballoons_s01_answers_holds : PySem.Challenge.rw_waitingballoons_s01_answers.Holds := by
  w_on; k_headS; (case hw => exact ⟨[.list [.int 0, .int 3, .int 0, .int 0, .int 0, .int 0]], by decide +kernel, by decide +kernel⟩)
  k_fillS
  refine L2.walk_specK (r := PySem.Challenge.rw_waitingballoons_s01_answers) (k := 7) (CX := L2.CX0) (ps := ["calls"]) (sp := Wb.spAns) (by decide +kernel) rfl rfl ⟨rfl, by decide, by decide⟩ (fun w h Y => PySem.W.kIn_of Y) ?F ?S (fun _ _ _ _ z => z)
  case F =>
    intro w mg fa h Y KX G hmg
    refine' Wb.all_of KX G hmg ?aF ?aB ?a1 ?l1 ?c1 ?k1 ?a2 ?l2 ?c2 ?k2 ?a3 ?l3 ?c3 ?k3 ?a4 ?l4 ?c4 ?k4 ?a5 ?l5 ?c5 ?k5 ?a6 ?l6 ?c6 ?k6 ?a7 ?l7 ?c7 ?k7 ?a8 ?l8 ?c8 ?k8 ?a10 ?l10 ?c10 ?k10 ?a11 ?l11 ?c11 ?k11 ?a12 ?l12 ?c12 ?k12 ?a13 ?l13 ?c13 ?k13 ?a32 ?l32 ?c32 ?k32 ?a33 ?l33 ?c33 ?k33 ?a34 ?l34 ?c34 ?k34 ?a35 ?l35 ?c35 ?k35 ?a36 ?l36 ?c36 ?k36 ?a37 ?l37 ?c37 ?k37 ?a38 ?l38 ?c38 ?k38 ?a39 ?l39 ?c39 ?k39 ?a41 ?l41 ?c41 ?k41 ?a42 ?l42 ?c42 ?k42 ?aB0 ?iB0 ?lB0 ?cB0 ?kB0 ?aF0 ?iF0 ?lF0 ?cF0 ?kF0 ?aF1 ?iF1 ?lF1 ?cF1 ?kF1 ?pgF ?hdF ?poF ?saF ?mkF ?kcF ?nF0 ?nF1 ?nF2 ?nF3 ?nF4 ?pgB ?hdB ?poB ?saB ?mkB ?kcB ?nB0 ?nB1 ?nB2 ?z0 ?z1 ?z2 ?z3 ?z4 ?z5 ?z6 ?z7 ?v0 ?v1 ?v2 ?v3 ?v4 ?v5 ?v6 ?v7 ?v8 ?v9 ?v10 ?v11 ?v12 ?v13 ?aT ?lT
    (case aF => k_is); (case aB => k_is); (case a1 => k_is); (case l1 => k_is); (case c1 => k_is); (case k1 => k_is); (case a2 => k_is); (case l2 => k_is); (case c2 => k_is); (case k2 => k_is); (case a3 => k_is); (case l3 => k_is); (case c3 => k_is); (case k3 => k_is); (case a4 => k_is); (case l4 => k_is); (case c4 => k_is); (case k4 => k_is); (case a5 => k_is); (case l5 => k_is); (case c5 => k_is); (case k5 => k_is); (case a6 => k_is); (case l6 => k_is); (case c6 => k_is); (case k6 => k_is); (case a7 => k_is); (case l7 => k_is); (case c7 => k_is); (case k7 => k_is); (case a8 => k_is); (case l8 => k_is); (case c8 => k_is); (case k8 => k_is); (case a10 => k_is); (case l10 => k_is); (case c10 => k_is); (case k10 => k_is); (case a11 => k_is); (case l11 => k_is); (case c11 => k_is); (case k11 => k_is); (case a12 => k_is); (case l12 => k_is); (case c12 => k_is); (case k12 => k_is); (case a13 => k_is); (case l13 => k_is); (case c13 => k_is); (case k13 => k_is); (case a32 => k_is); (case l32 => k_is); (case c32 => k_is); (case k32 => k_is); (case a33 => k_is); (case l33 => k_is); (case c33 => k_is); (case k33 => k_is); (case a34 => k_is); (case l34 => k_is); (case c34 => k_is); (case k34 => k_is); (case a35 => k_is); (case l35 => k_is); (case c35 => k_is); (case k35 => k_is); (case a36 => k_is); (case l36 => k_is); (case c36 => k_is); (case k36 => k_is); (case a37 => k_is); (case l37 => k_is); (case c37 => k_is); (case k37 => k_is); (case a38 => k_is); (case l38 => k_is); (case c38 => k_is); (case k38 => k_is); (case a39 => k_is); (case l39 => k_is); (case c39 => k_is); (case k39 => k_is); (case a41 => k_is); (case l41 => k_is); (case c41 => k_is); (case k41 => k_is); (case a42 => k_is); (case l42 => k_is); (case c42 => k_is); (case k42 => k_is); (case aB0 => k_is); (case iB0 => k_is); (case lB0 => k_is); (case cB0 => k_is); (case kB0 => k_is); (case aF0 => k_is); (case iF0 => k_is); (case lF0 => k_is); (case cF0 => k_is); (case kF0 => k_is); (case aF1 => k_is); (case iF1 => k_is); (case lF1 => k_is); (case cF1 => k_is); (case kF1 => k_is); (case pgF => k_is); (case hdF => k_is); (case poF => k_is); (case saF => k_is); (case mkF => k_is); (case kcF => k_is); (case nF0 => k_is); (case nF1 => k_is); (case nF2 => k_is); (case nF3 => k_is); (case nF4 => k_is); (case pgB => k_is); (case hdB => k_is); (case poB => k_is); (case saB => k_is); (case mkB => k_is); (case kcB => k_is); (case nB0 => k_is); (case nB1 => k_is); (case nB2 => k_is); (case z0 => k_is); (case z1 => k_is); (case z2 => k_is); (case z3 => k_is); (case z4 => k_is); (case z5 => k_is); (case z6 => k_is); (case z7 => k_is); (case v0 => k_is); (case v1 => k_is); (case v2 => k_is); (case v3 => k_is); (case v4 => k_is); (case v5 => k_is); (case v6 => k_is); (case v7 => k_is); (case v8 => k_is); (case v9 => k_is); (case v10 => k_is); (case v11 => k_is); (case v12 => k_is); (case v13 => k_is); (case aT => k_is); (case lT => k_is)
  case S =>
    intro K H xs a hO hwi hask hx
    cases hx with
    | cons h1 h2 =>
      cases h2
      cases h1 with
      | lst hs ha =>
        have e := L2.ints_dw a.1 _ ha
        subst e
        have q : ((Codec.inLen 0 2000 a.1 && a.1.all (Codec.inInt 0 4294967295)) && true) = true := hwi
        rw [Bool.and_eq_true, Bool.and_eq_true] at q
        have hlen : a.1.length ≤ 2000 := (Codec.inNat_iff.mp q.1.1).2
        obtain ⟨qs, e1, e2, e3, e4⟩ := Wb.ask_of (l := a.1) hask
        refine ⟨_, qs, rfl, ?_, ?_, e2, e3, fun H' p hp => ?_⟩
        · rw [← e1]
          exact hs
        · rw [← e1]
          exact hlen
        · rw [← e4] at hp
          exact .lst (L2.SqL.of hp) (L2.dw_ints _)
#print axioms PySem.Challenge.cw_waitingballoons_s01_answers_holds

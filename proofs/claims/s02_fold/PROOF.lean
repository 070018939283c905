import PyProof.Rows.All
import Wide.All
import OpenK.AllK
import Wide.FinOn
import PyProof.EqAt
import PyProof.EqKinds
import PyProof.TupleCall
import Open.SpecLaws
import KE.OsGo
import KE.DataMinKey
import HandS.Comp
import HandS.Dict
import HandS.Iter
import HandS.Words
import HandS.WordsList
import HandS.Spec
import HandS.Walk
import HandS.Deep
import HandS.TupLe
import HandS.SortKw
import HandS.Strs
import PySem.Challenge.RW_graphcore_s02_fold
set_option Elab.async false
set_option maxRecDepth 100000
set_option maxHeartbeats 4000000
namespace Gc
open Ks547 (Graph has rows keeps maps graphOf pairsOf)

/-! ### the arrows of a list of numbers -/
def pairUp : List Nat → List (Nat × Nat)
  | u :: v :: l => (u, v) :: pairUp l
  | _ => []
def ltP (p q : Nat × Nat) : Bool := decide (p.1 < q.1) || (decide (p.1 = q.1) && decide (p.2 < q.2))
def rises : List (Nat × Nat) → Bool
  | p :: q :: l => ltP p q && rises (q :: l)
  | _ => true
def below (n : Nat) (l : List Nat) : Bool := l.all fun x => decide (x < n)
def isG (n : Nat) (l : List Nat) : Bool := decide (1 ≤ n ∧ n ≤ 5) && (decide (l.length % 2 = 0) && (below n l && rises (pairUp l)))

theorem pairUp_len : ∀ l : List Nat, l.length % 2 = 0 → (pairUp l).length * 2 = l.length
  | [], _ => rfl
  | [_], h => by simp at h
  | u :: v :: l, h => by
    have ih := pairUp_len l (by simp only [List.length_cons] at h; omega)
    simp only [pairUp, List.length_cons]
    omega
theorem pairUp_get : ∀ (l : List Nat) (i a b : Nat), l[2 * i]? = some a → l[2 * i + 1]? = some b → (pairUp l)[i]? = some (a, b)
  | [], i, a, b, h, _ => by simp at h
  | [x], i, a, b, h, h2 => by simp at h2
  | u :: v :: l, 0, a, b, h, h2 => by
    simp at h h2
    simp [pairUp, h, h2]
  | u :: v :: l, i + 1, a, b, h, h2 => by
    have e1 : (u :: v :: l)[2 * (i + 1)]? = l[2 * i]? := by
      rw [show 2 * (i + 1) = 2 * i + 1 + 1 by omega, List.getElem?_cons_succ, List.getElem?_cons_succ]
    have e2 : (u :: v :: l)[2 * (i + 1) + 1]? = l[2 * i + 1]? := by
      rw [show 2 * (i + 1) + 1 = 2 * i + 1 + 1 + 1 by omega, List.getElem?_cons_succ, List.getElem?_cons_succ]
    rw [e1] at h
    rw [e2] at h2
    have ih := pairUp_get l i a b h h2
    simpa [pairUp] using ih
theorem pairUp_mem {n : Nat} : ∀ {l : List Nat}, (∀ x ∈ l, x < n) → ∀ p ∈ pairUp l, p.1 < n ∧ p.2 < n
  | [], _, p, hp => by simp [pairUp] at hp
  | [_], _, p, hp => by simp [pairUp] at hp
  | u :: v :: l, h, p, hp => by
    simp only [pairUp, List.mem_cons] at hp
    rcases hp with rfl | hp
    · exact ⟨h u (by simp), h v (by simp)⟩
    · exact pairUp_mem (l := l) (fun x hx => h x (by simp [hx])) p hp
theorem below_iff {n : Nat} {l : List Nat} : below n l = true ↔ ∀ x ∈ l, x < n := by
  simp [below]
theorem rises_iff : ∀ (ps : List (Nat × Nat)), rises ps = true ↔ ∀ (i : Nat) (p q : Nat × Nat), ps[i]? = some p → ps[i + 1]? = some q → ltP p q = true
  | [] => by simp [rises]
  | [x] => by simp [rises]
  | x :: y :: l => by
    have ih := rises_iff (y :: l)
    simp only [rises, Bool.and_eq_true, ih]
    constructor
    · rintro ⟨h1, h2⟩ i p q hp hq
      cases i with
      | zero =>
        simp at hp hq
        rw [← hp, ← hq]
        exact h1
      | succ i => exact h2 i p q (by simpa using hp) (by simpa using hq)
    · intro h
      exact ⟨h 0 x y (by simp) (by simp), fun i p q hp hq => h (i + 1) p q (by simpa using hp) (by simpa using hq)⟩

theorem pairsOf_eq (n : Nat) : ∀ l : List Nat, pairsOf n l = if (decide (l.length % 2 = 0) && (below n l && rises (pairUp l))) = true then some (pairUp l) else none
  | [] => by simp [pairsOf, below, rises, pairUp]
  | [x] => by simp [pairsOf]
  | u :: v :: l => by
    have ih := pairsOf_eq n l
    rw [pairsOf]
    by_cases hb : n ≤ u ∨ n ≤ v
    · rw [if_pos hb, if_neg]
      intro e
      simp only [Bool.and_eq_true, below_iff] at e
      have h1 := e.2.1 u (by simp)
      have h2 := e.2.1 v (by simp)
      omega
    · rw [if_neg hb, ih]
      have hu : u < n := by omega
      have hv : v < n := by omega
      by_cases c : (decide (l.length % 2 = 0) && (below n l && rises (pairUp l))) = true
      · rw [if_pos c]
        simp only [Bool.and_eq_true, decide_eq_true_eq] at c
        have lenOk : (u :: v :: l).length % 2 = 0 := by simp only [List.length_cons]; omega
        have belOk : below n (u :: v :: l) = true := by simpa [below, hu, hv] using c.2.1
        cases hr : pairUp l with
        | nil =>
          simp only [pairUp, hr]
          rw [if_pos]
          rw [belOk, decide_eq_true lenOk]
          rfl
        | cons p r =>
          dsimp only
          have er : rises (pairUp (u :: v :: l)) = ltP (u, v) p := by
            have hc := c.2.2
            rw [hr] at hc
            simp [pairUp, hr, rises, hc]
          by_cases q : u < p.1 ∨ (u = p.1 ∧ v < p.2)
          · rw [if_pos q, if_pos]
            · simp [pairUp, hr]
            · rw [er]
              simp only [lenOk, belOk, decide_true, Bool.true_and]
              rcases q with q | ⟨q1, q2⟩
              · simp [ltP, q]
              · simp [ltP, q1, q2]
          · rw [if_neg q, if_neg]
            rw [er]
            intro e
            simp only [Bool.and_eq_true] at e
            have e2 := e.2.2
            simp only [ltP, Bool.or_eq_true, Bool.and_eq_true, decide_eq_true_eq] at e2
            exact q e2
      · rw [if_neg c, if_neg]
        intro e
        apply c
        simp only [Bool.and_eq_true, decide_eq_true_eq] at e ⊢
        refine ⟨by have := e.1; simp only [List.length_cons] at this; omega, ?_, ?_⟩
        · have := e.2.1
          rw [below_iff] at this ⊢
          exact fun x hx => this x (by simp [hx])
        · have := e.2.2
          cases hr : pairUp l with
          | nil => simp [rises]
          | cons p r =>
            simp only [pairUp, hr, rises, Bool.and_eq_true] at this
            exact this.2
theorem graphOf_eq (n : Nat) (l : List Nat) : graphOf n l = if isG n l = true then some ⟨n, pairUp l⟩ else none := by
  unfold graphOf isG
  by_cases h : n < 1 ∨ Ks547.PLACES < n
  · rw [if_pos h, if_neg]
    intro e
    simp only [Bool.and_eq_true, decide_eq_true_eq] at e
    have := e.1
    unfold Ks547.PLACES at h
    omega
  · rw [if_neg h, pairsOf_eq]
    have hn : 1 ≤ n ∧ n ≤ 5 := by unfold Ks547.PLACES at h; omega
    rw [decide_eq_true hn, Bool.true_and]
    by_cases c : (decide (l.length % 2 = 0) && (below n l && rises (pairUp l))) = true
    · rw [if_pos c, if_pos c]; rfl
    · rw [if_neg c, if_neg c]; rfl
theorem isG_data {n : Nat} {l : List Nat} (h : isG n l = true) : (1 ≤ n ∧ n ≤ 5) ∧ l.length % 2 = 0 ∧ (∀ x ∈ l, x < n) ∧ rises (pairUp l) = true := by
  unfold isG at h
  simp only [Bool.and_eq_true, decide_eq_true_eq, below_iff] at h
  exact h

/-! ### the maps, grown place by place -/
def carr (os : List (Nat × Nat)) (f : List Nat) (as : List (Nat × Nat)) : Bool := as.all fun p => os.contains (f.getD p.1 0, f.getD p.2 0)
def due (as : List (Nat × Nat)) (i : Nat) : List (Nat × Nat) := as.filter fun p => max p.1 p.2 == i
def grow (m : Nat) (as os : List (Nat × Nat)) (i : Nat) (b : List Nat) : List (List Nat) := ((List.range m).map fun x => b ++ [x]).filter fun f => carr os f (due as i)
def lev (m : Nat) (as os : List (Nat × Nat)) : Nat → List (List Nat)
  | 0 => [[]]
  | i + 1 => (lev m as os i).flatMap (grow m as os i)
def soFar (os as : List (Nat × Nat)) (i : Nat) (f : List Nat) : Bool := carr os f (as.filter fun p => decide (max p.1 p.2 < i))

theorem rows_snoc (m : Nat) : ∀ k, rows m (k + 1) = (rows m k).flatMap fun r => (List.range m).map fun x => r ++ [x]
  | 0 => by
    have e : ∀ l : List Nat, (l.flatMap fun x => [[x]]) = l.map fun x => [x] := by
      intro l
      induction l with
      | nil => rfl
      | cons a l ih => rw [List.flatMap_cons, ih]; rfl
    simp only [rows, List.flatMap_cons, List.flatMap_nil, List.append_nil, List.nil_append, List.map_cons, List.map_nil]
    exact e _
  | k + 1 => by
    have ih := rows_snoc m k
    show ((List.range m).flatMap fun x => (rows m (k + 1)).map fun r => x :: r) = _
    have e2 : rows m (k + 1) = (List.range m).flatMap fun x => (rows m k).map fun r => x :: r := rfl
    conv => rhs; rw [e2]
    rw [List.flatMap_assoc]
    congr 1
    funext x
    rw [ih, List.map_flatMap, List.flatMap_map]
    congr 1
    funext r
    rw [List.map_map]
    rfl
theorem rows_len (m : Nat) : ∀ (k : Nat) (f : List Nat), f ∈ rows m k → f.length = k
  | 0, f, h => by simp [rows] at h; simp [h]
  | k + 1, f, h => by
    simp only [rows, List.mem_flatMap, List.mem_map] at h
    obtain ⟨x, _, r, hr, rfl⟩ := h
    simp [rows_len m k r hr]
theorem rows_lt (m : Nat) : ∀ (k : Nat) (f : List Nat), f ∈ rows m k → ∀ x ∈ f, x < m
  | 0, f, h => by simp [rows] at h; simp [h]
  | k + 1, f, h => by
    simp only [rows, List.mem_flatMap, List.mem_map, List.mem_range] at h
    obtain ⟨x, hx, r, hr, rfl⟩ := h
    intro y hy
    rcases List.mem_cons.mp hy with rfl | hy
    · exact hx
    · exact rows_lt m k r hr y hy
theorem getD_snoc {b : List Nat} {x j : Nat} (h : j < b.length) : (b ++ [x]).getD j 0 = b.getD j 0 := by
  simp [List.getD, List.getElem?_append_left h]
theorem all_congr' {α : Type} {l : List α} {p q : α → Bool} (h : ∀ x ∈ l, p x = q x) : l.all p = l.all q := by
  induction l with
  | nil => rfl
  | cons a l ih =>
    rw [List.all_cons, List.all_cons, h a (by simp), ih fun x hx => h x (by simp [hx])]
theorem soFar_snoc {os as : List (Nat × Nat)} {b : List Nat} {x : Nat} : soFar os as (b.length + 1) (b ++ [x]) = (soFar os as b.length b && carr os (b ++ [x]) (due as b.length)) := by
  unfold soFar due carr
  rw [List.all_filter, List.all_filter, List.all_filter]
  induction as with
  | nil => rfl
  | cons p as ih =>
    simp only [List.all_cons]
    rw [ih]
    by_cases h1 : max p.1 p.2 < b.length
    · have h2 : max p.1 p.2 < b.length + 1 := by omega
      have h3 : (max p.1 p.2 == b.length) = false := by simp; omega
      rw [getD_snoc (b := b) (x := x) (j := p.1) (by omega), getD_snoc (b := b) (x := x) (j := p.2) (by omega)]
      simp only [h1, h2, h3, decide_true, Bool.not_true, Bool.false_or, Bool.not_false, Bool.true_or, Bool.true_and]
      ac_rfl
    · by_cases h2 : max p.1 p.2 = b.length
      · have h3 : max p.1 p.2 < b.length + 1 := by omega
        have h4 : (max p.1 p.2 == b.length) = true := by simp [h2]
        simp only [h1, h3, h4, decide_true, decide_false, Bool.not_true, Bool.not_false, Bool.false_or, Bool.true_or, Bool.true_and]
        ac_rfl
      · have h3 : ¬ max p.1 p.2 < b.length + 1 := by omega
        have h4 : (max p.1 p.2 == b.length) = false := by simp [h2]
        simp only [h1, h3, h4, decide_false, Bool.not_false, Bool.true_or, Bool.true_and]
theorem filter_flatMap' {α β : Type} (l : List α) (f : α → List β) (p : β → Bool) : (l.flatMap f).filter p = l.flatMap fun x => (f x).filter p := by
  induction l with
  | nil => rfl
  | cons a l ih => simp [List.flatMap_cons, List.filter_append, ih]
theorem flatMap_filter' {α β : Type} (l : List α) (f g : α → List β) (p : α → Bool) (h1 : ∀ x ∈ l, p x = true → f x = g x) (h2 : ∀ x ∈ l, p x = false → g x = []) : (l.filter p).flatMap f = l.flatMap g := by
  induction l with
  | nil => rfl
  | cons a l ih =>
    have ih' := ih (fun x hx => h1 x (by simp [hx])) (fun x hx => h2 x (by simp [hx]))
    cases e : p a with
    | true => rw [List.filter_cons_of_pos e, List.flatMap_cons, List.flatMap_cons, ih', h1 a (by simp) e]
    | false => rw [List.filter_cons_of_neg (by simp [e]), List.flatMap_cons, h2 a (by simp) e, List.nil_append, ih']
theorem lev_eq (m : Nat) (as os : List (Nat × Nat)) : ∀ i, lev m as os i = (rows m i).filter (soFar os as i)
  | 0 => by simp [lev, rows, soFar, carr]
  | i + 1 => by
    rw [rows_snoc, filter_flatMap', lev, lev_eq m as os i]
    refine flatMap_filter' _ _ _ _ (fun b hb hp => ?_) fun b hb hp => ?_
    · have hl := rows_len m i b hb
      unfold grow
      rw [List.filter_map, List.filter_map]
      congr 1
      apply List.filter_congr
      intro x _
      simp only [Function.comp]
      rw [← hl, soFar_snoc]
      rw [← hl] at hp
      rw [hp, Bool.true_and]
    · have hl := rows_len m i b hb
      rw [List.filter_map, List.map_eq_nil_iff, List.filter_eq_nil_iff]
      intro x _
      simp only [Function.comp]
      rw [← hl, soFar_snoc]
      rw [← hl] at hp
      rw [hp, Bool.false_and]
      simp
theorem lev_maps (g h : Graph) (hg : ∀ p ∈ g.arrows, p.1 < g.n ∧ p.2 < g.n) : lev h.n g.arrows h.arrows g.n = maps g h := by
  rw [lev_eq]
  unfold maps
  apply List.filter_congr
  intro f hf
  unfold keeps soFar carr has
  have e1 : (f.length == g.n) = true := by simp [rows_len _ _ f hf]
  have e2 : f.all (fun x => decide (x < h.n)) = true := by simpa using rows_lt _ _ f hf
  rw [e1, e2, Bool.true_and, Bool.true_and]
  congr 1
  rw [List.filter_eq_self]
  intro p hp
  have := hg p hp
  simp only [decide_eq_true_eq]
  omega
theorem lev_len (m : Nat) (as os : List (Nat × Nat)) : ∀ i, (lev m as os i).length ≤ m ^ i
  | 0 => by simp [lev]
  | i + 1 => by
    have ih := lev_len m as os i
    rw [lev, List.length_flatMap]
    have : ∀ l : List (List Nat), (l.map fun b => (grow m as os i b).length).sum ≤ l.length * m := by
      intro l
      induction l with
      | nil => simp
      | cons b l ihl =>
        have hb : (grow m as os i b).length ≤ m := by
          unfold grow
          refine Nat.le_trans (List.length_filter_le _ _) ?_
          simp
        simp only [List.map_cons, List.sum_cons, List.length_cons, Nat.add_mul]
        omega
    refine Nat.le_trans (this _) ?_
    rw [Nat.pow_succ]
    exact Nat.mul_le_mul_right m ih
theorem grow_len (m : Nat) (as os : List (Nat × Nat)) (i : Nat) (b : List Nat) : (grow m as os i b).length ≤ m := by
  unfold grow
  refine Nat.le_trans (List.length_filter_le _ _) ?_
  simp
theorem flat_len (m : Nat) (as os : List (Nat × Nat)) (i : Nat) : ∀ l : List (List Nat), (l.flatMap (grow m as os i)).length ≤ l.length * m
  | [] => by simp
  | b :: l => by
    have h1 := flat_len m as os i l
    have h2 := grow_len m as os i b
    rw [List.flatMap_cons, List.length_append, List.length_cons, Nat.add_mul]
    omega
/-- one begun map, the first g places tried -/
def part (as os : List (Nat × Nat)) (i : Nat) (b : List Nat) (g : Nat) : List (List Nat) := ((List.range g).map fun x => b ++ [x]).filter fun f => carr os f (due as i)
theorem part_zero {as os : List (Nat × Nat)} {i : Nat} {b : List Nat} : part as os i b 0 = [] := rfl
theorem part_yes {as os : List (Nat × Nat)} {i : Nat} {b : List Nat} {g : Nat} (h : carr os (b ++ [g]) (due as i) = true) : part as os i b (g + 1) = part as os i b g ++ [b ++ [g]] := by
  unfold part
  rw [List.range_succ, List.map_append, List.filter_append, List.map_singleton]
  congr 1
  simp [h]
theorem part_no {as os : List (Nat × Nat)} {i : Nat} {b : List Nat} {g : Nat} (h : carr os (b ++ [g]) (due as i) = false) : part as os i b (g + 1) = part as os i b g := by
  unfold part
  rw [List.range_succ, List.map_append, List.filter_append, List.map_singleton]
  simp [h]
theorem part_len {as os : List (Nat × Nat)} {i : Nat} {b : List Nat} {g : Nat} : (part as os i b g).length ≤ g := by
  unfold part
  refine Nat.le_trans (List.length_filter_le _ _) ?_
  simp
theorem due_snoc {l : List (Nat × Nat)} {p : Nat × Nat} {i : Nat} : due (l ++ [p]) i = if max p.1 p.2 == i then due l i ++ [p] else due l i := by
  unfold due
  rw [List.filter_append]
  cases h : (max p.1 p.2 == i) with
  | true =>
    rw [if_pos rfl]
    congr 1
    simpa using h
  | false =>
    rw [if_neg Bool.false_ne_true]
    have : ([p].filter fun q => max q.1 q.2 == i) = [] := by simpa using h
    rw [this, List.append_nil]
theorem due_in {l : List (Nat × Nat)} {i : Nat} : ∀ p ∈ due l i, p.1 < i + 1 ∧ p.2 < i + 1 := by
  intro p hp
  unfold due at hp
  have := (List.mem_filter.mp hp).2
  simp at this
  omega
theorem lev_le {m : Nat} {as os : List (Nat × Nat)} {i : Nat} (hm : m ≤ 5) (hi : i ≤ 5) : (lev m as os i).length ≤ 3125 := by
  refine Nat.le_trans (lev_len m as os i) (Nat.le_trans (Nat.pow_le_pow_left hm i) ?_)
  exact Nat.pow_le_pow_right (n := 5) (by decide) hi
theorem lev_elem {m : Nat} {as os : List (Nat × Nat)} {i : Nat} {f : List Nat} (h : f ∈ lev m as os i) : f.length = i ∧ ∀ x ∈ f, x < m := by
  rw [lev_eq] at h
  have := (List.mem_filter.mp h).1
  exact ⟨rows_len m i f this, rows_lt m i f this⟩

/-! ### the fold -/
def stepMin (key : List Nat → Nat) (b f : List Nat) : List Nat := if key f < key b then f else b
def firstMin (key : List Nat → Nat) : List (List Nat) → List Nat
  | [] => []
  | x :: r => r.foldl (stepMin key) x
def hits (n : Nat) (f : List Nat) : Nat := (Ks548.image n f).length
theorem keeps_id (g : Graph) (hg : ∀ p ∈ g.arrows, p.1 < g.n ∧ p.2 < g.n) : keeps g g (List.range g.n) = true := by
  unfold keeps has
  have e1 : ((List.range g.n).length == g.n) = true := by simp
  have e2 : (List.range g.n).all (fun x => decide (x < g.n)) = true := by simp
  rw [e1, e2, Bool.true_and, Bool.true_and, List.all_eq_true]
  intro p hp
  have := hg p hp
  have q1 : (List.range g.n).getD p.1 0 = p.1 := by simp [List.getD, this.1]
  have q2 : (List.range g.n).getD p.2 0 = p.2 := by simp [List.getD, this.2]
  rw [q1, q2]
  simpa using hp
theorem rows_split : ∀ n, 1 ≤ n → n ≤ 5 → ∃ pre post, rows n n = pre ++ List.range n :: post ∧ ∀ f ∈ pre, hits n f < hits n (List.range n)
  | 1, _, _ => ⟨(rows 1 1).take 0, (rows 1 1).drop 1, by decide +kernel, by decide +kernel⟩
  | 2, _, _ => ⟨(rows 2 2).take 1, (rows 2 2).drop 2, by decide +kernel, by decide +kernel⟩
  | 3, _, _ => ⟨(rows 3 3).take 5, (rows 3 3).drop 6, by decide +kernel, by decide +kernel⟩
  | 4, _, _ => ⟨(rows 4 4).take 27, (rows 4 4).drop 28, by decide +kernel, by decide +kernel⟩
  | 5, _, _ => ⟨(rows 5 5).take 194, (rows 5 5).drop 195, by decide +kernel, by decide +kernel⟩
  | n + 6, _, h => by omega
theorem fold_eq (g : Graph) (h1 : 1 ≤ g.n) (h5 : g.n ≤ 5) (hg : ∀ p ∈ g.arrows, p.1 < g.n ∧ p.2 < g.n) : Ks548.fold g = firstMin (hits g.n) (maps g g) := by
  obtain ⟨pre, post, e, hp⟩ := rows_split g.n h1 h5
  have em : maps g g = pre.filter (keeps g g) ++ List.range g.n :: post.filter (keeps g g) := by
    unfold maps
    rw [e, List.filter_append, List.filter_cons_of_pos (keeps_id g hg)]
  show (maps g g).foldl (stepMin (hits g.n)) (List.range g.n) = _
  rw [em]
  cases hq : pre.filter (keeps g g) with
  | nil =>
    show ((List.range g.n) :: post.filter (keeps g g)).foldl (stepMin (hits g.n)) (List.range g.n) = (post.filter (keeps g g)).foldl (stepMin (hits g.n)) (List.range g.n)
    rw [List.foldl_cons]
    congr 1
    unfold stepMin
    rw [if_neg (Nat.lt_irrefl _)]
  | cons x r =>
    have hx : hits g.n x < hits g.n (List.range g.n) := by
      have : x ∈ pre.filter (keeps g g) := by rw [hq]; simp
      exact hp x (List.mem_filter.mp this).1
    show ((x :: r) ++ List.range g.n :: post.filter (keeps g g)).foldl (stepMin (hits g.n)) (List.range g.n) = (r ++ List.range g.n :: post.filter (keeps g g)).foldl (stepMin (hits g.n)) x
    rw [List.cons_append, List.foldl_cons]
    congr 1
    unfold stepMin
    rw [if_pos hx]
theorem maps_ne (g : Graph) (h1 : 1 ≤ g.n) (h5 : g.n ≤ 5) (hg : ∀ p ∈ g.arrows, p.1 < g.n ∧ p.2 < g.n) : maps g g ≠ [] := by
  obtain ⟨pre, post, e, hp⟩ := rows_split g.n h1 h5
  unfold maps
  rw [e, List.filter_append, List.filter_cons_of_pos (keeps_id g hg)]
  simp
theorem firstMin_mem {key : List Nat → Nat} {l : List (List Nat)} (h : l ≠ []) : firstMin key l ∈ l := by
  cases l with
  | nil => exact absurd rfl h
  | cons x r =>
    show r.foldl (stepMin key) x ∈ x :: r
    induction r generalizing x with
    | nil => simp
    | cons y r ih =>
      rw [List.foldl_cons]
      have := ih (stepMin key x y) (by simp)
      unfold stepMin at this ⊢
      by_cases c : key y < key x
      · rw [if_pos c] at this ⊢
        exact List.mem_cons_of_mem _ this
      · rw [if_neg c] at this ⊢
        rcases List.mem_cons.mp this with h | h
        · rw [h]; simp
        · exact List.mem_cons_of_mem _ (List.mem_cons_of_mem _ h)
end Gc

namespace Gc
open PySem PySem.Spec PyProof.Rows L2
/-! ### rules of my own: a pair >= a pair, max(pair), len(set(xs)), min(xs, key=f) -/
abbrev iv (x : Nat) : V := V.int (x : Int)
abbrev pv2 (p : Nat × Nat) : List V := [iv p.1, iv p.2]
theorem vals_pair {p : Nat × Nat} {its : List Value} (r : Vals (pv2 p) its) : ∃ t1 t2, its = [Value.int p.1 t1, Value.int p.2 t2] := by
  cases r with
  | cons r1 rt =>
    cases rt with
    | cons r2 rn =>
      cases rn
      obtain ⟨t1, rfl⟩ := r1
      obtain ⟨t2, rfl⟩ := r2
      exact ⟨t1, t2, rfl⟩
def rGeP (K : PySem.W.Frag) : R2 := fun x y H Q => ∃ (a b : Addr) (p q : Nat × Nat), x = .ref a ∧ y = .ref b ∧ SqT K H a (pv2 p) ∧ SqT K H b (pv2 q) ∧ Q (.bl (!ltP p q)) H
theorem lex_pair (p q : Nat × Nat) : Ob.lexAt (fun j => if j = 0 then decide ((p.1 : Int) = q.1) else decide ((p.2 : Int) = q.2)) (fun j => if j = 0 then decide ((q.1 : Int) ≤ p.1) else decide ((q.2 : Int) ≤ p.2)) true 0 2 = !ltP p q := by
  rw [Ob.lexAt_succ, Ob.lexAt_succ, Ob.lexAt_zero]
  simp only [if_true, Nat.zero_add, Nat.one_ne_zero, if_false, decide_eq_true_eq]
  unfold ltP
  by_cases h1 : p.1 = q.1
  · have h1' : (p.1 : Int) = q.1 := by omega
    have n1 : ¬ p.1 < q.1 := by omega
    rw [if_pos h1']
    by_cases h2 : p.2 = q.2
    · have h2' : (p.2 : Int) = q.2 := by omega
      have n2 : ¬ p.2 < q.2 := by omega
      rw [if_pos h2', decide_eq_false n1, decide_eq_false n2, decide_eq_true h1]
      rfl
    · have h2' : ¬ (p.2 : Int) = q.2 := by omega
      rw [if_neg h2', decide_eq_false n1, decide_eq_true h1]
      by_cases h3 : p.2 < q.2
      · rw [decide_eq_true h3, decide_eq_false (by omega)]; rfl
      · rw [decide_eq_false h3, decide_eq_true (by omega)]; rfl
  · have h1' : ¬ (p.1 : Int) = q.1 := by omega
    rw [if_neg h1', decide_eq_false h1]
    by_cases h3 : p.1 < q.1
    · rw [decide_eq_true h3, decide_eq_false (by omega)]; rfl
    · rw [decide_eq_false h3, decide_eq_true (by omega)]; rfl
theorem op_geP {X : Cx} (hu : X.A.units < cLine) : OpR X (compareOp .GtE) (rGeP X.K) := by
  intro pins s σ H x y v u Q I rx ry ⟨a, b, p, q, ex, ey, ha, hb, k⟩
  subst ex
  subst ey
  cases rx
  cases ry
  obtain ⟨i1, r1, w1, _⟩ := I.tuple ha
  obtain ⟨i2, r2, w2, _⟩ := I.tuple hb
  obtain ⟨t1, t2, rfl⟩ := vals_pair r1
  obtain ⟨t3, t4, rfl⟩ := vals_pair r2
  have R := Ob.RcOp.tuples_ge (A := X.A) (s := s) (e := fun j => if j = 0 then decide ((p.1 : Int) = q.1) else decide ((p.2 : Int) = q.2)) (r := fun j => if j = 0 then decide ((q.1 : Int) ≤ p.1) else decide ((q.2 : Int) ≤ p.2)) w1 w2 hu
    (fun j h1 h2 => by
      have hj : j < 2 := h1
      match j, hj with
      | 0, _ =>
        have := SeqAt.EqAt.int_int (A := X.A.in1) (s := s) (p.1 : Int) t1 (q.1 : Int) t3
        rw [show ((p.1 : Int) == (q.1 : Int)) = decide ((p.1 : Int) = q.1) from rfl] at this
        exact this
      | 1, _ =>
        have := SeqAt.EqAt.int_int (A := X.A.in1) (s := s) (p.2 : Int) t2 (q.2 : Int) t4
        rw [show ((p.2 : Int) == (q.2 : Int)) = decide ((p.2 : Int) = q.2) from rfl] at this
        exact this)
    (fun j h1 h2 _ => by
      have hj : j < 2 := h1
      match j, hj with
      | 0, _ => exact Ob.RcOp.ge_int _ _ _ _
      | 1, _ => exact Ob.RcOp.ge_int _ _ _ _)
  have el : Ob.lexAt (fun j => if j = 0 then decide ((p.1 : Int) = q.1) else decide ((p.2 : Int) = q.2)) (fun j => if j = 0 then decide ((q.1 : Int) ≤ p.1) else decide ((q.2 : Int) ≤ p.2)) (decide (2 ≥ 2)) 0 (min 2 2) = !ltP p q := lex_pair p q
  have z : wpAny (model X.prog X.w) X.A (compareOp .GtE (.ref a) (.ref b)) (EP X pins σ Q) X.xe s := R X.prog X.w X.xe (EP X pins σ Q) ⟨.bl _, H, I, rfl, by
    show Q (.bl (Ob.lexAt _ _ (decide (2 ≥ 2)) 0 (min 2 2))) H
    rw [el]
    exact k⟩
  exact z

/-! ### max of a pair -/
def rMaxP (K : PySem.W.Frag) : List V → Hp → VK → Prop := fun vs H Q => ∃ (a : Addr) (p : Nat × Nat), vs = [V.ref a] ∧ SqT K H a (pv2 p) ∧ Q (iv (max p.1 p.2)) H
theorem cr_maxP {X : Cx} (hc : X.calm = true) (hu : X.A.units + 64 < cLine) : CallR X (.builtin "max") (rMaxP X.K) := by
  intro pins s σ H vs us Q I r ⟨a, p, e, hs, k⟩
  subst e
  rw [Vals.ref1 r]
  obtain ⟨its, rv, wt, _⟩ := I.tuple hs
  obtain ⟨as, ra⟩ := Dp.readsAll I [.int (p.1 : Int), .int (p.2 : Int)] (pv2 p) its (.cons (.int _) (.cons (.int _) .nil)) rv
  refine PySem.W.max_tuple_data (I.ok.hd hc) wt (show ReadsAll s.heap its.toArray.toList _ as from ra) ?_ ?_ ?_
  · refine ⟨fun x hx y hy => ?_, fun x hx => ?_⟩
    · simp only [List.mem_cons, List.not_mem_nil, or_false] at hx hy
      rcases hx with rfl | rfl <;> rcases hy with rfl | rfl <;> rfl
    · simp only [List.mem_cons, List.not_mem_nil, or_false] at hx
      rcases hx with rfl | rfl <;> (intro z; cases z)
  · have : PyData.depthAll [PyData.int (p.1 : Int), PyData.int (p.2 : Int)] ≤ 2 := by simp [PyData.depthAll, PyData.depth]
    omega
  · intro i v h' tk bs hv hr hk
    have em : PySem.W.maxD (.int (p.1 : Int)) [.int (p.2 : Int)] = .int ((max p.1 p.2 : Nat) : Int) := by
      have := PySem.W.maxD_ints (p.1 : Int) [(p.2 : Int)]
      simp only [List.map_cons, List.map_nil, List.foldl_cons, List.foldl_nil] at this
      rw [this]
      congr 1
      omega
    rw [em] at hr
    cases hr with
    | int _ t => exact ⟨iv (max p.1 p.2), H, I.kept hk, ⟨t, rfl⟩, k⟩

/-! ### len(set(xs)) -/
def cntI (ns : List Int) : Nat := (firstMet (fun i => ns.getD i 0) ns.length).length
def tLenSetN (K : PySem.W.Frag) (ta : TE) : TE := fun σ H Q => ta σ H fun x H1 => ∃ (l : Addr) (ns : List Int), x = V.ref l ∧ SqL K H1 l (ns.map V.int) ∧ ns.length ≤ 1000 ∧ Q (.int (cntI ns : Nat)) H1
theorem pe_lenSetN {X : Cx} {a : Expr} {ta : TE} {p p2 q pos : Pos} (hc : X.calm = true) (g1 : Gl X "len") (m1 : X.mg "len" = none) (g2 : Gl X "set") (m2 : X.mg "set" = none) (ha : PE X a ta)
    (na : starEach [a] X.env = (false, eval a X.env) :: starEach [] X.env := by rfl) : PE X (.Call (.Name "len" p) [.Call (.Name "set" p2) [a] [] q] [] pos) (tLenSetN X.K ta) := by
  constructor
  intro pins s σ H Q I h
  refine Call_ (ld_blt I g1 m1 boot_len ?_)
  refine callWith_builtin1 (args_cons ?_ rfl) rfl rfl
  refine Call_ (ld_blt I g2 m2 boot_set ?_)
  refine callWith_type1 (args_cons (thn (ha.run pins s σ H _ I h) fun v s1 ⟨x, H1, I1, r1, l, ns, ex, hq, hz, qq⟩ => args_nil ?_) na) na rfl
  subst ex
  cases r1
  obtain ⟨its, r, pl, _⟩ := I1.list hq
  have hlen : its.toArray.size = ns.length := by rw [List.size_toArray, ← r.length, List.length_map]
  refine call_set_list (I1.ok.hd hc) pl.isList (by simpa using r.ints) (by rw [hlen]; unfold scanBound; omega) fun h' tk hS hk => args_nil ?_
  rw [hlen] at hS
  obtain ⟨o, es, ep, t, ho, hex, hd, _, _, _, hf, hn⟩ := hS
  have hle : (firstMet (fun i => ns.getD i 0) ns.length).length ≤ ns.length := firstMet_length_le _ _
  have I2 : Inv X pins σ H1 { s1 with heap := h', toks := tk } := I1.kept fun b o e => hk b o (Heap.lt_size e) e
  exact call_len_set ho hex hd hf (by rw [hn]; omega) ⟨.int (cntI ns : Nat), H1, I2.tok _, ⟨_, by rw [hn]; rfl⟩, qq⟩

/-! ### min(xs, key=f): the first item whose key is the least -/
theorem walk_vals {prog : Program} {w : World} {A : Around} (hh : A.handled = none) (it a : Addr) (hne : a ≠ it) (xs : List V) :
    Walks prog w A it [it, a] [it] xs.length (fun i v => ∃ x, xs[i]? = some x ∧ RelV x v) (fun i h => h.IsListIter it a i ∧ ∃ its, Vals xs its ∧ h.IsList a its.toArray) where
  sub := fun b hb => by
    rw [List.mem_singleton] at hb
    simp [hb]
  frame := fun _ _ _ st hk => ⟨st.1.at fun o e => hk it (by simp) o e, by
    obtain ⟨its, r, l⟩ := st.2
    exact ⟨its, r, l.at fun o e => hk a (by simp) o e⟩⟩
  item := fun i s Q E hi st hQ => by
    obtain ⟨h1, its, r, l⟩ := st
    have hsz : its.toArray.size = xs.length := by rw [List.size_toArray]; exact r.length.symm
    have W := Walks.list (prog := prog) (w := w) (A := A) hh it a hne its.toArray
    refine W.item i s Q E (by omega) ⟨h1, l⟩ fun v h' tk hP st' hk => hQ v h' tk ?_ ⟨st'.1, its, r, st'.2⟩ hk
    obtain ⟨u, hu, ru⟩ := r.get (i := i) (x := xs[i]) (List.getElem?_eq_getElem hi)
    have hu' : its[i]? = some v := by simpa using hP
    have e : u = v := Option.some.inj (hu.symm.trans hu')
    subst e
    exact ⟨xs[i], List.getElem?_eq_getElem hi, ru⟩
  done := fun s Q E st hQ => by
    obtain ⟨h1, its, r, l⟩ := st
    have hsz : its.toArray.size = xs.length := by rw [List.size_toArray]; exact r.length.symm
    have W := Walks.list (prog := prog) (w := w) (A := A) hh it a hne its.toArray
    exact W.done s Q E ⟨by rw [hsz]; exact h1, l⟩ hQ
  self := fun i s Q E st hQ => wpAny_pyIter_listiter st.1 hQ
def rMinKey (K : PySem.W.Frag) (f : Addr) (sp : Sp) : List V → List V → Hp → VK → Prop := fun vs zs H Q => ∃ (a : Addr) (xs : List V) (kf : Nat → Int), vs = [V.ref a] ∧ zs = [V.ref f] ∧ SqL K H a xs ∧ 0 < xs.length ∧
  (∀ (i : Nat) (x : V), xs[i]? = some x → sp [x] H (fun v H' => v = .int (kf i) ∧ H' = H) E0) ∧
  ∀ x : V, xs[argBest (fun i j => decide (kf i < kf j)) (xs.length - 1)]? = some x → Q x H
theorem cr_minKey {X : Cx} {f : Addr} {fd : FuncData} {k : Nat} {ps : List Str} {sp : Sp} (hc : X.calm = true) (F : FnOk X.prog X.w X.K X.mg X.base CX0 k f fd ps sp) (hr : Room (k + 1) X.A) (hb : Binds X.K fd ps []) :
    CallRK X (.builtin "min") [Str.ofString "key"] (rMinKey X.K f sp) := by
  intro pins s σ H vs zs us ws Q I r rz ⟨a, xs, kf, ev, ez, hs, hne, hk, q⟩
  subst ev
  subst ez
  rw [Vals.ref1 r, Vals.ref1 rz]
  show wpAny _ _ (call (.builtin "min") [.ref a] [(Str.ofString "key", .ref f)]) _ _ _
  have hh : X.A.handled = none := I.ok.hd hc
  obtain ⟨its, rv, pl, _⟩ := I.list hs
  have hl := pl.isList
  have hlt : a < s.heap.objs.size := by
    obtain ⟨_, e, _⟩ := hl
    exact Heap.lt_size e
  refine call_min_walkK (wpAny_pyIter_list hl ?_)
  have hsz : (s.heap.push { cls := .type "list_iterator", data := .fields #[.ref a, .int 0 0] }).objs.size = s.heap.objs.size + 1 := Heap.size_push ..
  have f1 : FpOk X pins H s.heap.objs.size := I.fpOk (Nat.le_refl _) (I.hok.fresh (Nat.le_refl _))
  have f2 : FpOk X pins H (s.heap.push { cls := .type "list_iterator", data := .fields #[.ref a, .int 0 0] }).objs.size := by
    rw [hsz]
    exact I.fpOk (Nat.le_succ _) (I.hok.fresh (Nat.le_succ _))
  have I2 : Inv X pins σ H { s with heap := s.heap.push { cls := .type "list_iterator", data := .fields #[.ref a, .int 0 0] } } := I.kept (t' := s.toks) fun b o e => Heap.get?_push_of_some _ e
  refine ⟨s.heap.objs.size, _, _, _, xs.length, _, _, fun s' => Inv X pins σ H s', fun i kv _ => ∃ t, kv = .int (kf i) t, fun i j => decide (kf i < kf j), rfl, (walk_vals (A := X.A.in1) hh s.heap.objs.size a (Nat.ne_of_lt hlt) xs).toS,
    ⟨⟨_, Heap.get?_push_size _ rfl, rfl, rfl⟩, its, rv, hl.push _⟩, fun b hb' => ?_, hne, ⟨?_, ?_, ?_, ?_⟩, I2, fun v s' hP hJ => ?_⟩
  · show b < (s.heap.push _).objs.size
    rw [hsz]
    rcases List.mem_cons.mp hb' with rfl | hb'
    · exact Nat.lt_succ_self _
    · rw [List.mem_singleton.mp hb']
      exact Nat.lt_succ_of_lt hlt
  · intro s1 s2 J1 m
    rw [m.eq_with]
    refine J1.turnedL (ch := [(s.heap.push { cls := .type "list_iterator", data := .fields #[.ref a, .int 0 0] }).objs.size, s.heap.objs.size]) m.heap fun b hb' => ?_
    rcases List.mem_cons.mp hb' with rfl | hb'
    · exact f2
    · rw [List.mem_singleton.mp hb']
      exact f1
  · exact fun _ _ _ _ h _ => h
  · intro i v s1 o Q' E' hi hP J1 hst hS hq
    obtain ⟨x, hx, rx⟩ := hP
    have hkx := hk i x hx
    have hlen := F.len _ _ _ _ hkx
    refine wpAny_call (codeAny_mono (F.run X.A.in1 X.stack s1 H ⟨[v], []⟩ [v] [x] _ E0 hr.in1 J1.env0.in1 (by
      have := hb s1 [v] J1.kIn (by simpa using hlen)
      simpa using this) (.cons rx .nil) hkx) fun r1 s2 hq1 => ?_)
    have nst : ∀ b, FpOk X pins H b → b ∉ frs X.stack := fun b fb z => by
      rcases List.mem_cons.mp (J1.stkSub b z) with e | e
      · exact fb.2.1 e
      · exact fb.2.2.1 e
    cases r1 with
    | error e => exact False.elim hq1
    | ok fl =>
      cases fl with
      | next => exact False.elim hq1
      | brk => exact False.elim hq1
      | cont => exact False.elim hq1
      | ret u =>
        obtain ⟨v1, H1, I1, rv1, ev1, eH1⟩ := J1.after hq1
        obtain ⟨_, _, _, _, un, _⟩ := hq1
        subst ev1
        rw [eH1] at I1
        obtain ⟨t1, rfl⟩ := rv1
        obtain ⟨its1, rv2, pl1, _⟩ := I1.list hs
        refine hq _ s2 I1 ⟨?_, its1, rv2, pl1.isList⟩ (un.keep _ o hS f2.1 (nst _ f2) (by simp)) ⟨t1, rfl⟩ fun _ _ h => h
        obtain ⟨oi, hoi, e1, e2⟩ := hst.1
        exact ⟨oi, un.keep _ oi hoi f1.1 (nst _ f1) (by simp), e1, e2⟩
  · intro i j ki kj s1 Q' E' _ hki hkj hQ
    obtain ⟨t1, rfl⟩ := hki
    obtain ⟨t2, rfl⟩ := hkj
    exact PyProof.Rows.lt_int hQ
  · obtain ⟨x, hx, rx⟩ := hP
    exact ⟨x, H, hJ, rx, q x hx⟩
end Gc

namespace Gc
open PySem PySem.Spec PyProof.Rows L2
/-! ### what stands in the heap -/
theorem same_new {H : Hp} {p : Addr} {o : HO} (h : H p = none) : Same H (upd H p o) := fun b x e => by
  rw [upd_ne (ne_of_none e h)]
  exact e
/-- a list of the frame's own changes: all older things stay -/
theorem same_own {H H1 : Hp} {p : Addr} {o : HO} (s : Same H H1) (h : H p = none) : Same H (upd H1 p o) := fun b x e => by
  rw [upd_ne (ne_of_none e h)]
  exact s b x e
theorem same_tup {K : PySem.W.Frag} {H H' : Hp} {a : Addr} {xs : List V} (e : Same H H') (h : SqT K H a xs) : SqT K H' a xs := by
  rcases h with (h | ⟨o, h⟩) | h
  · exact .inl (.inl (e _ _ h))
  · exact .inl (.inr ⟨o, e _ _ h⟩)
  · exact .inr h
/-- the arrows ps stand in the list at a, as the tuples at ts -/
structure ArrAt (K : PySem.W.Frag) (H : Hp) (a : Addr) (ts : List Addr) (ps : List (Nat × Nat)) : Prop where
  lst : SqL K H a (ts.map V.ref)
  len : ts.length = ps.length
  at_ : ∀ (i : Nat) (t : Addr) (p : Nat × Nat), ts[i]? = some t → ps[i]? = some p → SqT K H t (pv2 p)
theorem ArrAt.same {K : PySem.W.Frag} {H H' : Hp} {a : Addr} {ts : List Addr} {ps : List (Nat × Nat)} (A : ArrAt K H a ts ps) (e : Same H H') : ArrAt K H' a ts ps :=
  ⟨e.seq A.lst, A.len, fun i t p h1 h2 => same_tup e (A.at_ i t p h1 h2)⟩
/-- the rows (lists of numbers) rows stand in the list at a, as the lists at rs -/
structure RowsAt (H : Hp) (a : Addr) (rs : List Addr) (rows : List (List Nat)) : Prop where
  lst : H a = some (.lst (rs.map V.ref))
  len : rs.length = rows.length
  at_ : ∀ (i : Nat) (r : Addr) (row : List Nat), rs[i]? = some r → rows[i]? = some row → H r = some (.lst (row.map iv))
theorem RowsAt.same {H H' : Hp} {a : Addr} {rs : List Addr} {rows : List (List Nat)} (A : RowsAt H a rs rows) (e : Same H H') : RowsAt H' a rs rows :=
  ⟨e _ _ A.lst, A.len, fun i t p h1 h2 => e _ _ (A.at_ i t p h1 h2)⟩
/-- two lists of one length, place by place -/
structure Ix {α : Type} (R : Addr → α → Prop) (ts : List Addr) (ps : List α) : Prop where
  len : ts.length = ps.length
  at_ : ∀ (i : Nat) (t : Addr) (p : α), ts[i]? = some t → ps[i]? = some p → R t p
theorem Ix.nil {α : Type} {R : Addr → α → Prop} : Ix R [] [] := ⟨rfl, fun i t p h _ => by simp at h⟩
theorem Ix.snoc {α : Type} {R : Addr → α → Prop} {ts : List Addr} {ps : List α} {t : Addr} {p : α} (h : Ix R ts ps) (r : R t p) : Ix R (ts ++ [t]) (ps ++ [p]) := by
  refine ⟨by rw [List.length_append, List.length_append, h.len]; rfl, fun i t' p' h1 h2 => ?_⟩
  by_cases hi : i < ts.length
  · rw [List.getElem?_append_left hi] at h1
    rw [List.getElem?_append_left (by rw [← h.len]; exact hi)] at h2
    exact h.at_ i t' p' h1 h2
  · have hi' : ts.length ≤ i := by omega
    rw [List.getElem?_append_right hi'] at h1
    rw [List.getElem?_append_right (by rw [← h.len]; exact hi'), ← h.len] at h2
    have ez : i - ts.length = 0 := by
      have := (List.getElem?_eq_some_iff.mp h1).1
      simp at this
      omega
    rw [ez] at h1 h2
    have e1 : t = t' := Option.some.inj h1
    have e2 : p = p' := Option.some.inj h2
    rw [← e1, ← e2]
    exact r
theorem Ix.imp {α : Type} {R S : Addr → α → Prop} {ts : List Addr} {ps : List α} (h : Ix R ts ps) (i : ∀ t p, R t p → S t p) : Ix S ts ps := ⟨h.len, fun k t p h1 h2 => i t p (h.at_ k t p h1 h2)⟩
theorem map_get {α β : Type} {f : α → β} {l : List α} {i : Nat} {y : β} (h : (l.map f)[i]? = some y) : ∃ x, l[i]? = some x ∧ y = f x := by
  rw [List.getElem?_map] at h
  cases e : l[i]? with
  | none => rw [e] at h; cases h
  | some x => rw [e] at h; exact ⟨x, rfl, (Option.some.inj h).symm⟩
theorem get_map {α β : Type} (f : α → β) {l : List α} {i : Nat} {x : α} (h : l[i]? = some x) : (l.map f)[i]? = some (f x) := by
  rw [List.getElem?_map, h]; rfl
theorem get_len {α β : Type} {l : List α} {k : List β} (h : l.length = k.length) {i : Nat} {x : α} (e : l[i]? = some x) : ∃ y, k[i]? = some y :=
  ⟨_, List.getElem?_eq_getElem (by rw [← h]; exact (List.getElem?_eq_some_iff.mp e).1)⟩
theorem take_snoc {α : Type} {l : List α} {i : Nat} {x : α} (h : l[i]? = some x) : l.take (i + 1) = l.take i ++ [x] := by
  rw [List.take_add_one, h]; rfl
def pd (p : Nat × Nat) : PyData := .tuple [.int (p.1 : Int), .int (p.2 : Int)]
theorem dp_all {K : PySem.W.Frag} {H : Hp} : ∀ (ts : List Addr) (ps : List (Nat × Nat)), ts.length = ps.length → (∀ (i : Nat) (t : Addr) (p : Nat × Nat), ts[i]? = some t → ps[i]? = some p → SqT K H t (pv2 p)) → DpAll K H (ts.map V.ref) (ps.map pd)
  | [], [], _, _ => .nil
  | [], _ :: _, h, _ => by simp at h
  | _ :: _, [], h, _ => by simp at h
  | t :: ts, p :: ps, h, k => .cons (.tup (k 0 t p rfl rfl) (.cons (.int _) (.cons (.int _) .nil))) (dp_all ts ps (by simpa using h) fun i t' p' h1 h2 => k (i + 1) t' p' (by simpa using h1) (by simpa using h2))
theorem ArrAt.dp {K : PySem.W.Frag} {H : Hp} {a : Addr} {ts : List Addr} {ps : List (Nat × Nat)} (A : ArrAt K H a ts ps) : Dp K H (.ref a) (.list (ps.map pd)) := .lst A.lst (dp_all ts ps A.len A.at_)
theorem pd_lay (p : Nat × Nat) : (pd p).canLay0 = true := by simp [pd, PyData.canLay0, PyData.canLayAll0]
theorem pd_depth (p : Nat × Nat) : (pd p).depth = 1 := by simp [pd, PyData.depth, PyData.depthAll]
theorem pds_lay : ∀ ps : List (Nat × Nat), PyData.canLayAll0 (ps.map pd) = true
  | [] => by simp [PyData.canLayAll0]
  | p :: ps => by simp [PyData.canLayAll0, pd_lay p, pds_lay ps]
theorem pds_depth : ∀ ps : List (Nat × Nat), PyData.depthAll (ps.map pd) ≤ 1
  | [] => by simp [PyData.depthAll]
  | p :: ps => by
    have h1 := pds_depth ps
    have h2 := pd_depth p
    simp only [List.map_cons, PyData.depthAll]
    omega
theorem pd_shaped (p : Nat × Nat) : SeqAt.shaped (pd p) = true := by
  have h := pd_depth p
  show ((pd p).canLay0 && decide ((pd p).depth ≤ 64)) = true
  rw [pd_lay, Bool.true_and]
  exact decide_eq_true (by omega)
theorem pds_shaped (ps : List (Nat × Nat)) : SeqAt.shaped (.list (ps.map pd)) = true := by
  have h1 := pds_depth ps
  have h2 : PyData.depth (.list (ps.map pd)) ≤ 64 := by simp only [PyData.depth]; omega
  have h3 : PyData.canLay0 (.list (ps.map pd)) = true := by simp only [PyData.canLay0]; exact pds_lay ps
  show (PyData.canLay0 (.list (ps.map pd)) && decide (PyData.depth (.list (ps.map pd)) ≤ 64)) = true
  rw [h3, Bool.true_and]
  exact decide_eq_true h2
theorem pd_eqv (p q : Nat × Nat) : PyData.eqv (pd p) (pd q) = (p == q) := by
  obtain ⟨a, b⟩ := p
  obtain ⟨c, d⟩ := q
  have e : PyData.eqv (pd (a, b)) (pd (c, d)) = (((a : Int) == (c : Int)) && (((b : Int) == (d : Int)) && true)) := by simp only [pd, PyData.eqv, PyData.eqvAll]
  rw [e]
  have e1 : ((a : Int) == (c : Int)) = (a == c) := by
    by_cases h : a = c
    · simp [h]
    · rw [beq_eq_false_iff_ne.mpr h, beq_eq_false_iff_ne.mpr (by omega)]
  have e2 : ((b : Int) == (d : Int)) = (b == d) := by
    by_cases h : b = d
    · simp [h]
    · rw [beq_eq_false_iff_ne.mpr h, beq_eq_false_iff_ne.mpr (by omega)]
  rw [e1, e2, Bool.and_true]
  rfl
theorem pds_any (os : List (Nat × Nat)) (q : Nat × Nat) : ((os.map pd).any fun z => PyData.eqv z (pd q)) = os.contains q := by
  rw [List.any_map]
  induction os with
  | nil => rfl
  | cons o os ih =>
    rw [List.any_cons, ih, List.contains_cons]
    simp only [Function.comp, pd_eqv]
    congr 1
    exact Bool.eq_iff_iff.mpr ⟨fun h => by rw [beq_iff_eq] at h ⊢; exact h.symm, fun h => by rw [beq_iff_eq] at h ⊢; exact h.symm⟩
/-! ### the promises -/
/-- an even count of numbers, two by two -/
def spPaired (K : PySem.W.Frag) : Sp := fun vs H Q _ => ∃ (a : Addr) (l : List Nat), vs = [.ref a] ∧ SqL K H a (l.map iv) ∧ l.length ≤ 60 ∧ l.length % 2 = 0 ∧
  ∀ (H' : Hp) (p : Addr) (ts : List Addr), Same H H' → H p = none → ArrAt K H' p ts (pairUp l) → Q (.ref p) H'
def spRising (K : PySem.W.Frag) : Sp := fun vs H Q _ => ∃ (a : Addr) (ts : List Addr) (ps : List (Nat × Nat)), vs = [.ref a] ∧ ArrAt K H a ts ps ∧ ps.length ≤ 60 ∧ Q (.bl (rises ps)) H
def spIsG (K : PySem.W.Frag) : Sp := fun vs H Q _ => ∃ (a : Addr) (n : Nat) (l : List Nat), vs = [iv n, .ref a] ∧ SqL K H a (l.map iv) ∧ l.length ≤ 60 ∧ ∀ H' : Hp, Same H H' → Q (.bl (isG n l)) H'
def spCarr (K : PySem.W.Frag) : Sp := fun vs H Q _ => ∃ (g a b : Addr) (ta tb : List Addr) (f : List Nat) (as os : List (Nat × Nat)), vs = [.ref g, .ref a, .ref b] ∧ SqL K H g (f.map iv) ∧ ArrAt K H a ta as ∧ ArrAt K H b tb os ∧
  (∀ p ∈ as, p.1 < f.length ∧ p.2 < f.length) ∧ ∀ H' : Hp, Same H H' → Q (.bl (carr os f as)) H'
def spMaps (K : PySem.W.Frag) : Sp := fun vs H Q _ => ∃ (a b : Addr) (n m : Nat) (ta tb : List Addr) (as os : List (Nat × Nat)), vs = [iv n, .ref a, iv m, .ref b] ∧ n ≤ 5 ∧ m ≤ 5 ∧ ArrAt K H a ta as ∧ ArrAt K H b tb os ∧ as.length ≤ 60 ∧
  ∀ (H' : Hp) (p : Addr) (rs : List Addr), Same H H' → RowsAt H' p rs (lev m as os n) → Q (.ref p) H'
def cnt (f : List Nat) : Nat := cntI (f.map fun (x : Nat) => (x : Int))
def spCount (K : PySem.W.Frag) : Sp := fun vs H Q _ => ∃ (a : Addr) (f : List Nat), vs = [.ref a] ∧ SqL K H a (f.map iv) ∧ f.length ≤ 1000 ∧ Q (iv (cnt f)) H
def spFirst (K : PySem.W.Frag) : Sp := fun vs H Q _ => ∃ (a : Addr) (n : Nat) (ta : List Addr) (as : List (Nat × Nat)), vs = [iv n, .ref a] ∧ 1 ≤ n ∧ n ≤ 5 ∧ ArrAt K H a ta as ∧ as.length ≤ 60 ∧ (∀ p ∈ as, p.1 < n ∧ p.2 < n) ∧
  ∀ (H' : Hp) (p : Addr), Same H H' → H' p = some (.lst ((firstMin cnt (lev n as as n)).map iv)) → Q (.ref p) H'
theorem rg2 : ∀ m : Fin 61, m.val % 2 = 0 → Builtin.Range.small 0 (m.val : Int) 2 = true ∧ Builtin.Range.rangeSize 0 (m.val : Int) 2 = ((m.val / 2 : Nat) : Int) := by decide +kernel
theorem rg_two {m : Nat} (h : m ≤ 60) (he : m % 2 = 0) : RgC 0 (m : Int) 2 (m / 2) := by
  obtain ⟨h1, h2⟩ := rg2 ⟨m, by omega⟩ he
  exact ⟨by decide, by decide, h1, h2⟩
theorem yes_then {σ : L2.St} {H : Hp} {R S : Hp → Prop} (h : R H) : tYes σ H fun b H3 => if b = true then R H3 else S H3 := by
  show (if true = true then R H else S H)
  rw [if_pos rfl]
  exact h
theorem small60 {n : Nat} (h : n ≤ 100000) : n < sizeLine := Nat.lt_of_le_of_lt h (by decide)
end Gc

namespace Gc
open PySem PySem.Spec PyProof.Rows L2
/-- the statements of the program's top -/
def topS (i : Nat) : Stmt := PySem.Challenge.pw_graphcore_s02_fold.main.body.getD i (.Pass ⟨0, 0, 0, 0⟩)
abbrev sFold : Stmt := topS 3
abbrev sIsG : Stmt := topS 4
abbrev sRising : Stmt := topS 5
abbrev sPaired : Stmt := topS 6
abbrev sMaps : Stmt := topS 7
abbrev sCarr : Stmt := topS 8
abbrev sCount : Stmt := topS 9
abbrev sFirst : Stmt := topS 10
end Gc
namespace Gc
open PySem PySem.Spec PyProof.Rows L2
section
variable {P : Program} {w : World} {K : PySem.W.Frag} {mg : Str → Option Value} {base : Heap}
/-! ### paired -/
theorem scP : FnScope ["numbers", "k"] ["numbers"] (defScope sPaired) := ⟨rfl, rfl, rfl, by decide +kernel, rfl, by decide +kernel, by decide +kernel⟩
theorem ok_paired {f : Addr} {fd : FuncData} {k : Nat} (F : Fun K "paired" "paired" sPaired f fd) (mr : mg "range" = none) (ml : mg "len" = none) : FnOk P w K mg base CX0 (k + 1) f fd ["numbers"] (spPaired K) := by
  refine F.ok scP (fun vs H Q E h => ?_) (fun cdv A outer s H vs Q E hr h => ?_)
  · obtain ⟨a, l, rfl, _⟩ := h
    rfl
  · obtain ⟨a, l, rfl, hS, hlen, hev, q⟩ := h
    refine ⟨_, pss_one (ps_ret (pe_lc (own := [("k", 1)]) (g := gName 1) (tt := tYes) (te := tTup (tCons (tOp (rIxL K) (tVar 0) (tVar 1)) (tCons (tOp (rIxL K) (tVar 0) (tOp (rI0 fun i j => .int (i + j)) (tVar 1) (tC (.int 1)))) tNil))) rfl scP.nd
      (pi_range3 (by rfl) mr (pa_cons pe_int (pa_cons (pe_callB call_len_seq (by rfl) ml PySem.boot_len (pa_cons (pv 0) pa_nil)) (pa_cons pe_int pa_nil))))
      (blkOk_by (N := ["numbers", "k"]) (sc := defScope sPaired) (by decide +kernel)) (fun _ _ _ _ _ => pg_name (i := 1) scP.nd rfl (Or.inl rfl)) (fun _ _ _ _ _ => pts_nil)
      (fun _ _ _ _ _ => pe_tup (pa_cons (pe_ix ix_list (pv 0) (pv 1) (fun _ _ => rfl)) (pa_cons (pe_ix ix_list (pv 0) (pe_op op_add (pv 1) pe_int) (fun _ _ => rfl)) pa_nil))))), ?_⟩
    refine ⟨_, rfl, a, _, rfl, .inl hS, 0, (l.length : Int), 2, l.length / 2, by rw [List.length_map], rg_two hlen hev, fun D nD => ?_⟩
    have hpl := pairUp_len l hev
    refine lc_it walk_rangeC (fun i H' => Same H H' ∧ ∃ ts : List Addr, H' D = some (.lst (ts.map V.ref)) ∧ ts.length = i ∧ ∀ (j : Nat) (t : Addr) (p : Nat × Nat), ts[j]? = some t → (pairUp l)[j]? = some p → H' t = some (.tup (pv2 p)))
      ⟨same_new nD, [], upd_same, rfl, fun j t p h _ => by simp at h⟩ (fun _ _ _ _ => trivial) ?_ ?_
    · rintro i x H1 H2 hi ⟨sm, ts, hD, hts, hat⟩ ⟨rfl, rfl⟩
      have h1 : 2 * i < l.length := by omega
      have h2 : 2 * i + 1 < l.length := by omega
      have g1 : l[2 * i]? = some l[2 * i] := List.getElem?_eq_getElem h1
      have g2 : l[2 * i + 1]? = some l[2 * i + 1] := List.getElem?_eq_getElem h2
      have gp := pairUp_get l i _ _ g1 g2
      have hS1 : SqL K H2 a (l.map iv) := sm.seq hS
      refine ⟨rfl, yes_then ?_⟩
      refine ⟨_, rfl, _, rfl, a, _, _, _, rfl, rfl, hS1, at_of (j := 2 * i) (by omega) (get_map iv g1), ?_⟩
      refine ⟨_, rfl, _, rfl, _, _, rfl, rfl, a, _, _, _, rfl, rfl, hS1, at_of (j := 2 * i + 1) (by omega) (get_map iv g2), ?_⟩
      refine ⟨by show 2 ≤ sizeLine; decide, fun p np => ?_⟩
      have nDp : D ≠ p := ne_of_none hD np
      refine ⟨ts.map V.ref, by rw [upd_ne nDp]; exact hD, by rw [List.length_map]; exact small60 (by omega), ?_⟩
      have sm2 : Same H2 (upd H2 p (.tup (pv2 (l[2 * i], l[2 * i + 1])))) := same_new np
      refine ⟨same_own (sm.trans sm2) nD, ts ++ [p], by rw [upd_same, List.map_append]; rfl, by rw [List.length_append, hts]; rfl, fun j t q hj hq => ?_⟩
      have aux : ∀ t q, H2 t = some (.tup (pv2 q)) → upd (upd H2 p (.tup (pv2 (l[2 * i], l[2 * i + 1])))) D (.lst (ts.map V.ref ++ [.ref p])) t = some (.tup (pv2 q)) := fun t q e => by
        rw [upd_ne (ne_of e hD (by intro z; cases z)), upd_ne (ne_of_none e np)]
        exact e
      by_cases hj' : j < ts.length
      · rw [List.getElem?_append_left hj'] at hj
        exact aux t q (hat j t q hj hq)
      · rw [List.getElem?_append_right (by omega)] at hj
        obtain ⟨hz, ez⟩ := List.getElem?_eq_some_iff.mp hj
        have ej : j = i := by simp at hz; omega
        subst ej
        rw [gp] at hq
        cases hq
        have et : t = p := by
          have : ([p] : List Addr)[j - ts.length]? = some t := hj
          rw [hts, Nat.sub_self] at this
          exact (Option.some.inj this).symm
        subst et
        rw [upd_ne (Ne.symm nDp), upd_same]
    · rintro H1 ⟨sm, ts, hD, hts, hat⟩
      exact q H1 D ts sm nD ⟨SqL.of hD, by omega, fun i t p h1 h2 => SqT.of (hat i t p h1 h2)⟩
end
end Gc

namespace Gc
open PySem PySem.Spec PyProof.Rows L2
theorem room65 {A : Around} {k : Nat} (hr : Room k A) : A.units + 65 < cLine := by have := hr.un; omega
theorem room64 {A : Around} {k : Nat} (hr : Room k A) : A.units + 64 < cLine := by have := hr.un; omega
theorem getD_get {f : List Nat} {j : Nat} (h : j < f.length) : f[j]? = some (f.getD j 0) := by
  rw [List.getD_eq_getElem?_getD, List.getElem?_eq_getElem h]; rfl
section
variable {P : Program} {w : World} {K : PySem.W.Frag} {mg : Str → Option Value} {base : Heap}
/-! ### is_rising -/
theorem scR : FnScope ["row", "k"] ["row"] (defScope sRising) := ⟨rfl, rfl, rfl, by decide +kernel, rfl, by decide +kernel, by decide +kernel⟩
theorem ok_rising {f : Addr} {fd : FuncData} {k : Nat} (F : Fun K "is_rising" "is_rising" sRising f fd) (mr : mg "range" = none) (ml : mg "len" = none) : FnOk P w K mg base CX0 (k + 1) f fd ["row"] (spRising K) := by
  refine F.ok scR (fun vs H Q E h => ?_) (fun cdv A outer s H vs Q E hr h => ?_)
  · obtain ⟨a, ts, ps, rfl, _⟩ := h
    rfl
  · obtain ⟨a, ts, ps, rfl, hA, hlen, q⟩ := h
    refine ⟨_, pss_cons (ps_for PassesOwn.never rfl (pi_range2 (by rfl) mr (pa_cons pe_int (pa_cons (pe_callB call_len_seq (by rfl) ml PySem.boot_len (pa_cons (pv 0) pa_nil)) pa_nil))) (pg_name (i := 1) scR.nd rfl (.inl rfl))
        (pss_one (ps_if (pt_cmpR (op_geP hr.units0) (pe_ix ix_list (pv 0) (pe_op op_sub (pv 1) pe_int) (fun _ _ => rfl)) (pe_ix ix_list (pv 0) (pv 1) (fun _ _ => rfl)) (nomark _)) (pss_one (ps_ret pe_bl)) pss_nil)))
      (pss_one (ps_ret pe_bl)), ?_⟩
    have el : (ts.map V.ref).length = ps.length := by rw [List.length_map, hA.len]
    refine ⟨_, rfl, a, _, rfl, .inl hA.lst, 1, (ps.length : Int), by rw [el], ⟨by decide, by decide, by omega, by omega⟩, ?_⟩
    refine for_range (lo := 1) (n := ((ps.length : Int) - 1).toNat) (fun i σ H' => (∃ v, σ = [some (.ref a), v]) ∧ H' = H ∧ ∀ (j : Nat) (p r : Nat × Nat), j < i → ps[j]? = some p → ps[j + 1]? = some r → ltP p r = true)
      ⟨⟨none, rfl⟩, rfl, fun j p r h => absurd h (Nat.not_lt_zero j)⟩ ?_ ?_
    · rintro i σ H' hi ⟨⟨v, rfl⟩, rfl, hall⟩
      have h1 : i < ps.length := by omega
      have h2 : i + 1 < ps.length := by omega
      have g1 : ps[i]? = some ps[i] := List.getElem?_eq_getElem h1
      have g2 : ps[i + 1]? = some ps[i + 1] := List.getElem?_eq_getElem h2
      obtain ⟨t1, e1⟩ := get_len hA.len.symm g1
      obtain ⟨t2, e2⟩ := get_len hA.len.symm g2
      refine ⟨_, rfl, _, rfl, _, _, rfl, rfl, a, _, _, _, rfl, rfl, hA.lst, at_of (j := i) (by omega) (get_map V.ref e1), ?_⟩
      refine ⟨_, rfl, _, rfl, a, _, _, _, rfl, rfl, hA.lst, at_of (j := i + 1) (by omega) (get_map V.ref e2), ?_⟩
      refine ⟨t1, t2, _, _, rfl, rfl, hA.at_ i t1 _ e1 g1, hA.at_ (i + 1) t2 _ e2 g2, _, rfl, ite2 (fun e => ?_) (fun e => ?_)⟩
      · have hf : rises ps = false := by
          cases hb : rises ps with
          | false => rfl
          | true =>
            have := (rises_iff ps).mp hb i _ _ g1 g2
            rw [this] at e
            cases e
        rw [hf] at q
        exact q
      · refine ⟨⟨_, rfl⟩, rfl, fun j p r hj hp hr' => ?_⟩
        by_cases hji : j < i
        · exact hall j p r hji hp hr'
        · have ej : j = i := by omega
          subst ej
          rw [g1] at hp
          rw [g2] at hr'
          cases hp
          cases hr'
          cases hl : ltP ps[j] ps[j + 1] with
          | true => rfl
          | false => rw [hl] at e; exact absurd rfl e
    · rintro σ H' ⟨⟨v, rfl⟩, rfl, hall⟩
      have hf : rises ps = true := (rises_iff ps).mpr fun i p r hp hr' => by
        have h2 : i + 1 < ps.length := (List.getElem?_eq_some_iff.mp hr').1
        exact hall i p r (by omega) hp hr'
      rw [hf] at q
      exact q
/-! ### is_graph -/
theorem scG : FnScope ["n", "numbers", "number"] ["n", "numbers"] (defScope sIsG) := ⟨rfl, rfl, rfl, by decide +kernel, rfl, by decide +kernel, by decide +kernel⟩
theorem ok_isG {f fR fP : Addr} {fd fdR fdP : FuncData} {tk : Tok} (F : Fun K "is_graph" "is_graph" sIsG f fd) (FR : Fun K "is_rising" "is_rising" sRising fR fdR) (FP : Fun K "paired" "paired" sPaired fP fdP)
    (bR : Binds K fdR ["row"] []) (bP : Binds K fdP ["numbers"] []) (gR : mg "is_rising" = some (.ref fR)) (gP : mg "paired" = some (.ref fP)) (gM : mg "MOST_PLACES" = some (.int 5 tk))
    (mr : mg "range" = none) (ml : mg "len" = none) (ma : mg "all" = none) : FnOk P w K mg base CX0 2 f fd ["n", "numbers"] (spIsG K) := by
  have GR : FnOk P w K mg base CX0 1 fR fdR ["row"] (spRising K) := ok_rising FR mr ml
  have GP : FnOk P w K mg base CX0 1 fP fdP ["numbers"] (spPaired K) := ok_paired FP mr ml
  refine F.ok scG (fun vs H Q E h => ?_) (fun cdv A outer s H vs Q E hr h => ?_)
  · obtain ⟨a, n, l, rfl, _⟩ := h
    rfl
  · obtain ⟨a, n, l, rfl, hS, hlen, q⟩ := h
    refine ⟨_, pss_cons (ps_if (PW.pt (pw_or (pt_cmpR op_lt (pv 0) pe_int (nomark _)) (pw_or1 (pt_cmpR op_gt (pv 0) (pe_glob (v := .int 5) rfl gM ⟨_, rfl⟩) (nomark _))))) (pss_one (ps_ret pe_bl)) pss_nil)
      (pss_cons (ps_if (pt_cmpR op_eq (pe_op op_mod (pe_callB call_len_seq (by rfl) ml PySem.boot_len (pa_cons (pv 1) pa_nil)) pe_int) pe_int (nomark _)) (pss_one (ps_ret pe_bl)) pss_nil)
      (pss_cons (ps_if (pt_not (pt_val (pe_callB (cr_all rfl) (by rfl) ma (by decide +kernel) (pa_cons
          (pe_lc (own := [("number", 2)]) (g := gName 2) (tt := tYes) rfl scG.nd (pi_list (pv 1)) (blkOk_by (N := ["n", "numbers", "number"]) (sc := defScope sIsG) (by decide +kernel))
            (fun _ _ _ _ _ => pg_name (i := 2) scG.nd rfl (Or.inl rfl)) (fun _ _ _ _ _ => pts_nil) (fun _ _ _ _ _ => pe_chain op_le op_lt pe_int (pv 2) (pv 0))) pa_nil)))) (pss_one (ps_ret pe_bl)) pss_nil)
      (pss_one (ps_ret (pe_call GR hr (by rfl) gR FR.kp bR .nil pass0 (pa_cons (pe_call GP hr (by rfl) gP FP.kp bP .nil pass0 (pa_cons (pv 1) pa_nil)) pa_nil)))))), ?_⟩
    have no : ∀ H', Same H H' → isG n l = false → Q (.bl false) H' := fun H' sm e => by
      have := q H' sm
      rw [e] at this
      exact this
    have few : ∀ H', Same H H' → ¬ (1 ≤ n ∧ n ≤ 5) → Q (.bl false) H' := fun H' sm e => no H' sm (by unfold isG; rw [decide_eq_false e, Bool.false_and])
    refine ⟨_, rfl, _, _, rfl, rfl, _, rfl, ite2 (fun e => ?_) (fun e => ?_)⟩
    · have e' := of_decide_eq_true e
      exact iteT (few H (Same.refl H) (by omega))
    have e1 : 1 ≤ n := by
      have e' := mt decide_eq_true e
      omega
    refine ⟨_, rfl, _, _, rfl, rfl, _, rfl, ite2 (fun e => ?_) (fun e => ?_)⟩
    · have e' := of_decide_eq_true e
      exact few H (Same.refl H) (by omega)
    have e5 : n ≤ 5 := by
      have e' := mt decide_eq_true e
      omega
    refine ⟨_, rfl, a, _, rfl, .inl hS, _, _, rfl, rfl, (by show (0 : Int) < 2; decide), rfl, _, rfl, ite2 (fun e => ?_) (fun e => ?_)⟩
    · have e' : (((l.map iv).length : Int) % 2) = 1 := V.int.inj (of_decide_eq_true e)
      rw [List.length_map] at e'
      refine no H (Same.refl H) ?_
      have ne : ¬ l.length % 2 = 0 := by omega
      unfold isG
      rw [decide_eq_false ne, Bool.false_and, Bool.and_false]
    have ev : l.length % 2 = 0 := by
      have e' : ¬ (((l.map iv).length : Int) % 2) = 1 := fun z => e (decide_eq_true (congrArg V.int z))
      rw [List.length_map] at e'
      omega
    refine ⟨_, rfl, a, rfl, ⟨_, hS⟩, fun D nD => ?_⟩
    refine lc_list (K := K) (a := a) (xs := l.map iv) (fun i H' => Same H H' ∧ H' D = some (.lst (((l.take i).map fun x => decide (x < n)).map V.bl))) ⟨same_new nD, upd_same⟩ (fun i H' _ ⟨sm, _⟩ => sm.seq hS) ?_ ?_
    · rintro i x H' hx ⟨sm, hD⟩
      obtain ⟨y, hy, rfl⟩ := map_get hx
      refine ⟨rfl, yes_then ?_⟩
      refine ⟨_, rfl, _, _, rfl, rfl, _, rfl, ?_⟩
      rw [if_pos (decide_eq_true (show (0 : Int) ≤ (y : Int) by omega))]
      refine ⟨_, rfl, _, _, rfl, rfl, _, hD, ?_, same_own sm nD, ?_⟩
      · rw [List.length_map, List.length_map, List.length_take]
        exact small60 (by omega)
      · rw [upd_same, take_snoc hy, List.map_append, List.map_append]
        congr 3
        show [V.bl (decide ((y : Int) < (n : Int)))] = [V.bl (decide (y < n))]
        congr 2
        exact decide_eq_decide.mpr (by omega)
    · rintro H' ⟨sm, hD⟩
      rw [List.length_map, List.take_length] at hD
      refine ⟨D, _, rfl, SqL.of hD, _, rfl, ?_⟩
      have eb : ((l.map fun x => decide (x < n)).all id) = below n l := by
        rw [List.all_map]
        rfl
      rw [eb]
      cases hb : below n l with
      | false =>
        refine iteT (no H' sm ?_)
        unfold isG
        rw [hb, Bool.false_and, Bool.and_false, Bool.and_false]
      | true =>
        refine iteF ?_
        refine ⟨_, rfl, a, l, rfl, sm.seq hS, hlen, ev, fun H2 p ts sm2 np hA => ?_⟩
        refine ⟨p, ts, _, rfl, hA, ?_, ?_⟩
        · have := pairUp_len l ev
          omega
        · have := q H2 (sm.trans sm2)
          unfold isG at this
          rw [hb, decide_eq_true (show 1 ≤ n ∧ n ≤ 5 from ⟨e1, e5⟩), decide_eq_true ev, Bool.true_and, Bool.true_and, Bool.true_and] at this
          exact this
end
end Gc

namespace Gc
open PySem PySem.Spec PyProof.Rows L2
section
variable {P : Program} {w : World} {K : PySem.W.Frag} {mg : Str → Option Value} {base : Heap}
/-! ### carries -/
theorem scK : FnScope ["gets", "arrows", "others", "start", "end"] ["gets", "arrows", "others"] (defScope sCarr) := ⟨rfl, rfl, rfl, by decide +kernel, rfl, by decide +kernel, by decide +kernel⟩
theorem ok_carr {f : Addr} {fd : FuncData} {k : Nat} (F : Fun K "carries" "carries" sCarr f fd) : FnOk P w K mg base CX0 (k + 1) f fd ["gets", "arrows", "others"] (spCarr K) := by
  refine F.ok scK (fun vs H Q E h => ?_) (fun cdv A outer s H vs Q E hr h => ?_)
  · obtain ⟨g, a, b, ta, tb, l, as, os, rfl, _⟩ := h
    rfl
  · obtain ⟨g, a, b, ta, tb, l, as, os, rfl, hG, hA, hB, hin, q⟩ := h
    refine ⟨_, pss_cons (ps_for PassesOwn.never rfl (pi_list (pv 1)) (pg_tup rfl (pgs_cons (pg_name (i := 3) scK.nd rfl (.inl rfl)) (pgs_cons (pg_name (i := 4) scK.nd rfl (.inl rfl)) pgs_nil)))
        (pss_one (ps_if (pt_cmpR (op_notInD (room65 hr)) (pe_tup (pa_cons (pe_ix ix_list (pv 0) (pv 3) (fun _ _ => rfl)) (pa_cons (pe_ix ix_list (pv 0) (pv 4) (fun _ _ => rfl)) pa_nil))) (pv 2) (by rfl)) (pss_one (ps_ret pe_bl)) pss_nil)))
      (pss_one (ps_ret pe_bl)), ?_⟩
    refine ⟨_, rfl, a, rfl, ⟨_, hA.lst⟩, ?_⟩
    refine for_list (K := K) (a := a) (xs := ta.map V.ref) (fun i σ H' => (∃ v w, σ = [some (.ref g), some (.ref a), some (.ref b), v, w]) ∧ Same H H' ∧ carr os l (as.take i) = true)
      ⟨⟨none, none, rfl⟩, Same.refl H, rfl⟩ (fun i σ H' _ ⟨_, sm, _⟩ => sm.seq hA.lst) ?_ ?_
    · rintro i x σ H' hx ⟨⟨v, w, rfl⟩, sm, hall⟩
      obtain ⟨t, ht, rfl⟩ := map_get hx
      obtain ⟨p, hp⟩ := get_len hA.len ht
      obtain ⟨i1, i2⟩ := hin p (List.mem_of_getElem? hp)
      have hT := same_tup sm (hA.at_ i t p ht hp)
      refine ⟨t, pv2 p, rfl, hT, rfl, iv p.1, [iv p.2], rfl, iv p.2, [], rfl, rfl, ?_⟩
      refine ⟨_, rfl, _, rfl, g, _, _, _, rfl, rfl, sm.seq hG, at_of (j := p.1) rfl (get_map iv (getD_get i1)), ?_⟩
      refine ⟨_, rfl, _, rfl, g, _, _, _, rfl, rfl, sm.seq hG, at_of (j := p.2) rfl (get_map iv (getD_get i2)), ?_⟩
      refine ⟨by show 2 ≤ sizeLine; decide, fun u nu => ?_⟩
      have sm2 : Same H (upd H' u (.tup (pv2 (l.getD p.1 0, l.getD p.2 0)))) := sm.trans (same_new nu)
      refine ⟨_, rfl, pd (l.getD p.1 0, l.getD p.2 0), os.map pd, .tup (SqT.of upd_same) (.cons (.int _) (.cons (.int _) .nil)), (hB.same sm2).dp, pd_shaped _, pds_shaped _, _, rfl, ite2 (fun e => ?_) (fun e => ?_)⟩
      · rw [pds_any] at e
        have hf : carr os l as = false := by
          cases hb : carr os l as with
          | false => rfl
          | true =>
            have := List.all_eq_true.mp hb p (List.mem_of_getElem? hp)
            rw [this] at e
            cases e
        have := q _ sm2
        rw [hf] at this
        exact this
      · rw [pds_any] at e
        refine ⟨⟨_, _, rfl⟩, sm2, ?_⟩
        rw [take_snoc hp]
        unfold carr at hall ⊢
        rw [List.all_append, hall, Bool.true_and]
        cases hl : os.contains (l.getD p.1 0, l.getD p.2 0) with
        | true => simp only [List.all_cons, List.all_nil, hl, Bool.and_self]
        | false => rw [hl] at e; exact absurd rfl e
    · rintro σ H' ⟨⟨v, w, rfl⟩, sm, hall⟩
      rw [List.length_map, hA.len, List.take_length] at hall
      have := q H' sm
      rw [hall] at this
      exact this
end
end Gc

namespace Gc
open PySem PySem.Spec PyProof.Rows L2
section
variable {P : Program} {w : World} {K : PySem.W.Frag} {mg : Str → Option Value} {base : Heap}
abbrev nMaps : List Str := ["n", "arrows", "m", "others", "found", "place", "due", "longer", "begun", "given", "gets", "arrow"]
theorem scM : FnScope nMaps ["n", "arrows", "m", "others"] (defScope sMaps) := ⟨rfl, rfl, rfl, by decide +kernel, rfl, by decide +kernel, by decide +kernel⟩
theorem ok_maps {f fC : Addr} {fd fdC : FuncData} (F : Fun K "all_maps" "all_maps" sMaps f fd) (FC : Fun K "carries" "carries" sCarr fC fdC) (bC : Binds K fdC ["gets", "arrows", "others"] []) (gC : mg "carries" = some (.ref fC))
    (mr : mg "range" = none) (mx : mg "max" = none) : FnOk P w K mg base CX0 2 f fd ["n", "arrows", "m", "others"] (spMaps K) := by
  have GC : FnOk P w K mg base CX0 1 fC fdC ["gets", "arrows", "others"] (spCarr K) := ok_carr FC
  refine F.ok scM (fun vs H Q E h => ?_) (fun cdv A outer s H vs Q E hr h => ?_)
  · obtain ⟨a, b, n, m, ta, tb, as, os, rfl, _⟩ := h
    rfl
  · obtain ⟨a, b, n, m, ta, tb, as, os, rfl, hn, hm, hA, hB, hlen, q⟩ := h
    refine ⟨_, pss_cons (ps_set (i := 4) scM.nd rfl (.inl rfl) (pe_lst (pa_cons (pe_lst pa_nil) pa_nil)))
      (pss_cons (ps_for PassesOwn.never rfl (pi_range1 (by rfl) mr (pa_cons (pv 0) pa_nil)) (pg_name (i := 5) scM.nd rfl (.inr rfl))
        (pss_cons (ps_setLc (i := 6) (own := [("arrow", 11)]) (g := gName 11) (tt := tTest (tOp rEq (tCB (rMaxP K) (tCons (tVar 11) tNil)) (tVar 5))) (te := tVar 11) rfl scM.nd rfl rfl (sw_true rfl rfl rfl (by decide +kernel)) (pi_list (pv 1))
            (blkOk_by (N := nMaps) (sc := defScope sMaps) (by decide +kernel)) (fun _ _ _ _ _ => pg_name (i := 11) scM.nd rfl (Or.inl rfl))
            (fun _ _ _ _ _ => pts_one (pt_cmpR op_eq (pe_callB (cr_maxP rfl (room64 hr)) (by rfl) mx (by decide +kernel) (pa_cons (pv 11) pa_nil)) (pv 5) (nomark _))) (fun _ _ _ _ _ => pv 11))
        (pss_cons (ps_set (i := 7) scM.nd rfl (.inl rfl) (pe_lst pa_nil))
        (pss_cons (ps_for PassesOwn.never rfl (pi_list (pv 4)) (pg_name (i := 8) scM.nd rfl (.inl rfl))
          (pss_one (ps_for PassesOwn.never rfl (pi_range1 (by rfl) mr (pa_cons (pv 2) pa_nil)) (pg_name (i := 9) scM.nd rfl (.inl rfl))
            (pss_cons (ps_set (i := 10) scM.nd rfl (.inl rfl) (pe_op op_cat (pv 8) (pe_lst (pa_cons (pv 9) pa_nil))))
            (pss_one (ps_if (pt_val (pe_call GC hr (by rfl) gC FC.kp bC .nil pass0 (pa_cons (pv 10) (pa_cons (pv 6) (pa_cons (pv 3) pa_nil)))))
              (pss_one (ps_expr (pe_bm PySem.F.plainAttrs_list PySem.F.slot_list_append PySem.F.type_list_append mt_append (pv 7) (pa_cons (pv 10) pa_nil)))) pss_nil))))))
        (pss_one (ps_set (i := 4) scM.nd rfl (.inl rfl) (pv 7)))))))
      (pss_one (ps_ret (pv 4)))), ?_⟩
    -- found = [[]]
    refine ⟨Nat.zero_le _, fun e ne => ⟨(by show 1 ≤ sizeLine; decide), fun p np => ?_⟩⟩
    have s1 : Same H (upd (upd H e (.lst [])) p (.lst [.ref e])) := (same_new ne).trans (same_new np)
    have nep : e ≠ p := fun z => by rw [← z, upd_same] at np; cases np
    -- for place in range(n)
    refine ⟨_, rfl, (n : Int), rfl, by omega, by omega, ?_⟩
    refine for_range (lo := 0) (n := ((n : Int)).toNat) (fun i σ H' => ∃ (fnd : Addr) (rs : List Addr) (v5 v6 v7 v8 v9 v10 v11 : Option V), σ = [some (iv n), some (.ref a), some (iv m), some (.ref b), some (.ref fnd), v5, v6, v7, v8, v9, v10, v11] ∧ Same H H' ∧ RowsAt H' fnd rs (lev m as os i))
      ⟨p, [e], none, none, none, none, none, none, none, rfl, s1, upd_same, rfl, fun i r row h1 h2 => ?_⟩ ?_ ?_
    · match i, h1, h2 with
      | 0, h1, h2 =>
        have e1 : e = r := Option.some.inj h1
        have e2 : [] = row := Option.some.inj h2
        rw [← e1, ← e2, upd_ne nep, upd_same]
        rfl
      | i + 1, h1, _ => simp at h1
    · rintro i σ H1 hi ⟨fnd, rs, v5, v6, v7, v8, v9, v10, v11, rfl, sm, R⟩
      have hi5 : i < 5 := by omega
      -- due = [..]
      refine ⟨_, rfl, a, rfl, ⟨_, sm.seq hA.lst⟩, fun D nD => ?_⟩
      refine lc_list (K := K) (a := a) (xs := ta.map V.ref) (fun j H2 => Same H1 H2 ∧ ∃ ds : List Addr, H2 D = some (.lst (ds.map V.ref)) ∧ Ix (fun t p => SqT K H1 t (pv2 p)) ds (due (as.take j) i))
        ⟨same_new nD, [], upd_same, Ix.nil⟩ (fun j H2 _ ⟨sm2, _⟩ => sm2.seq (sm.seq hA.lst)) ?_ ?_
      · rintro j x H2 hx ⟨sm2, ds, hD, hI⟩
        obtain ⟨t, ht, rfl⟩ := map_get hx
        obtain ⟨pp, hp⟩ := get_len hA.len ht
        have hT : SqT K H1 t (pv2 pp) := same_tup sm (hA.at_ j t pp ht hp)
        refine ⟨rfl, _, rfl, t, pp, rfl, same_tup sm2 hT, _, rfl, rfl, _, rfl, ite2 (fun ec => ?_) (fun ec => ?_)⟩
        · have ec' : ((max pp.1 pp.2 : Nat) : Int) = 0 + (i : Int) := V.int.inj (of_decide_eq_true ec)
          have em : (max pp.1 pp.2 == i) = true := by rw [beq_iff_eq]; omega
          have ed : due (as.take (j + 1)) i = due (as.take j) i ++ [pp] := by rw [take_snoc hp, due_snoc, em, if_pos rfl]
          have hl2 := hI.len
          have hl3 : (due (as.take j) i).length ≤ as.length := by
            unfold due
            exact Nat.le_trans (List.length_filter_le _ _) (by rw [List.length_take]; omega)
          refine ⟨_, rfl, _, hD, by rw [List.length_map]; exact small60 (by omega), same_own sm2 nD, ds ++ [t], by rw [upd_same, List.map_append]; rfl, ?_⟩
          rw [ed]
          exact hI.snoc hT
        · have ec' : ¬ ((max pp.1 pp.2 : Nat) : Int) = 0 + (i : Int) := fun z => ec (decide_eq_true (congrArg V.int z))
          have em : (max pp.1 pp.2 == i) = false := by rw [beq_eq_false_iff_ne]; omega
          have ed : due (as.take (j + 1)) i = due (as.take j) i := by rw [take_snoc hp, due_snoc, em, if_neg Bool.false_ne_true]
          refine ⟨sm2, ds, hD, ?_⟩
          rw [ed]
          exact hI
      · rintro H2 ⟨sm2, ds, hD, hI⟩
        rw [List.length_map, hA.len, List.take_length] at hI
        have smH2 := sm.trans sm2
        have hDue : ArrAt K H2 D ds (due as i) := ⟨SqL.of hD, hI.len, fun k t p h1 h2 => same_tup sm2 (hI.at_ k t p h1 h2)⟩
        have R2 := R.same sm2
        -- longer = []
        refine ⟨Nat.zero_le _, fun L nL => ?_⟩
        -- for begun in found
        have smL : Same H2 (upd H2 L (.lst [])) := same_new nL
        have nLf : fnd ≠ L := ne_of_none R2.lst nL
        refine ⟨_, rfl, fnd, rfl, ⟨_, SqL.of (smL _ _ R2.lst)⟩, ?_⟩
        have llen := lev_le (m := m) (as := as) (os := os) (i := i) hm (by omega)
        refine for_list (K := K) (a := fnd) (xs := rs.map V.ref) (fun j σ H3 => ∃ (v8 v9 v10 : Option V) (gs : List Addr), σ = [some (iv n), some (.ref a), some (iv m), some (.ref b), some (.ref fnd), some (.int (0 + (i : Int))), some (.ref D), some (.ref L), v8, v9, v10, v11] ∧
            Same H2 H3 ∧ H3 L = some (.lst (gs.map V.ref)) ∧ Ix (fun r row => H3 r = some (.lst (row.map iv)) ∧ r ≠ L) gs (((lev m as os i).take j).flatMap (grow m as os i)))
          ⟨v8, v9, v10, [], rfl, smL, upd_same, Ix.nil⟩ (fun j σ H3 _ ⟨_, _, _, _, _, sm3, _⟩ => SqL.of (sm3 _ _ R2.lst)) ?_ ?_
        · rintro j x σ H3 hx ⟨w8, w9, w10, gs, rfl, sm3, hL, hG⟩
          obtain ⟨r, hr', rfl⟩ := map_get hx
          obtain ⟨row, hrow⟩ := get_len R2.len hr'
          have hrowlen : row.length = i := (lev_elem (List.mem_of_getElem? hrow)).1
          have hjl : j < (lev m as os i).length := (List.getElem?_eq_some_iff.mp hrow).1
          have hbeg := R2.at_ j r row hr' hrow
          have flen := flat_len m as os i ((lev m as os i).take j)
          have flen2 : ((lev m as os i).take j).length * m ≤ 3125 * 5 := Nat.mul_le_mul (by rw [List.length_take]; omega) hm
          -- for given in range(m)
          refine ⟨_, rfl, (m : Int), rfl, by omega, by omega, ?_⟩
          refine for_range (lo := 0) (n := ((m : Int)).toNat) (fun g σ H4 => ∃ (v9 v10 : Option V) (gs : List Addr), σ = [some (iv n), some (.ref a), some (iv m), some (.ref b), some (.ref fnd), some (.int (0 + (i : Int))), some (.ref D), some (.ref L), some (.ref r), v9, v10, v11] ∧
              Same H2 H4 ∧ H4 L = some (.lst (gs.map V.ref)) ∧ Ix (fun r row => H4 r = some (.lst (row.map iv)) ∧ r ≠ L) gs (((lev m as os i).take j).flatMap (grow m as os i) ++ part as os i row g))
            ⟨w9, w10, gs, rfl, sm3, hL, by rw [part_zero, List.append_nil]; exact hG⟩ ?_ ?_
          · rintro g σ H4 hg ⟨u9, u10, gs, rfl, sm4, hL, hG⟩
            -- gets = begun + [given]
            refine ⟨_, rfl, _, rfl, (by show 1 ≤ sizeLine; decide), fun y ny => ?_⟩
            have sm5 : Same H4 (upd H4 y (.lst [.int (0 + (g : Int))])) := same_new ny
            refine ⟨r, y, _, _, rfl, rfl, sm5 _ _ (sm4 _ _ hbeg), upd_same, ?_, fun z nz => ?_⟩
            · rw [List.length_map, hrowlen]
              exact Nat.le_of_lt (small60 (by show i + 1 ≤ 100000; omega))
            have sm6 : Same H4 (upd (upd H4 y (.lst [.int (0 + (g : Int))])) z (.lst (row.map iv ++ [.int (0 + (g : Int))]))) := sm5.trans (same_new nz)
            have ez : row.map iv ++ [V.int (0 + (g : Int))] = (row ++ [g]).map iv := by
              rw [List.map_append]
              congr 2
              show V.int (0 + (g : Int)) = V.int (g : Int)
              congr 1
              omega
            rw [ez] at sm6 ⊢
            have nzL : z ≠ L := (ne_of_none (sm5 _ _ hL) nz).symm
            -- if carries(gets, due, others)
            have sm7 := smH2.trans (sm4.trans sm6)
            refine ⟨_, rfl, _, rfl, _, rfl, z, D, b, ds, tb, row ++ [g], due as i, os, rfl, SqL.of upd_same, hDue.same (sm4.trans sm6), hB.same sm7, fun pp hpp => ?_, fun H5 sm8 => ?_⟩
            · rw [List.length_append, hrowlen]
              exact due_in pp hpp
            refine ⟨_, rfl, ?_⟩
            have hL5 : H5 L = some (.lst (gs.map V.ref)) := sm8 _ _ (sm6 _ _ hL)
            have hz5 : H5 z = some (.lst ((row ++ [g]).map iv)) := sm8 _ _ upd_same
            have hG5 := hG.imp (S := fun r row => H5 r = some (.lst (row.map iv)) ∧ r ≠ L) fun t p h => ⟨sm8 _ _ (sm6 _ _ h.1), h.2⟩
            have sm9 : Same H2 H5 := sm4.trans (sm6.trans sm8)
            cases hc : carr os (row ++ [g]) (due as i) with
            | true =>
              refine iteT ?_
              have hplen := part_len (as := as) (os := os) (i := i) (b := row) (g := g)
              refine ⟨_, rfl, .inl ⟨rfl, _, SqL.of hL5⟩, _, rfl, L, _, _, rfl, rfl, hL5, ?_, ?_⟩
              · rw [List.length_map, hG.len, List.length_append]
                exact small60 (by omega)
              · refine ⟨_, _, gs ++ [z], rfl, same_own sm9 nL, by rw [upd_same, List.map_append]; rfl, ?_⟩
                rw [part_yes hc, ← List.append_assoc]
                refine (hG5.imp fun t p h => ⟨?_, h.2⟩).snoc ⟨?_, nzL⟩
                · rw [upd_ne nzL]; exact hz5
                · rw [upd_ne h.2]; exact h.1
            | false =>
              refine iteF ?_
              refine ⟨_, _, gs, rfl, sm9, hL5, ?_⟩
              rw [part_no hc]
              exact hG5
          · rintro σ H4 ⟨u9, u10, gs, rfl, sm4, hL, hG⟩
            refine ⟨_, _, _, gs, rfl, sm4, hL, ?_⟩
            rw [take_snoc hrow, List.flatMap_append, List.flatMap_singleton]
            exact hG
        · rintro σ H3 ⟨w8, w9, w10, gs, rfl, sm3, hL, hG⟩
          rw [List.length_map, R2.len, List.take_length] at hG
          -- found = longer
          refine ⟨_, rfl, L, gs, _, _, _, _, _, _, _, rfl, smH2.trans sm3, hL, hG.len, fun k r row h1 h2 => (hG.at_ k r row h1 h2).1⟩
    · rintro σ H1 ⟨fnd, rs, v5, v6, v7, v8, v9, v10, v11, rfl, sm, R⟩
      exact ⟨_, rfl, q H1 fnd rs sm R⟩
end
end Gc

namespace Gc
open PySem PySem.Spec PyProof.Rows L2
section
variable {P : Program} {w : World} {K : PySem.W.Frag} {mg : Str → Option Value} {base : Heap}
/-! ### count_hit -/
theorem scC : FnScope ["gets"] ["gets"] (defScope sCount) := ⟨rfl, rfl, rfl, by decide +kernel, rfl, by decide +kernel, by decide +kernel⟩
theorem ok_count {f : Addr} {fd : FuncData} {k : Nat} (F : Fun K "count_hit" "count_hit" sCount f fd) (ms : mg "set" = none) (ml : mg "len" = none) : FnOk P w K mg base CX0 (k + 1) f fd ["gets"] (spCount K) := by
  refine F.ok scC (fun vs H Q E h => ?_) (fun cdv A outer s H vs Q E hr h => ?_)
  · obtain ⟨a, l, rfl, _⟩ := h
    rfl
  · obtain ⟨a, l, rfl, hS, hlen, q⟩ := h
    refine ⟨_, pss_one (ps_ret (pe_lenSetN rfl (by rfl) ml (by rfl) ms (pv 0))), ?_⟩
    refine ⟨_, rfl, a, l.map (fun (x : Nat) => (x : Int)), rfl, by rw [List.map_map]; exact hS, by rw [List.length_map]; exact hlen, q⟩
end
end Gc

namespace Gc
open PySem PySem.Spec PyProof.Rows L2
/-! ### the count of a row is the count of the places that it hits -/
theorem len_of_mem {α : Type} [BEq α] [LawfulBEq α] : ∀ {a b : List α}, a.Nodup → b.Nodup → (∀ x, x ∈ a ↔ x ∈ b) → a.length = b.length
  | [], [], _, _, _ => rfl
  | [], y :: b, _, _, h => by
    have := (h y).mpr (by simp)
    simp at this
  | x :: a, b, ha, hb, h => by
    have hx : x ∈ b := (h x).mp (by simp)
    have ha' := List.nodup_cons.mp ha
    have ih := len_of_mem (a := a) (b := b.erase x) ha'.2 (hb.erase x) fun y => by
      rw [hb.mem_erase_iff]
      constructor
      · intro hy
        exact ⟨fun e => ha'.1 (e ▸ hy), (h y).mp (by simp [hy])⟩
      · rintro ⟨ne, hy⟩
        rcases List.mem_cons.mp ((h y).mpr hy) with e | e
        · exact absurd e ne
        · exact e
    rw [List.length_cons, ih, List.length_erase_of_mem hx]
    have : 0 < b.length := List.length_pos_of_mem hx
    omega
theorem met_nodup (val : Nat → Int) : ∀ i, (firstMet val i).Nodup
  | 0 => by rw [firstMet_zero]; exact List.nodup_nil
  | i + 1 => by
    rw [firstMet_succ]
    unfold step_dedup
    have ih := met_nodup val i
    by_cases h : (firstMet val i).any (· == val i) = true
    · rw [if_pos h]; exact ih
    · rw [if_neg h]
      refine List.nodup_append.mpr ⟨ih, by simp, fun x hx y hy e => h ?_⟩
      rw [List.mem_singleton] at hy
      rw [List.any_eq_true]
      exact ⟨x, hx, by rw [e, hy]; exact beq_self_eq_true _⟩
theorem met_mem (ns : List Int) (k : Int) : k ∈ firstMet (fun i => ns.getD i 0) ns.length ↔ k ∈ ns := by
  have e := firstMet_any (fun i => ns.getD i 0) ns.length k
  have em : (List.range ns.length).map (fun i => ns.getD i 0) = ns := by
    apply List.ext_getElem
    · simp
    · intro i h1 h2
      simp [h2]
  rw [em] at e
  have q : ∀ l : List Int, l.any (· == k) = true ↔ k ∈ l := fun l => by
    rw [List.any_eq_true]
    exact ⟨fun ⟨x, hx, h⟩ => by rw [beq_iff_eq] at h; rw [← h]; exact hx, fun h => ⟨k, h, beq_self_eq_true k⟩⟩
  rw [← q, ← q, e]
theorem cnt_hits {n : Nat} {f : List Nat} (h : ∀ x ∈ f, x < n) : cnt f = hits n f := by
  unfold cnt cntI hits Ks548.image
  have e : ((List.range n).filter fun x => f.contains x).length = (((List.range n).filter fun x => f.contains x).map fun (x : Nat) => (x : Int)).length := by rw [List.length_map]
  rw [e]
  refine len_of_mem (met_nodup _ _) ?_ fun k => ?_
  · have hnd : ((List.range n).filter fun x => f.contains x).Nodup := List.Pairwise.filter _ List.nodup_range
    exact List.pairwise_map.mpr (hnd.imp fun {x y} hne e => hne (by omega))
  · rw [met_mem]
    simp only [List.mem_map, List.mem_filter, List.mem_range, List.contains_iff_mem]
    constructor
    · rintro ⟨x, hx, rfl⟩
      exact ⟨x, ⟨h x hx, hx⟩, rfl⟩
    · rintro ⟨x, ⟨_, hx⟩, rfl⟩
      exact ⟨x, hx, rfl⟩
theorem min_congr {key key' : List Nat → Nat} {l : List (List Nat)} (h : ∀ f ∈ l, key f = key' f) : firstMin key l = firstMin key' l := by
  cases l with
  | nil => rfl
  | cons x r =>
    show r.foldl (stepMin key) x = r.foldl (stepMin key') x
    induction r generalizing x with
    | nil => rfl
    | cons y r ih =>
      rw [List.foldl_cons, List.foldl_cons]
      have e : stepMin key x y = stepMin key' x y := by
        unfold stepMin
        rw [h x (by simp), h y (by simp)]
      rw [e]
      refine ih _ fun f hf => ?_
      rcases List.mem_cons.mp hf with e' | hf
      · rw [e']
        unfold stepMin
        by_cases c : key' y < key' x
        · rw [if_pos c]; exact h y (by simp)
        · rw [if_neg c]; exact h x (by simp)
      · exact h f (by simp [hf])
/-- what the program's fold is, by the specification -/
theorem first_fold_eq (g : Ks547.Graph) (h1 : 1 ≤ g.n) (h5 : g.n ≤ 5) (hg : ∀ p ∈ g.arrows, p.1 < g.n ∧ p.2 < g.n) : firstMin cnt (lev g.n g.arrows g.arrows g.n) = Ks548.fold g := by
  rw [fold_eq g h1 h5 hg, ← lev_maps g g hg]
  exact min_congr fun f hf => cnt_hits (lev_elem hf).2
theorem best_min (key : List Nat → Nat) (x : List Nat) (r : List (List Nat)) {kf : Nat → Int} (hk : ∀ i f, (x :: r)[i]? = some f → kf i = (key f : Int)) :
    (x :: r)[argBest (fun i j => decide (kf i < kf j)) r.length]? = some (firstMin key (x :: r)) := by
  have h := PySem.W.argBest_fold (fun a b : List Nat => decide (key a < key b)) [] x r r.length (Nat.le_refl _)
  have eb : ∀ k, k ≤ r.length → argBest (fun i j => decide (kf i < kf j)) k = argBest (fun i j => decide (key ((x :: r).getD i []) < key ((x :: r).getD j []))) k := by
    have kd : ∀ i, i ≤ r.length → kf i = (key ((x :: r).getD i []) : Int) := fun i hi => by
      refine hk i _ ?_
      rw [List.getD_eq_getElem?_getD, List.getElem?_eq_getElem (by rw [List.length_cons]; omega)]
      rfl
    have le : ∀ (bt : Nat → Nat → Bool) k, argBest bt k ≤ k := by
      intro bt k
      induction k with
      | zero => exact Nat.le_refl _
      | succ k ih =>
        unfold argBest
        split
        · exact Nat.le_refl _
        · omega
    intro k
    induction k with
    | zero => intro _; rfl
    | succ k ih =>
      intro hk'
      have ih' := ih (by omega)
      unfold argBest
      rw [ih']
      have l1 := le (fun i j => decide (key ((x :: r).getD i []) < key ((x :: r).getD j []))) k
      rw [kd (k + 1) hk', kd _ (Nat.le_trans l1 (by omega))]
      congr 1
      simp only [Int.ofNat_lt]
  rw [eb _ (Nat.le_refl _)]
  have e2 := h.2
  rw [List.take_length] at e2
  have hlt : argBest (fun i j => decide (key ((x :: r).getD i []) < key ((x :: r).getD j []))) r.length < (x :: r).length := by
    rw [List.length_cons]
    have := h.1
    omega
  rw [List.getElem?_eq_getElem hlt]
  rw [List.getD_eq_getElem?_getD, List.getElem?_eq_getElem hlt] at e2
  have e3 : (fun (a y : List Nat) => if (decide (key y < key a)) = true then y else a) = stepMin key := by
    funext a y
    unfold stepMin
    simp only [decide_eq_true_eq]
  rw [e3] at e2
  exact congrArg some e2
end Gc

namespace Gc
open PySem PySem.Spec PyProof.Rows L2
section
variable {P : Program} {w : World} {K : PySem.W.Frag} {mg : Str → Option Value} {base : Heap}
/-! ### first_fold -/
theorem scF : FnScope ["n", "arrows"] ["n", "arrows"] (defScope sFirst) := ⟨rfl, rfl, rfl, by decide +kernel, rfl, by decide +kernel, by decide +kernel⟩
theorem ok_first {f fM fC fH : Addr} {fd fdM fdC fdH : FuncData} (F : Fun K "first_fold" "first_fold" sFirst f fd) (FM : Fun K "all_maps" "all_maps" sMaps fM fdM) (FC : Fun K "carries" "carries" sCarr fC fdC) (FH : Fun K "count_hit" "count_hit" sCount fH fdH)
    (bM : Binds K fdM ["n", "arrows", "m", "others"] []) (bC : Binds K fdC ["gets", "arrows", "others"] []) (bH : Binds K fdH ["gets"] []) (gM : mg "all_maps" = some (.ref fM)) (gC : mg "carries" = some (.ref fC)) (gH : mg "count_hit" = some (.ref fH))
    (mr : mg "range" = none) (mx : mg "max" = none) (mi : mg "min" = none) (ms : mg "set" = none) (ml : mg "len" = none) : FnOk P w K mg base CX0 3 f fd ["n", "arrows"] (spFirst K) := by
  have GM : FnOk P w K mg base CX0 2 fM fdM ["n", "arrows", "m", "others"] (spMaps K) := ok_maps FM FC bC gC mr mx
  have GH : FnOk P w K mg base CX0 1 fH fdH ["gets"] (spCount K) := ok_count FH ms ml
  refine F.ok scF (fun vs H Q E h => ?_) (fun cdv A outer s H vs Q E hr h => ?_)
  · obtain ⟨a, n, ta, as, rfl, _⟩ := h
    rfl
  · obtain ⟨a, n, ta, as, rfl, h1, h5, hA, hlen, hin, q⟩ := h
    refine ⟨_, pss_one (ps_ret (pe_callBK (cr_minKey rfl GH hr bH) (by rfl) mi (by decide +kernel) (pa_cons (pe_call GM hr (by rfl) gM FM.kp bM .nil pass0 (pa_cons (pv 0) (pa_cons (pv 1) (pa_cons (pv 0) (pa_cons (pv 1) pa_nil))))) pa_nil)
      (pk_cons (pe_glob (v := .ref fH) rfl gH rfl) pk_nil))), ?_⟩
    refine ⟨_, rfl, _, rfl, _, rfl, _, rfl, a, a, n, n, ta, ta, as, as, rfl, h5, h5, hA, hA, hlen, fun H1 p rs sm R => ?_⟩
    have hne : lev n as as n ≠ [] := by
      have := maps_ne ⟨n, as⟩ h1 h5 hin
      rw [← lev_maps ⟨n, as⟩ ⟨n, as⟩ hin] at this
      exact this
    obtain ⟨x, r, hx⟩ : ∃ x r, lev n as as n = x :: r := by
      cases hl : lev n as as n with
      | nil => exact absurd hl hne
      | cons x r => exact ⟨x, r, rfl⟩
    have hlr : rs.length = r.length + 1 := by rw [R.len, hx]; rfl
    obtain ⟨kf, hkf⟩ : ∃ kf : Nat → Int, ∀ i, kf i = (cnt ((lev n as as n).getD i []) : Int) := ⟨_, fun _ => rfl⟩
    refine ⟨p, rs.map V.ref, kf, rfl, rfl, SqL.of R.lst, by rw [List.length_map]; omega, fun i y hy => ?_, fun y hy => ?_⟩
    · obtain ⟨t, ht, rfl⟩ := map_get hy
      obtain ⟨row, hrow⟩ := get_len R.len ht
      refine ⟨t, row, rfl, SqL.of (R.at_ i t row ht hrow), ?_, ?_, rfl⟩
      · rw [(lev_elem (List.mem_of_getElem? hrow)).1]; omega
      · rw [hkf, List.getD_eq_getElem?_getD, hrow]
        rfl
    · obtain ⟨t, ht, rfl⟩ := map_get hy
      obtain ⟨row, hrow⟩ := get_len R.len ht
      have hl2 : (rs.map V.ref).length - 1 = r.length := by rw [List.length_map]; omega
      have hb : (lev n as as n)[argBest (fun i j => decide (kf i < kf j)) ((rs.map V.ref).length - 1)]? = some (firstMin cnt (lev n as as n)) := by
        rw [hl2, hx]
        refine best_min cnt x r fun i f hf => ?_
        rw [hkf, hx, List.getD_eq_getElem?_getD, hf]
        rfl
      have hat := R.at_ _ t _ ht hb
      exact q H1 t sm hat
end
end Gc

namespace Gc
open PySem PySem.Spec PyProof.Rows L2
abbrev zs (l : List Nat) : List Int := l.map fun (x : Nat) => (x : Int)
theorem nats_zs (l : List Nat) : Ks548Neutral.nats (zs l) = l := by
  unfold Ks548Neutral.nats zs
  rw [List.map_map]
  have : (Int.toNat ∘ fun (x : Nat) => (x : Int)) = id := by funext x; simp
  rw [this, List.map_id]
theorem iv_zs (l : List Nat) : (zs l).map V.int = l.map iv := by
  unfold zs
  rw [List.map_map]
  rfl
theorem lev_len_fold {n : Nat} {as : List (Nat × Nat)} (h1 : 1 ≤ n) (h5 : n ≤ 5) (hin : ∀ p ∈ as, p.1 < n ∧ p.2 < n) : (Ks548.fold ⟨n, as⟩).length = n ∧ ∀ x ∈ Ks548.fold ⟨n, as⟩, x < n := by
  rw [← first_fold_eq ⟨n, as⟩ h1 h5 hin]
  have hne : lev n as as n ≠ [] := by
    have := maps_ne ⟨n, as⟩ h1 h5 hin
    rw [← lev_maps ⟨n, as⟩ ⟨n, as⟩ hin] at this
    exact this
  exact lev_elem (firstMin_mem hne)
/-- the numbers that are handed in -/
theorem handed {ns : List Int} (h : ∀ x ∈ ns, 0 ≤ x) : zs (ns.map Int.toNat) = ns := by
  unfold zs
  rw [List.map_map]
  have : ∀ l : List Int, (∀ x ∈ l, 0 ≤ x) → l.map ((fun (x : Nat) => (x : Int)) ∘ Int.toNat) = l := by
    intro l
    induction l with
    | nil => intro _; rfl
    | cons a l ih =>
      intro hl
      rw [List.map_cons, ih fun x hx => hl x (by simp [hx])]
      congr 1
      have := hl a (by simp)
      show ((a.toNat : Nat) : Int) = a
      omega
  exact this ns h
end Gc

namespace Gc
open PySem PySem.Spec PyProof.Rows L2
theorem fold_spec (n : Nat) (l : List Nat) : PyKs548.fold (n : Int) (zs l) = if isG n l = true then (n : Int) :: zs (Ks548.fold ⟨n, pairUp l⟩) else [-22] := by
  have e0 : PyKs548.fold (n : Int) (zs l) = Ks548Neutral.out (Ks548.answer (.fold ((n : Int).toNat) (Ks548Neutral.nats (zs l)))) := rfl
  rw [e0, nats_zs, Int.toNat_natCast]
  show Ks548Neutral.out (Ks547.graph n l fun g => Ks547.told (Ks548.fold g)) = _
  unfold Ks547.graph
  rw [graphOf_eq]
  by_cases h : isG n l = true
  · rw [if_pos h, if_pos h]
    obtain ⟨⟨h1, h5⟩, _, hb, _⟩ := isG_data h
    have hl := (lev_len_fold h1 h5 (pairUp_mem hb)).1
    show ((Ks548.fold ⟨n, pairUp l⟩).length : Int) :: (Ks548.fold ⟨n, pairUp l⟩).map Int.ofNat = _
    rw [hl]
    rfl
  · rw [if_neg h, if_neg h]
    rfl
/-! ### fold -/
def spFold (K : PySem.W.Frag) : Sp := fun vs H Q _ => ∃ (a : Addr) (n : Nat) (l : List Nat), vs = [iv n, .ref a] ∧ SqL K H a (l.map iv) ∧ l.length ≤ 60 ∧
  ∀ (H' : Hp) (p : Addr), H' p = some (.lst ((PyKs548.fold (n : Int) (zs l)).map V.int)) → Q (.ref p) H'
section
variable {P : Program} {w : World} {K : PySem.W.Frag} {mg : Str → Option Value} {base : Heap}
theorem scO : FnScope ["n", "first"] ["n", "first"] (defScope sFold) := ⟨rfl, rfl, rfl, by decide +kernel, rfl, by decide +kernel, by decide +kernel⟩
theorem ok_fold {f fG fF fP : Addr} {fd fdG fdF fdP : FuncData} {tk : Tok} (F : Fun K "fold" "fold" sFold f fd) (kG : PySem.W.keepIn K (.ref fG) = true) (kF : PySem.W.keepIn K (.ref fF) = true) (kP : PySem.W.keepIn K (.ref fP) = true)
    (GG : FnOk P w K mg base CX0 2 fG fdG ["n", "numbers"] (spIsG K)) (GF : FnOk P w K mg base CX0 3 fF fdF ["n", "arrows"] (spFirst K)) (GP : FnOk P w K mg base CX0 1 fP fdP ["numbers"] (spPaired K))
    (bG : Binds K fdG ["n", "numbers"] []) (bF : Binds K fdF ["n", "arrows"] []) (bP : Binds K fdP ["numbers"] []) (gG : mg "is_graph" = some (.ref fG)) (gF : mg "first_fold" = some (.ref fF)) (gP : mg "paired" = some (.ref fP))
    (gN : mg "NO_GRAPH" = some (.int (-22) tk)) : FnOk P w K mg base CX0 4 f fd ["n", "first"] (spFold K) := by
  refine F.ok scO (fun vs H Q E h => ?_) (fun cdv A outer s H vs Q E hr h => ?_)
  · obtain ⟨a, n, l, rfl, _⟩ := h
    rfl
  · obtain ⟨a, n, l, rfl, hS, hlen, q⟩ := h
    have hr2 : Room 2 _ := hr.mono (by decide)
    have hr1 : Room 1 _ := hr.mono (by decide)
    refine ⟨_, pss_cons (ps_if (pt_not (pt_val (pe_call GG hr2 (by rfl) gG kG bG .nil pass0 (pa_cons (pv 0) (pa_cons (pv 1) pa_nil))))) (pss_one (ps_ret (pe_lst (pa_cons (pe_glob (v := .int (-22)) rfl gN ⟨_, rfl⟩) pa_nil)))) pss_nil)
      (pss_one (ps_ret (pe_op op_cat (pe_lst (pa_cons (pv 0) pa_nil)) (pe_call GF hr (by rfl) gF kF bF .nil pass0 (pa_cons (pv 0) (pa_cons (pe_call GP hr1 (by rfl) gP kP bP .nil pass0 (pa_cons (pv 1) pa_nil)) pa_nil)))))), ?_⟩
    refine ⟨_, rfl, _, rfl, a, n, l, rfl, hS, hlen, fun H1 sm => ⟨_, rfl, ?_⟩⟩
    have hq := fold_spec n l
    cases hg : isG n l with
    | false =>
      rw [hg, if_neg Bool.false_ne_true] at hq
      refine iteT ⟨(by show 1 ≤ sizeLine; decide), fun p np => q _ p ?_⟩
      rw [hq, upd_same]
      rfl
    | true =>
      rw [hg, if_pos rfl] at hq
      obtain ⟨⟨h1, h5⟩, hev, hb, _⟩ := isG_data hg
      have hin := pairUp_mem hb
      have hpl := pairUp_len l hev
      refine iteF ⟨_, rfl, (by show 1 ≤ sizeLine; decide), fun y ny => ?_⟩
      have sm1 : Same H1 (upd H1 y (.lst [iv n])) := same_new ny
      refine ⟨_, rfl, _, rfl, a, l, rfl, (sm.trans sm1).seq hS, hlen, hev, fun H2 p ts sm2 np hA => ?_⟩
      refine ⟨p, n, ts, pairUp l, rfl, h1, h5, hA, by omega, hin, fun H3 r sm3 hr3 => ?_⟩
      rw [first_fold_eq ⟨n, pairUp l⟩ h1 h5 hin] at hr3
      refine ⟨y, r, _, _, rfl, rfl, sm3 _ _ (sm2 _ _ upd_same), hr3, ?_, fun z nz => q _ z ?_⟩
      · rw [List.length_map, (lev_len_fold h1 h5 hin).1]
        exact Nat.le_of_lt (small60 (by show 1 + n ≤ 100000; omega))
      · rw [hq, upd_same, List.map_cons, iv_zs]
        rfl
end
end Gc

namespace Gc
open PySem PySem.Spec PyProof.Rows L2
theorem all_mk {P : Program} {w : World} {K : PySem.W.Frag} {h : Heap} {mg : Str → Option Value} {fa : Addr} (X : K.In h) (G : h.Ns mainGlobals mg) (hfa : mg "fold" = some (.ref fa))
    {f_fold : Addr} {od_fold an_fold : Option Addr} {sl_fold : Array (Option Value)} {oc_fold kV_fold dc_fold pm_fold cd_fold ct_fold : Value}
    (a_fold : PySem.W.nsIn K mainGlobals "fold" = some (some (.ref f_fold)))
    (l_fold : K.lookup f_fold = some ⟨oc_fold, od_fold, .func (PySem.W.fnOf "fold" "fold" (defArgs sFold) (defBody sFold) (defScope sFold) .none kV_fold dc_fold pm_fold an_fold cd_fold ct_fold), sl_fold⟩)
    (c_fold : PySem.W.codeIn K cd_fold "fold" = true) (k_fold : PySem.W.keepIn K (.ref f_fold) = true)
    {f_is_graph : Addr} {od_is_graph an_is_graph : Option Addr} {sl_is_graph : Array (Option Value)} {oc_is_graph kV_is_graph dc_is_graph pm_is_graph cd_is_graph ct_is_graph : Value}
    (a_is_graph : PySem.W.nsIn K mainGlobals "is_graph" = some (some (.ref f_is_graph)))
    (l_is_graph : K.lookup f_is_graph = some ⟨oc_is_graph, od_is_graph, .func (PySem.W.fnOf "is_graph" "is_graph" (defArgs sIsG) (defBody sIsG) (defScope sIsG) .none kV_is_graph dc_is_graph pm_is_graph an_is_graph cd_is_graph ct_is_graph), sl_is_graph⟩)
    (c_is_graph : PySem.W.codeIn K cd_is_graph "is_graph" = true) (k_is_graph : PySem.W.keepIn K (.ref f_is_graph) = true)
    {f_is_rising : Addr} {od_is_rising an_is_rising : Option Addr} {sl_is_rising : Array (Option Value)} {oc_is_rising kV_is_rising dc_is_rising pm_is_rising cd_is_rising ct_is_rising : Value}
    (a_is_rising : PySem.W.nsIn K mainGlobals "is_rising" = some (some (.ref f_is_rising)))
    (l_is_rising : K.lookup f_is_rising = some ⟨oc_is_rising, od_is_rising, .func (PySem.W.fnOf "is_rising" "is_rising" (defArgs sRising) (defBody sRising) (defScope sRising) .none kV_is_rising dc_is_rising pm_is_rising an_is_rising cd_is_rising ct_is_rising), sl_is_rising⟩)
    (c_is_rising : PySem.W.codeIn K cd_is_rising "is_rising" = true) (k_is_rising : PySem.W.keepIn K (.ref f_is_rising) = true)
    {f_paired : Addr} {od_paired an_paired : Option Addr} {sl_paired : Array (Option Value)} {oc_paired kV_paired dc_paired pm_paired cd_paired ct_paired : Value}
    (a_paired : PySem.W.nsIn K mainGlobals "paired" = some (some (.ref f_paired)))
    (l_paired : K.lookup f_paired = some ⟨oc_paired, od_paired, .func (PySem.W.fnOf "paired" "paired" (defArgs sPaired) (defBody sPaired) (defScope sPaired) .none kV_paired dc_paired pm_paired an_paired cd_paired ct_paired), sl_paired⟩)
    (c_paired : PySem.W.codeIn K cd_paired "paired" = true) (k_paired : PySem.W.keepIn K (.ref f_paired) = true)
    {f_all_maps : Addr} {od_all_maps an_all_maps : Option Addr} {sl_all_maps : Array (Option Value)} {oc_all_maps kV_all_maps dc_all_maps pm_all_maps cd_all_maps ct_all_maps : Value}
    (a_all_maps : PySem.W.nsIn K mainGlobals "all_maps" = some (some (.ref f_all_maps)))
    (l_all_maps : K.lookup f_all_maps = some ⟨oc_all_maps, od_all_maps, .func (PySem.W.fnOf "all_maps" "all_maps" (defArgs sMaps) (defBody sMaps) (defScope sMaps) .none kV_all_maps dc_all_maps pm_all_maps an_all_maps cd_all_maps ct_all_maps), sl_all_maps⟩)
    (c_all_maps : PySem.W.codeIn K cd_all_maps "all_maps" = true) (k_all_maps : PySem.W.keepIn K (.ref f_all_maps) = true)
    {f_carries : Addr} {od_carries an_carries : Option Addr} {sl_carries : Array (Option Value)} {oc_carries kV_carries dc_carries pm_carries cd_carries ct_carries : Value}
    (a_carries : PySem.W.nsIn K mainGlobals "carries" = some (some (.ref f_carries)))
    (l_carries : K.lookup f_carries = some ⟨oc_carries, od_carries, .func (PySem.W.fnOf "carries" "carries" (defArgs sCarr) (defBody sCarr) (defScope sCarr) .none kV_carries dc_carries pm_carries an_carries cd_carries ct_carries), sl_carries⟩)
    (c_carries : PySem.W.codeIn K cd_carries "carries" = true) (k_carries : PySem.W.keepIn K (.ref f_carries) = true)
    {f_count_hit : Addr} {od_count_hit an_count_hit : Option Addr} {sl_count_hit : Array (Option Value)} {oc_count_hit kV_count_hit dc_count_hit pm_count_hit cd_count_hit ct_count_hit : Value}
    (a_count_hit : PySem.W.nsIn K mainGlobals "count_hit" = some (some (.ref f_count_hit)))
    (l_count_hit : K.lookup f_count_hit = some ⟨oc_count_hit, od_count_hit, .func (PySem.W.fnOf "count_hit" "count_hit" (defArgs sCount) (defBody sCount) (defScope sCount) .none kV_count_hit dc_count_hit pm_count_hit an_count_hit cd_count_hit ct_count_hit), sl_count_hit⟩)
    (c_count_hit : PySem.W.codeIn K cd_count_hit "count_hit" = true) (k_count_hit : PySem.W.keepIn K (.ref f_count_hit) = true)
    {f_first_fold : Addr} {od_first_fold an_first_fold : Option Addr} {sl_first_fold : Array (Option Value)} {oc_first_fold kV_first_fold dc_first_fold pm_first_fold cd_first_fold ct_first_fold : Value}
    (a_first_fold : PySem.W.nsIn K mainGlobals "first_fold" = some (some (.ref f_first_fold)))
    (l_first_fold : K.lookup f_first_fold = some ⟨oc_first_fold, od_first_fold, .func (PySem.W.fnOf "first_fold" "first_fold" (defArgs sFirst) (defBody sFirst) (defScope sFirst) .none kV_first_fold dc_first_fold pm_first_fold an_first_fold cd_first_fold ct_first_fold), sl_first_fold⟩)
    (c_first_fold : PySem.W.codeIn K cd_first_fold "first_fold" = true) (k_first_fold : PySem.W.keepIn K (.ref f_first_fold) = true)
    {t_NO_GRAPH : Tok} (n_NO_GRAPH : PySem.W.nsIn K mainGlobals "NO_GRAPH" = some (some (.int (-22) t_NO_GRAPH)))
    {t_MOST_PLACES : Tok} (n_MOST_PLACES : PySem.W.nsIn K mainGlobals "MOST_PLACES" = some (some (.int 5 t_MOST_PLACES)))
    (z_range : PySem.W.nsIn K mainGlobals "range" = some none)
    (z_len : PySem.W.nsIn K mainGlobals "len" = some none)
    (z_all : PySem.W.nsIn K mainGlobals "all" = some none)
    (z_max : PySem.W.nsIn K mainGlobals "max" = some none)
    (z_min : PySem.W.nsIn K mainGlobals "min" = some none)
    (z_set : PySem.W.nsIn K mainGlobals "set" = some none)
    : ∃ fd : FuncData, (∀ (s : Shared) (us : List Value), us.length = (["n", "first"] : List Str).length → BindsTo s fd ⟨us, []⟩ ((["n", "first"] : List Str).zip us)) ∧ ∀ base : Heap, K.In base → base.Ns mainGlobals mg → FnOk P w K mg base CX0 4 fa fd ["n", "first"] (spFold K) := by
  have e := hfa.symm.trans (PySem.W.mg_of X G a_fold)
  cases e
  have F_fold := fun_mk (st := sFold) l_fold c_fold k_fold
  have F_is_graph := fun_mk (st := sIsG) l_is_graph c_is_graph k_is_graph
  have b_is_graph := F_is_graph.binds (ps := ["n", "numbers"]) fun _ _ _ _ _ _ us hl => match us, hl with | [_, _], _ => rfl
  have g_is_graph := PySem.W.mg_of X G a_is_graph
  have F_is_rising := fun_mk (st := sRising) l_is_rising c_is_rising k_is_rising
  have b_is_rising := F_is_rising.binds (ps := ["row"]) fun _ _ _ _ _ _ us hl => match us, hl with | [_], _ => rfl
  have g_is_rising := PySem.W.mg_of X G a_is_rising
  have F_paired := fun_mk (st := sPaired) l_paired c_paired k_paired
  have b_paired := F_paired.binds (ps := ["numbers"]) fun _ _ _ _ _ _ us hl => match us, hl with | [_], _ => rfl
  have g_paired := PySem.W.mg_of X G a_paired
  have F_all_maps := fun_mk (st := sMaps) l_all_maps c_all_maps k_all_maps
  have b_all_maps := F_all_maps.binds (ps := ["n", "arrows", "m", "others"]) fun _ _ _ _ _ _ us hl => match us, hl with | [_, _, _, _], _ => rfl
  have g_all_maps := PySem.W.mg_of X G a_all_maps
  have F_carries := fun_mk (st := sCarr) l_carries c_carries k_carries
  have b_carries := F_carries.binds (ps := ["gets", "arrows", "others"]) fun _ _ _ _ _ _ us hl => match us, hl with | [_, _, _], _ => rfl
  have g_carries := PySem.W.mg_of X G a_carries
  have F_count_hit := fun_mk (st := sCount) l_count_hit c_count_hit k_count_hit
  have b_count_hit := F_count_hit.binds (ps := ["gets"]) fun _ _ _ _ _ _ us hl => match us, hl with | [_], _ => rfl
  have g_count_hit := PySem.W.mg_of X G a_count_hit
  have F_first_fold := fun_mk (st := sFirst) l_first_fold c_first_fold k_first_fold
  have b_first_fold := F_first_fold.binds (ps := ["n", "arrows"]) fun _ _ _ _ _ _ us hl => match us, hl with | [_, _], _ => rfl
  have g_first_fold := PySem.W.mg_of X G a_first_fold
  have v_NO_GRAPH := PySem.W.mg_of X G n_NO_GRAPH
  have v_MOST_PLACES := PySem.W.mg_of X G n_MOST_PLACES
  have m_range := PySem.W.mg_none_of X G z_range
  have m_len := PySem.W.mg_none_of X G z_len
  have m_all := PySem.W.mg_none_of X G z_all
  have m_max := PySem.W.mg_none_of X G z_max
  have m_min := PySem.W.mg_none_of X G z_min
  have m_set := PySem.W.mg_none_of X G z_set
  exact ⟨_, fun s us hu => match us, hu with | [_, _], _ => .of_eq rfl, fun base _ _ =>
    ok_fold F_fold k_is_graph k_first_fold k_paired (ok_isG F_is_graph F_is_rising F_paired b_is_rising b_paired g_is_rising g_paired v_MOST_PLACES m_range m_len m_all) (ok_first F_first_fold F_all_maps F_carries F_count_hit b_all_maps b_carries b_count_hit g_all_maps g_carries g_count_hit m_range m_max m_min m_set m_len) (ok_paired F_paired m_range m_len) b_is_graph b_first_fold b_paired g_is_graph g_first_fold g_paired v_NO_GRAPH⟩
end Gc
open PySem PySem.W PyProof.Rows
set_option maxRecDepth 100000 in
set_option maxHeartbeats 0 in
theorem PySem.Challenge.cw_graphcore_s02_fold_holds : PySem.Challenge.rw_graphcore_s02_fold.Holds := by
  w_on; k_headS; (case hw => exact ⟨[.int 0, .list []], by decide +kernel, by decide +kernel⟩)
  k_fillS
  refine L2.walk_specK (r := PySem.Challenge.rw_graphcore_s02_fold) (k := 4) (CX := L2.CX0) (ps := ["n", "first"]) (sp := Gc.spFold) (by decide +kernel) rfl rfl ⟨rfl, by decide, by decide⟩ (fun w h Y => PySem.W.kIn_of Y) ?F ?S (fun _ _ _ _ z => z)
  case F =>
    intro w mg fa h Y KX G hmg
    refine' Gc.all_mk KX G hmg ?a_fold ?l_fold ?c_fold ?k_fold ?a_is_graph ?l_is_graph ?c_is_graph ?k_is_graph ?a_is_rising ?l_is_rising ?c_is_rising ?k_is_rising ?a_paired ?l_paired ?c_paired ?k_paired ?a_all_maps ?l_all_maps ?c_all_maps ?k_all_maps ?a_carries ?l_carries ?c_carries ?k_carries ?a_count_hit ?l_count_hit ?c_count_hit ?k_count_hit ?a_first_fold ?l_first_fold ?c_first_fold ?k_first_fold ?n_NO_GRAPH ?n_MOST_PLACES ?z_range ?z_len ?z_all ?z_max ?z_min ?z_set
    (case a_fold => k_is)
    (case l_fold => k_is)
    (case c_fold => k_is)
    (case k_fold => k_is)
    (case a_is_graph => k_is)
    (case l_is_graph => k_is)
    (case c_is_graph => k_is)
    (case k_is_graph => k_is)
    (case a_is_rising => k_is)
    (case l_is_rising => k_is)
    (case c_is_rising => k_is)
    (case k_is_rising => k_is)
    (case a_paired => k_is)
    (case l_paired => k_is)
    (case c_paired => k_is)
    (case k_paired => k_is)
    (case a_all_maps => k_is)
    (case l_all_maps => k_is)
    (case c_all_maps => k_is)
    (case k_all_maps => k_is)
    (case a_carries => k_is)
    (case l_carries => k_is)
    (case c_carries => k_is)
    (case k_carries => k_is)
    (case a_count_hit => k_is)
    (case l_count_hit => k_is)
    (case c_count_hit => k_is)
    (case k_count_hit => k_is)
    (case a_first_fold => k_is)
    (case l_first_fold => k_is)
    (case c_first_fold => k_is)
    (case k_first_fold => k_is)
    (case n_NO_GRAPH => k_is)
    (case n_MOST_PLACES => k_is)
    (case z_range => k_is)
    (case z_len => k_is)
    (case z_all => k_is)
    (case z_max => k_is)
    (case z_min => k_is)
    (case z_set => k_is)
  case S =>
    intro K H xs a hO hwi hask hx
    obtain ⟨n, first, u⟩ := a
    cases hx with
    | cons h_n r_n =>
      cases r_n with
      | cons h_first r_first =>
        cases r_first
        cases h_n
        cases h_first with
        | lst s_first d_first =>
          have x_first := L2.ints_dw first _ d_first
          subst x_first
          have q : (Codec.inInt 0 4294967295 n && ((Codec.inLen 0 60 first && first.all (Codec.inInt 0 4294967295)) && true)) = true := hwi
          simp only [Bool.and_eq_true, List.all_eq_true] at q
          have e_n : ((Int.toNat n : Nat) : Int) = n := Int.toNat_of_nonneg (Codec.inInt_iff.mp q.1).1
          have e_first := Gc.handed fun x hx => (Codec.inInt_iff.mp (q.2.1.2 x hx)).1
          have l_first : first.length ≤ 60 := (Codec.inNat_iff.mp q.2.1.1).2
          refine ⟨_, Int.toNat n, first.map Int.toNat, by rw [← e_n]; rfl, ?_, by rw [List.length_map]; exact l_first, fun H' p hp => ?_⟩
          · rw [← Gc.iv_zs, e_first]
            exact s_first
          · rw [e_n, e_first] at hp
            exact .lst (L2.SqL.of hp) (L2.dw_ints _)
#print axioms PySem.Challenge.cw_graphcore_s02_fold_holds

import PyProof.Rows.All
import PyFlatLaws
import Wide.All
import OpenK.AllK
import Wide.FinOn
import Open.SpecLaws
import KE.OsGo
import KE.GoesMore
import KE.GoesEnum
import KE.DataFind
import PyProof.Rows.TupDisplay
import HandS.ForSpec
import HandS.Dict
import HandS.Iter
import HandS.Walk
import HandS.Comp
import HandS.Deep
import HandS.TryMany
import HandS.Flow
import HandS.SetFor
import HandS.WordsDict
import HandS.ExcIs
import PySem.Challenge.RW_sidebysideyard_s01_answers
set_option Elab.async false
set_option maxRecDepth 100000
set_option maxHeartbeats 8000000
/-! The mathematics of layings: what the table of rests says, the best way on from each place, what a laying costs. -/
namespace Sy
open Ut05

/-! ### a list that grows at its front, from the last place to the first -/
def down {α : Type} (g : Nat → List α → α) : Nat → List α → List α
  | 0, acc => acc
  | n + 1, acc => down g n (g n acc :: acc)
theorem down_fold {α : Type} (g : Nat → List α → α) : ∀ (n : Nat) (acc : List α), (List.range n).reverse.foldl (fun acc i => g i acc :: acc) acc = down g n acc
  | 0, _ => rfl
  | n + 1, acc => by
    rw [List.range_succ, List.reverse_append]
    show (List.range n).reverse.foldl (fun acc i => g i acc :: acc) (g n acc :: acc) = down g n (g n acc :: acc)
    exact down_fold g n _
theorem down_at {α : Type} (g : Nat → List α → α) : ∀ (n : Nat) (acc : List α), (down g n acc).drop n = acc ∧ ∀ i, i < n → (down g n acc)[i]? = some (g i ((down g n acc).drop (i + 1)))
  | 0, acc => ⟨rfl, fun i h => absurd h (Nat.not_lt_zero i)⟩
  | n + 1, acc => by
    obtain ⟨h1, h2⟩ := down_at g n (g n acc :: acc)
    have e : down g (n + 1) acc = down g n (g n acc :: acc) := rfl
    rw [e]
    have h3 : (down g n (g n acc :: acc)).drop (n + 1) = acc := by
      rw [← List.drop_drop, h1]
      rfl
    refine ⟨h3, fun i hi => ?_⟩
    by_cases c : i < n
    · exact h2 i c
    · have : i = n := by omega
      subst this
      rw [h3]
      have : ((down g i (g i acc :: acc)).drop i)[0]? = some (g i acc) := by rw [h1]; rfl
      rw [List.getElem?_drop] at this
      simpa using this

section
variable (c : Costs) (fx : List Fixed) (a b : List Sent)

/-- the least that the rest costs from a place on, as the table has it -/
def cell (i j : Nat) : Option Nat := ((rest c fx a b).getD i []).getD j none

/-- one place of the table, by those behind it -/
def cellStep (at_ : Nat → Nat → Option Nat) (i j : Nat) (m : Option Nat) (x : Bead) : Option Nat :=
  if a.length < i + x.1 ∨ b.length < j + x.2 ∨ keeps fx i j x = false then m else
    match at_ (i + x.1) (j + x.2) with
    | none => m
    | some n =>
      let s := n + costOf c ((a.drop i).take x.1) ((b.drop j).take x.2)
      match m with
      | none => some s
      | some y => some (min y s)

theorem foldl_congr {α β : Type} {f g : β → α → β} : ∀ (l : List α) (z : β), (∀ y, ∀ x ∈ l, f y x = g y x) → l.foldl f z = l.foldl g z
  | [], _, _ => rfl
  | x :: l, z, h => by
    rw [List.foldl_cons, List.foldl_cons, h z x (List.mem_cons_self ..)]
    exact foldl_congr l _ fun y w hw => h y w (List.mem_cons_of_mem _ hw)

theorem cell_eq {i j : Nat} (hi : i ≤ a.length) (hj : j ≤ b.length) :
    cell c fx a b i j = if i = a.length ∧ j = b.length then some 0 else kinds.foldl (cellStep c fx a b (cell c fx a b) i j) none := by
  -- the rows
  have R := down_at (fun i rows => restRow c fx a b i rows) (a.length + 1) []
  have eR : rest c fx a b = down (fun i rows => restRow c fx a b i rows) (a.length + 1) [] := down_fold _ _ _
  rw [← eR] at R
  have hrow := R.2 i (by omega)
  -- the row's places
  let gc : Nat → List (Option Nat) → Option Nat := fun j row => if i = a.length ∧ j = b.length then some 0 else kinds.foldl (fun m x =>
      if a.length < i + x.1 ∨ b.length < j + x.2 ∨ keeps fx i j x = false then m else
        let r : Option Nat := if x.1 = 0 then (row.getD (x.2 - 1) none) else ((((rest c fx a b).drop (i + 1)).getD (x.1 - 1) []).getD (j + x.2) none)
        match r with
        | none => m
        | some n =>
          let s := n + costOf c ((a.drop i).take x.1) ((b.drop j).take x.2)
          match m with
          | none => some s
          | some y => some (min y s)) none
  have er : restRow c fx a b i ((rest c fx a b).drop (i + 1)) = down gc (b.length + 1) [] := down_fold gc _ _
  have D := down_at gc (b.length + 1) []
  rw [← er] at D
  have hcell := D.2 j (by omega)
  have hrowD : (rest c fx a b).getD i [] = restRow c fx a b i ((rest c fx a b).drop (i + 1)) := by
    rw [List.getD_eq_getElem?_getD, hrow]
    rfl
  have e1 : cell c fx a b i j = gc j ((restRow c fx a b i ((rest c fx a b).drop (i + 1))).drop (j + 1)) := by
    unfold cell
    rw [hrowD, List.getD_eq_getElem?_getD, hcell]
    rfl
  rw [e1]
  show (if i = a.length ∧ j = b.length then some 0 else _) = _
  by_cases ce : i = a.length ∧ j = b.length
  · rw [if_pos ce, if_pos ce]
  · rw [if_neg ce, if_neg ce]
    refine foldl_congr _ _ fun m x hx => ?_
    have look : (if x.1 = 0 then (((restRow c fx a b i ((rest c fx a b).drop (i + 1))).drop (j + 1)).getD (x.2 - 1) none) else ((((rest c fx a b).drop (i + 1)).getD (x.1 - 1) []).getD (j + x.2) none)) = cell c fx a b (i + x.1) (j + x.2) := by
      have hx2 : x.1 = 0 → x.2 = 1 := by
        have : x ∈ [((1 : Nat), (1 : Nat)), (1, 2), (2, 1), (2, 2), (1, 0), (0, 1)] := hx
        simp only [List.mem_cons, List.not_mem_nil, or_false] at this
        rcases this with e | e | e | e | e | e <;> subst e <;> decide
      by_cases c0 : x.1 = 0
      · rw [if_pos c0, c0, hx2 c0]
        show _ = ((rest c fx a b).getD i []).getD (j + 1) none
        rw [hrowD, List.getD_eq_getElem?_getD, List.getD_eq_getElem?_getD, List.getElem?_drop]
      · rw [if_neg c0]
        unfold cell
        have : (((rest c fx a b).drop (i + 1)).getD (x.1 - 1) []) = (rest c fx a b).getD (i + x.1) [] := by
          rw [List.getD_eq_getElem?_getD, List.getD_eq_getElem?_getD, List.getElem?_drop]
          have : i + 1 + (x.1 - 1) = i + x.1 := by omega
          rw [this]
        rw [this]
    show (if a.length < i + x.1 ∨ b.length < j + x.2 ∨ keeps fx i j x = false then m else _) = cellStep c fx a b (cell c fx a b) i j m x
    unfold cellStep
    by_cases cc : a.length < i + x.1 ∨ b.length < j + x.2 ∨ keeps fx i j x = false
    · rw [if_pos cc, if_pos cc]
    · rw [if_neg cc, if_neg cc]
      show (match (if x.1 = 0 then (((restRow c fx a b i ((rest c fx a b).drop (i + 1))).drop (j + 1)).getD (x.2 - 1) none) else ((((rest c fx a b).drop (i + 1)).getD (x.1 - 1) []).getD (j + x.2) none)) with
        | none => m
        | some n => (match m with
          | none => some (n + costOf c ((a.drop i).take x.1) ((b.drop j).take x.2))
          | some y => some (min y (n + costOf c ((a.drop i).take x.1) ((b.drop j).take x.2))))) = _
      rw [look]

/-! ### the best way on, with its kinds -/
def bd (k : Nat) : Bead := kinds.getD k (0, 0)
abbrev ks6 : List Nat := [0, 1, 2, 3, 4, 5]
theorem kinds_bd : kinds = ks6.map bd := rfl
theorem bd_mem {k : Nat} (h : k ∈ ks6) : bd k ∈ kinds := by
  rw [kinds_bd]
  exact List.mem_map_of_mem h
theorem bd_pos {k : Nat} (h : k ∈ ks6) : 0 < (bd k).1 + (bd k).2 := by
  simp only [List.mem_cons, List.not_mem_nil, or_false] at h
  rcases h with e | e | e | e | e | e <;> subst e <;> decide

/-- what a bead of the kind k costs that begins at i and j -/
def beadCost (k i j : Nat) : Nat :=
  c.kind.getD k 0 + c.anchor * (lacking (anchorsOf ((a.drop i).take (bd k).1)) (anchorsOf ((b.drop j).take (bd k).2)) + lacking (anchorsOf ((b.drop j).take (bd k).2)) (anchorsOf ((a.drop i).take (bd k).1))) +
    (if (a.drop i).take (bd k).1 = [] ∨ (b.drop j).take (bd k).2 = [] then 0 else c.weight * (apart (longOf ((a.drop i).take (bd k).1) * c.share) (longOf ((b.drop j).take (bd k).2) * 100) / 100))

theorem find_kind {k : Nat} (h : k ∈ ks6) : (kinds.findIdx? fun x => x.1 == (bd k).1 && x.2 == (bd k).2).getD 0 = k := by
  simp only [List.mem_cons, List.not_mem_nil, or_false] at h
  rcases h with e | e | e | e | e | e <;> subst e <;> decide

theorem beadCost_eq {k i j : Nat} (h : k ∈ ks6) (hi : i + (bd k).1 ≤ a.length) (hj : j + (bd k).2 ≤ b.length) :
    costOf c ((a.drop i).take (bd k).1) ((b.drop j).take (bd k).2) = beadCost c a b k i j := by
  have l1 : ((a.drop i).take (bd k).1).length = (bd k).1 := by
    rw [List.length_take, List.length_drop]
    omega
  have l2 : ((b.drop j).take (bd k).2).length = (bd k).2 := by
    rw [List.length_take, List.length_drop]
    omega
  unfold costOf beadCost
  simp only [l1, l2, find_kind h]
  omega

/-- one kind more at a place -/
def wayStep (B : Nat → Nat → Option (Nat × List Nat)) (i j : Nat) (m : Option (Nat × List Nat)) (k : Nat) : Option (Nat × List Nat) :=
  match B (i + (bd k).1) (j + (bd k).2) with
  | none => m
  | some r => if keeps fx i j (bd k) = false then m else
    match m with
    | none => some (beadCost c a b k i j + r.1, k :: r.2)
    | some y => if beadCost c a b k i j + r.1 < y.1 then some (beadCost c a b k i j + r.1, k :: r.2) else some y

def bestF : Nat → Nat → Nat → Option (Nat × List Nat)
  | 0, i, j => if i = a.length ∧ j = b.length then some (0, []) else none
  | f + 1, i, j => if a.length < i ∨ b.length < j then none else if i = a.length ∧ j = b.length then some (0, []) else ks6.foldl (wayStep c fx a b (bestF f) i j) none

/-- what the best way on from a place costs, and its kinds; none: there is none -/
def best (i j : Nat) : Option (Nat × List Nat) := bestF c fx a b ((a.length - i) + (b.length - j) + 1) i j

theorem bestF_out {f i j : Nat} (h : a.length < i ∨ b.length < j) : bestF c fx a b f i j = none := by
  cases f with
  | zero => exact if_neg (by omega)
  | succ f => exact if_pos h
theorem bestF_end {f : Nat} : bestF c fx a b f a.length b.length = some (0, []) := by
  cases f with
  | zero => exact if_pos ⟨rfl, rfl⟩
  | succ f =>
    show (if a.length < a.length ∨ b.length < b.length then none else if a.length = a.length ∧ b.length = b.length then some (0, []) else _) = _
    rw [if_neg (by omega), if_pos ⟨rfl, rfl⟩]
theorem wayStep_congr {B B' : Nat → Nat → Option (Nat × List Nat)} {i j : Nat} {m : Option (Nat × List Nat)} {k : Nat} (h : B (i + (bd k).1) (j + (bd k).2) = B' (i + (bd k).1) (j + (bd k).2)) :
    wayStep c fx a b B i j m k = wayStep c fx a b B' i j m k := by
  unfold wayStep
  rw [h]
theorem bestF_more : ∀ (f i j : Nat), (a.length - i) + (b.length - j) < f → bestF c fx a b f i j = bestF c fx a b (f + 1) i j
  | 0, _, _, h => absurd h (Nat.not_lt_zero _)
  | f + 1, i, j, h => by
    show (if a.length < i ∨ b.length < j then none else if i = a.length ∧ j = b.length then some (0, []) else ks6.foldl (wayStep c fx a b (bestF c fx a b f) i j) none) = (if a.length < i ∨ b.length < j then none else if i = a.length ∧ j = b.length then some (0, []) else ks6.foldl (wayStep c fx a b (bestF c fx a b (f + 1)) i j) none)
    by_cases c1 : a.length < i ∨ b.length < j
    · rw [if_pos c1, if_pos c1]
    · rw [if_neg c1, if_neg c1]
      by_cases c2 : i = a.length ∧ j = b.length
      · rw [if_pos c2, if_pos c2]
      · rw [if_neg c2, if_neg c2]
        refine foldl_congr _ _ fun m k hk => wayStep_congr c fx a b ?_
        have hp := bd_pos hk
        by_cases c3 : a.length < i + (bd k).1 ∨ b.length < j + (bd k).2
        · rw [bestF_out c fx a b c3, bestF_out c fx a b c3]
        · exact bestF_more f _ _ (by omega)
theorem bestF_best {i j : Nat} : ∀ (d : Nat), bestF c fx a b ((a.length - i) + (b.length - j) + 1 + d) i j = best c fx a b i j
  | 0 => rfl
  | d + 1 => by
    rw [← bestF_best d]
    exact (bestF_more c fx a b ((a.length - i) + (b.length - j) + 1 + d) i j (by omega)).symm
theorem best_of {f i j : Nat} (h : (a.length - i) + (b.length - j) < f) : bestF c fx a b f i j = best c fx a b i j := by
  have : f = (a.length - i) + (b.length - j) + 1 + (f - ((a.length - i) + (b.length - j) + 1)) := by omega
  rw [this]
  exact bestF_best c fx a b _
theorem best_out {i j : Nat} (h : a.length < i ∨ b.length < j) : best c fx a b i j = none := bestF_out c fx a b h
theorem best_end : best c fx a b a.length b.length = some (0, []) := bestF_end c fx a b
/-- one place, by those behind it -/
theorem best_eq {i j : Nat} (hi : i ≤ a.length) (hj : j ≤ b.length) (h : ¬ (i = a.length ∧ j = b.length)) : best c fx a b i j = ks6.foldl (wayStep c fx a b (best c fx a b) i j) none := by
  show (if a.length < i ∨ b.length < j then none else if i = a.length ∧ j = b.length then some (0, []) else ks6.foldl (wayStep c fx a b (bestF c fx a b ((a.length - i) + (b.length - j))) i j) none) = _
  rw [if_neg (by omega), if_neg h]
  refine foldl_congr _ _ fun m k hk => wayStep_congr c fx a b ?_
  have hp := bd_pos hk
  by_cases c3 : a.length < i + (bd k).1 ∨ b.length < j + (bd k).2
  · rw [bestF_out c fx a b c3, best_out c fx a b c3]
  · exact best_of c fx a b (by omega)

/-! ### the first of the least -/
/-- the way by the kind k, if there is one -/
def cand (i j k : Nat) : Option (Nat × List Nat) := match best c fx a b (i + (bd k).1) (j + (bd k).2) with
  | none => none
  | some r => if keeps fx i j (bd k) = false then none else some (beadCost c a b k i j + r.1, k :: r.2)
end
def lessStep (cand : Nat → Option (Nat × List Nat)) (m : Option (Nat × List Nat)) (k : Nat) : Option (Nat × List Nat) := match cand k with
  | none => m
  | some w => match m with
    | none => some w
    | some y => if w.1 < y.1 then some w else some y
theorem wayStep_cand (c : Costs) (fx : List Fixed) (a b : List Sent) (i j : Nat) (m : Option (Nat × List Nat)) (k : Nat) : wayStep c fx a b (best c fx a b) i j m k = lessStep (cand c fx a b i j) m k := by
  unfold wayStep lessStep cand
  cases best c fx a b (i + (bd k).1) (j + (bd k).2) with
  | none => rfl
  | some r =>
    by_cases ck : keeps fx i j (bd k) = false
    · simp only [if_pos ck]
    · simp only [if_neg ck]
theorem less_none {cand : Nat → Option (Nat × List Nat)} : ∀ (l : List Nat) (y : Nat × List Nat), l.foldl (lessStep cand) (some y) ≠ none
  | [], y => fun h => nomatch h
  | k :: l, y => by
    rw [List.foldl_cons]
    unfold lessStep
    cases cand k with
    | none => exact less_none l y
    | some w =>
      show l.foldl (lessStep cand) (if w.1 < y.1 then some w else some y) ≠ none
      by_cases h : w.1 < y.1
      · rw [if_pos h]
        exact less_none l w
      · rw [if_neg h]
        exact less_none l y
theorem less_nil {cand : Nat → Option (Nat × List Nat)} : ∀ (l : List Nat), l.foldl (lessStep cand) none = none → ∀ k ∈ l, cand k = none
  | [], _, k, hk => nomatch hk
  | k :: l, h, k', hk => by
    rw [List.foldl_cons] at h
    cases e : cand k with
    | none =>
      have : lessStep cand none k = none := by
        unfold lessStep
        rw [e]
      rw [this] at h
      rcases List.mem_cons.mp hk with q | q
      · rw [q, e]
      · exact less_nil l h k' q
    | some w =>
      have : lessStep cand none k = some w := by
        unfold lessStep
        rw [e]
      rw [this] at h
      exact absurd h (less_none l w)
/-- what a fold by lessStep gives: what stood, or the first that costs least -/
theorem less_some {cand : Nat → Option (Nat × List Nat)} {v : Nat × List Nat} : ∀ (l : List Nat) (m : Option (Nat × List Nat)), l.foldl (lessStep cand) m = some v →
    (m = some v ∧ ∀ k ∈ l, ∀ w, cand k = some w → v.1 ≤ w.1) ∨
    (∃ k, l.find? (fun k => (cand k).any fun w => w.1 == v.1) = some k ∧ cand k = some v ∧ (∀ y, m = some y → v.1 < y.1) ∧ ∀ k ∈ l, ∀ w, cand k = some w → v.1 ≤ w.1)
  | [], m, h => .inl ⟨h, fun k hk => nomatch hk⟩
  | k :: l, m, h => by
    rw [List.foldl_cons] at h
    cases e : cand k with
    | none =>
      have em : lessStep cand m k = m := by
        unfold lessStep
        rw [e]
      rw [em] at h
      have all : (∀ k' ∈ l, ∀ w, cand k' = some w → v.1 ≤ w.1) → ∀ k' ∈ k :: l, ∀ w, cand k' = some w → v.1 ≤ w.1 := fun hl k' hk' w hw => by
        rcases List.mem_cons.mp hk' with q | q
        · rw [q, e] at hw
          cases hw
        · exact hl k' q w hw
      rcases less_some l m h with ⟨h1, h2⟩ | ⟨k1, h1, h2, h3, h4⟩
      · exact .inl ⟨h1, all h2⟩
      · refine .inr ⟨k1, ?_, h2, h3, all h4⟩
        rw [List.find?_cons_of_neg (by rw [e]; exact Bool.false_ne_true)]
        exact h1
    | some w =>
      have all : v.1 ≤ w.1 → (∀ k' ∈ l, ∀ w, cand k' = some w → v.1 ≤ w.1) → ∀ k' ∈ k :: l, ∀ w, cand k' = some w → v.1 ≤ w.1 := fun h0 hl k' hk' w' hw => by
        rcases List.mem_cons.mp hk' with q | q
        · rw [q, e] at hw
          cases hw
          exact h0
        · exact hl k' q w' hw
      have skip : v.1 < w.1 → (k :: l).find? (fun k => (cand k).any fun w => w.1 == v.1) = l.find? (fun k => (cand k).any fun w => w.1 == v.1) := fun hlt => by
        refine List.find?_cons_of_neg ?_
        rw [e]
        show ¬ (w.1 == v.1) = true
        rw [beq_iff_eq]
        omega
      have here : w = v → (k :: l).find? (fun k => (cand k).any fun w => w.1 == v.1) = some k := fun he => by
        refine List.find?_cons_of_pos ?_
        rw [e, he]
        exact beq_self_eq_true _
      cases m with
      | none =>
        have em : lessStep cand none k = some w := by
          unfold lessStep
          rw [e]
        rw [em] at h
        rcases less_some l _ h with ⟨h1, h2⟩ | ⟨k1, h1, h2, h3, h4⟩
        · cases h1
          exact .inr ⟨k, here rfl, e, (fun y q => by cases q), all (Nat.le_refl _) h2⟩
        · have lt := h3 w rfl
          exact .inr ⟨k1, (skip lt).trans h1, h2, (fun y q => by cases q), all (Nat.le_of_lt lt) h4⟩
      | some y =>
        have em : lessStep cand (some y) k = if w.1 < y.1 then some w else some y := by
          unfold lessStep
          rw [e]
        rw [em] at h
        by_cases cw : w.1 < y.1
        · rw [if_pos cw] at h
          rcases less_some l _ h with ⟨h1, h2⟩ | ⟨k1, h1, h2, h3, h4⟩
          · cases h1
            exact .inr ⟨k, here rfl, e, fun y' q => by cases q; exact cw, all (Nat.le_refl _) h2⟩
          · have lt := h3 w rfl
            exact .inr ⟨k1, (skip lt).trans h1, h2, fun y' q => by cases q; omega, all (Nat.le_of_lt lt) h4⟩
        · rw [if_neg cw] at h
          rcases less_some l _ h with ⟨h1, h2⟩ | ⟨k1, h1, h2, h3, h4⟩
          · cases h1
            exact .inl ⟨rfl, all (by omega) h2⟩
          · have lt := h3 y rfl
            exact .inr ⟨k1, (skip (by omega)).trans h1, h2, fun y' q => by cases q; exact lt, all (by omega) h4⟩

section
variable (c : Costs) (fx : List Fixed) (a b : List Sent)
theorem cellStep_out (at_ : Nat → Nat → Option Nat) (i j : Nat) (m : Option Nat) (x : Bead) (h : a.length < i + x.1 ∨ b.length < j + x.2) : cellStep c fx a b at_ i j m x = m := by
  unfold cellStep
  exact if_pos (by rcases h with h | h <;> simp [h])
/-- the two folds keep step -/
theorem folds {i j : Nat} (ih : ∀ k ∈ ks6, i + (bd k).1 ≤ a.length → j + (bd k).2 ≤ b.length → (best c fx a b (i + (bd k).1) (j + (bd k).2)).map (·.1) = cell c fx a b (i + (bd k).1) (j + (bd k).2)) :
    ∀ (l : List Nat) (m : Option (Nat × List Nat)), (∀ k ∈ l, k ∈ ks6) → ((l.foldl (wayStep c fx a b (best c fx a b) i j) m).map (·.1)) = (l.map bd).foldl (cellStep c fx a b (cell c fx a b) i j) (m.map (·.1))
  | [], _, _ => rfl
  | k :: l, m, hl => by
    have hk := hl k (List.mem_cons_self ..)
    rw [List.foldl_cons, List.map_cons, List.foldl_cons, folds ih l _ fun k' h => hl k' (List.mem_cons_of_mem _ h)]
    congr 1
    by_cases c3 : a.length < i + (bd k).1 ∨ b.length < j + (bd k).2
    · rw [cellStep_out c fx a b _ i j _ _ c3]
      unfold wayStep
      rw [best_out c fx a b c3]
    · have e := ih k hk (by omega) (by omega)
      unfold wayStep cellStep
      by_cases ck : keeps fx i j (bd k) = false
      · rw [if_pos (.inr (.inr ck))]
        cases best c fx a b (i + (bd k).1) (j + (bd k).2) with
        | none => rfl
        | some r =>
          show Option.map (·.1) (if keeps fx i j (bd k) = false then m else _) = _
          rw [if_pos ck]
      · rw [if_neg (by
          intro q
          rcases q with q | q | q
          · exact c3 (.inl q)
          · exact c3 (.inr q)
          · exact ck q), ← e, beadCost_eq c a b hk (by omega) (by omega)]
        cases best c fx a b (i + (bd k).1) (j + (bd k).2) with
        | none => rfl
        | some r =>
          show Option.map (·.1) (if keeps fx i j (bd k) = false then m else _) = _
          rw [if_neg ck]
          cases m with
          | none =>
            show some (beadCost c a b k i j + r.1) = some (r.1 + beadCost c a b k i j)
            rw [Nat.add_comm]
          | some y =>
            show Option.map (·.1) (if beadCost c a b k i j + r.1 < y.1 then some (beadCost c a b k i j + r.1, k :: r.2) else some y) = some (min y.1 (r.1 + beadCost c a b k i j))
            by_cases q : beadCost c a b k i j + r.1 < y.1
            · rw [if_pos q]
              show some (beadCost c a b k i j + r.1) = _
              congr 1
              omega
            · rw [if_neg q]
              show some y.1 = _
              congr 1
              omega

theorem best_cell : ∀ (d i j : Nat), (a.length - i) + (b.length - j) ≤ d → i ≤ a.length → j ≤ b.length → (best c fx a b i j).map (·.1) = cell c fx a b i j := by
  intro d
  induction d with
  | zero =>
    intro i j h hi hj
    have e1 : i = a.length := by omega
    have e2 : j = b.length := by omega
    subst e1 e2
    rw [best_end, cell_eq c fx a b (Nat.le_refl _) (Nat.le_refl _), if_pos ⟨rfl, rfl⟩]
    rfl
  | succ d ihd =>
    intro i j h hi hj
    by_cases ce : i = a.length ∧ j = b.length
    · obtain ⟨e1, e2⟩ := ce
      subst e1 e2
      rw [best_end, cell_eq c fx a b (Nat.le_refl _) (Nat.le_refl _), if_pos ⟨rfl, rfl⟩]
      rfl
    · rw [best_eq c fx a b hi hj ce, cell_eq c fx a b hi hj, if_neg ce]
      have := folds c fx a b (i := i) (j := j) (fun k hk h1 h2 => ihd _ _ (by have := bd_pos hk; omega) h1 h2) ks6 none fun k hk => hk
      exact this
theorem best_cell' {i j : Nat} (hi : i ≤ a.length) (hj : j ≤ b.length) : (best c fx a b i j).map (·.1) = cell c fx a b i j := best_cell c fx a b _ i j (Nat.le_refl _) hi hj

theorem find_map {α β : Type} (f : α → β) (p : β → Bool) : ∀ l : List α, (l.map f).find? p = (l.find? fun x => p (f x)).map f
  | [] => rfl
  | x :: l => by
    rw [List.map_cons]
    by_cases h : p (f x) = true
    · rw [List.find?_cons_of_pos h, List.find?_cons_of_pos (p := fun x => p (f x)) h]
      rfl
    · rw [List.find?_cons_of_neg h, List.find?_cons_of_neg (p := fun x => p (f x)) h]
      exact find_map f p l
theorem find_congr {α : Type} {p q : α → Bool} : ∀ (l : List α), (∀ x ∈ l, p x = q x) → l.find? p = l.find? q
  | [], _ => rfl
  | x :: l, h => by
    have hx := h x (List.mem_cons_self ..)
    have ih := find_congr l fun y hy => h y (List.mem_cons_of_mem _ hy)
    by_cases c : p x = true
    · rw [List.find?_cons_of_pos c, List.find?_cons_of_pos (by rw [← hx]; exact c)]
    · rw [List.find?_cons_of_neg c, List.find?_cons_of_neg (by rw [← hx]; exact c)]
      exact ih

/-- the beads of the way from a place -/
def way (i j : Nat) : Laying := match best c fx a b i j with
  | none => []
  | some r => r.2.map bd
theorem lay_way : ∀ (f i j : Nat), (a.length - i) + (b.length - j) < f → i ≤ a.length → j ≤ b.length → layFrom c fx a b (rest c fx a b) f i j = way c fx a b i j
  | 0, _, _, h, _, _ => absurd h (Nat.not_lt_zero _)
  | f + 1, i, j, h, hi, hj => by
    have hc := best_cell' c fx a b hi hj
    show (match cell c fx a b i j with
      | none => []
      | some n => if i = a.length ∧ j = b.length then [] else match kinds.find? fun x => decide (i + x.1 ≤ a.length) && (decide (j + x.2 ≤ b.length) && (keeps fx i j x && ((cell c fx a b (i + x.1) (j + x.2)).any fun r => r + costOf c ((a.drop i).take x.1) ((b.drop j).take x.2) == n))) with
        | none => []
        | some x => x :: layFrom c fx a b (rest c fx a b) f (i + x.1) (j + x.2)) = way c fx a b i j
    unfold way
    rw [← hc]
    by_cases ce : i = a.length ∧ j = b.length
    · obtain ⟨e1, e2⟩ := ce
      subst e1 e2
      rw [best_end]
      show (if a.length = a.length ∧ b.length = b.length then [] else _) = _
      rw [if_pos ⟨rfl, rfl⟩]
      rfl
    · cases eb : best c fx a b i j with
      | none => rfl
      | some v =>
        show (if i = a.length ∧ j = b.length then [] else _) = v.2.map bd
        rw [if_neg ce]
        have hb := eb
        rw [best_eq c fx a b hi hj ce] at hb
        have hb2 : ks6.foldl (lessStep (cand c fx a b i j)) none = some v := by
          rw [← hb]
          exact foldl_congr _ _ fun m k _ => (wayStep_cand c fx a b i j m k).symm
        rcases less_some ks6 none hb2 with ⟨q, _⟩ | ⟨k, hf, hk, _, _⟩
        · cases q
        · have hmem : k ∈ ks6 := List.mem_of_find?_eq_some hf
          have hp := bd_pos hmem
          have efind : (kinds.find? fun x => decide (i + x.1 ≤ a.length) && (decide (j + x.2 ≤ b.length) && (keeps fx i j x && ((cell c fx a b (i + x.1) (j + x.2)).any fun r => r + costOf c ((a.drop i).take x.1) ((b.drop j).take x.2) == v.1)))) = some (bd k) := by
            rw [kinds_bd, find_map]
            have : (ks6.find? fun k => decide (i + (bd k).1 ≤ a.length) && (decide (j + (bd k).2 ≤ b.length) && (keeps fx i j (bd k) && ((cell c fx a b (i + (bd k).1) (j + (bd k).2)).any fun r => r + costOf c ((a.drop i).take (bd k).1) ((b.drop j).take (bd k).2) == v.1)))) = some k := by
              rw [← hf]
              refine find_congr _ fun k' hk' => ?_
              unfold cand
              by_cases c3 : a.length < i + (bd k').1 ∨ b.length < j + (bd k').2
              · rw [best_out c fx a b c3]
                rcases c3 with c3 | c3
                · rw [decide_eq_false (by omega), Bool.false_and]
                  rfl
                · rw [decide_eq_false (p := j + (bd k').2 ≤ b.length) (by omega), Bool.false_and, Bool.and_false]
                  rfl
              · rw [decide_eq_true (p := i + (bd k').1 ≤ a.length) (by omega), decide_eq_true (p := j + (bd k').2 ≤ b.length) (by omega), Bool.true_and, Bool.true_and, ← best_cell' c fx a b (by omega) (by omega),
                  beadCost_eq c a b hk' (by omega) (by omega)]
                cases best c fx a b (i + (bd k').1) (j + (bd k').2) with
                | none => exact Bool.and_false _
                | some r =>
                  by_cases ck : keeps fx i j (bd k') = false
                  · rw [ck]
                    rfl
                  · have ck' : keeps fx i j (bd k') = true := by
                      cases q : keeps fx i j (bd k') with
                      | false => exact absurd q ck
                      | true => rfl
                    rw [ck', Bool.true_and]
                    show (r.1 + beadCost c a b k' i j == v.1) = Option.any (fun w => w.1 == v.1) (if true = false then none else some (beadCost c a b k' i j + r.1, k' :: r.2))
                    rw [if_neg (by decide), Nat.add_comm]
                    rfl
            rw [this]
            rfl
          rw [efind]
          have hr : ∃ r, best c fx a b (i + (bd k).1) (j + (bd k).2) = some r ∧ v.2 = k :: r.2 := by
            unfold cand at hk
            cases er : best c fx a b (i + (bd k).1) (j + (bd k).2) with
            | none =>
              rw [er] at hk
              cases hk
            | some r =>
              rw [er] at hk
              refine ⟨r, rfl, ?_⟩
              by_cases ck : keeps fx i j (bd k) = false
              · simp only [if_pos ck] at hk
                cases hk
              · simp only [if_neg ck] at hk
                rw [← Option.some.inj hk]
          obtain ⟨r, er, ev⟩ := hr
          have hin : ¬ (a.length < i + (bd k).1 ∨ b.length < j + (bd k).2) := fun q => by
            rw [best_out c fx a b q] at er
            cases er
          show bd k :: layFrom c fx a b (rest c fx a b) f (i + (bd k).1) (j + (bd k).2) = v.2.map bd
          rw [lay_way f _ _ (by omega) (by omega) (by omega), ev]
          unfold way
          rw [er]
          rfl

theorem least_best : least c fx a b = (best c fx a b 0 0).map (·.1) := (best_cell' c fx a b (Nat.zero_le _) (Nat.zero_le _)).symm
theorem lay_best : lay c fx a b = way c fx a b 0 0 := lay_way c fx a b _ 0 0 (by omega) (Nat.zero_le _) (Nat.zero_le _)
end
end Sy

/-! Rules that the layer lacks: enumerate over a tuple; a dict's display with tuple keys; remove of a pair. -/
namespace Sy
open PySem PySem.Spec PyProof.Rows L2

/-! ### enumerate over a tuple -/
set_option maxHeartbeats 1000000 in
theorem enum_new1 {v : Value} {ob : Obj} {Ok : Heap → Prop} (B : Begins v ob Ok) :
    Meets (Builtin.«enumerate.__new__» ⟨[.type "enumerate", v], []⟩) fun _ R s => Ok s.heap ∧
      R (.ok (.ret (.ref (s.heap.push ob).objs.size)))
        { s with heap := (s.heap.push ob).push { cls := .type "enumerate", data := .fields #[.none, .bool false, .ref s.heap.objs.size, rawInt 0, .none, .none] } } :=
  .of_wp fun prog w A R s hh => by
    obtain ⟨h0, g0, d0, t0, o0⟩ := s
    obtain ⟨hok, hr⟩ := hh
    have issub := sub_enumerate
    have start_ : ∀ {A' : Around} {E : Value → Shared → Prop} {Q : Value → Shared → Prop}, Q (.ref h0.objs.size) ⟨h0.push ob, g0, d0, t0, o0⟩ → wpAny (model prog w) A' (pyIter v) Q E ⟨h0, g0, d0, t0, o0⟩ :=
      fun q => B.iter prog w _ _ ⟨h0, g0, d0, t0, o0⟩ _ hok q
    wp_walk using start_
    refine wpAny_stack_any fun _ => wpAny_pure ?_
    split
    · rename_i cc _ _ _ _ _
      cases (cc == Value.type "enumerate") <;> (wp_walk using start_; exact ⟨_, rfl, hr⟩)
    · wp_walk using start_
      exact ⟨_, rfl, hr⟩
section
variable {prog : Program} {w : World} {A : Around} {E : Value → Shared → Prop} {s : Shared}
theorem enum_made {v : Value} {ob : Obj} {Ok : Heap → Prop} {Q : Value → Shared → Prop} (B : Begins v ob Ok) (hok : Ok s.heap)
    (hq : ∀ h1, IsEnum h1 (s.heap.objs.size + 1) s.heap.objs.size 0 .none → h1.get? s.heap.objs.size = some ob →
      (∀ b u, s.heap.get? b = some u → h1.get? b = some u) → Q (.ref (s.heap.objs.size + 1)) { s with heap := h1 }) :
    wpAny (model prog w) A (call (.type "enumerate") [v]) Q E s := by
  refine callType_new F.called_enumerate (by decide) (F.typeCall_enumerate_1 _) (F.newCall_enumerate_1 _) (fun ob => F.args_object_init_2 ob _) F.entry_enumerate_new (enum_new1 B) ⟨hok, ?_⟩
  have sz : (s.heap.push ob).objs.size = s.heap.objs.size + 1 := Heap.size_push ..
  have ie : IsEnum ((s.heap.push ob).push { cls := .type "enumerate", data := .fields #[.none, .bool false, .ref s.heap.objs.size, rawInt 0, .none, .none] }) (s.heap.objs.size + 1) s.heap.objs.size 0 .none := by
    have top := Heap.get?_push_size (s.heap.push ob) (o := { cls := .type "enumerate", data := .fields #[.none, .bool false, .ref s.heap.objs.size, rawInt 0, .none, .none] }) rfl
    rw [sz] at top
    exact top
  show _ ∧ _
  rw [sz]
  exact ⟨⟨_, ie, rfl⟩, hq _ ie (Heap.get?_push_of_some _ (Heap.get?_push_size _ B.free)) fun b u e => Heap.get?_push_of_some _ (Heap.get?_push_of_some _ e)⟩
end
/-- the tuple at a, each item in a new pair with its number -/
def ItE (K : PySem.W.Frag) (a : Addr) : It :=
  ⟨fun i H => ∃ (xs : List V) (x : V), SqT K H a xs ∧ xs[i]? = some x,
    fun i H v H' => ∃ T x, v = .ref T ∧ H T = none ∧ H' = upd H T (.tup [.int (i : Nat), x]) ∧ ∀ xs, SqT K H a xs → xs[i]? = some x,
    fun i H => ∃ xs : List V, SqT K H a xs ∧ i = xs.length⟩
theorem turn_enumTup {P : Program} {w : World} {K : PySem.W.Frag} {elts : List Expr} {kk : Nat} {tpos : Pos} (a e it : Addr) :
    Turn P w K (.Tuple elts kk tpos) (ItE K a) [e, it] e (fun i h => (∃ old, IsEnum h e it ((i : Nat) : Int) old) ∧ h.IsTupleIter it a i ∧ e ≠ it ∧ a ≠ it ∧ e ≠ a) where
  mem := by simp
  obj := fun i h st b hb => by
    obtain ⟨⟨old, he⟩, ⟨o, ho, hc, hd⟩, _⟩ := st
    rcases (show b = e ∨ b = it by simpa using hb) with z | z <;> subst z
    · exact ⟨_, he, fun v q => nomatch q⟩
    · exact ⟨o, ho, fun v q => by rw [hd] at q; cases q⟩
  keep := fun i h h' st k => by
    obtain ⟨⟨old, he⟩, hi, n1, n2, n3⟩ := st
    exact ⟨⟨old, k e (by simp) _ he⟩, hi.at fun o q => k it (by simp) o q, n1, n2, n3⟩
  item := by
    intro X hP hw hK hc i pins s σ H E I hf st hg
    subst hP hw hK
    obtain ⟨⟨old, he⟩, hit, n1, n2, n3⟩ := st
    obtain ⟨xs, x, hq, hx⟩ := hg
    obtain ⟨its, rv, p, hz⟩ := I.tuple hq
    obtain ⟨u, hu, ru⟩ := rv.get hx
    have tu : s.heap.IsTuple a its.toArray := p
    have ltE : e < s.heap.objs.size := Heap.lt_size he
    have ltI : it < s.heap.objs.size := by
      obtain ⟨_, q, _⟩ := hit
      exact Heap.lt_size q
    have notIn : e ∉ [it, a] := by
      simp only [List.mem_cons, List.not_mem_nil, or_false]
      rintro (q | q)
      · exact n1 q
      · exact n3 q
    have small : i < its.toArray.size := by
      have := (List.getElem?_eq_some_iff.mp hu).1
      simpa using this
    refine wpAny_pyNext_enum_itemD (Draws.tuple (show X.A.in1.handled = none from I.ok.hd hc) it a n2 its.toArray) he ⟨hit, tu⟩ small n1 notIn fun x' h1 tk hx' ho st1 hT hsz hk => ?_
    have ex : x' = u := by
      have q1 : its.toArray[i]? = some x' := hx'
      have q2 : its.toArray[i]? = some u := by simpa using hu
      rw [q2] at q1
      exact (Option.some.inj q1).symm
    subst ex
    refine ⟨_, rfl, wpAny_letOwnedTupleGo_enum (s := { s with heap := h1, toks := tk + 1 }) ho fun h2 he2 sb => ?_⟩
    have hT2 : h2.get? s.heap.objs.size = some { cls := .type "tuple", data := .seq #[.int i tk, x'] } := (sb.2 _ (Nat.ne_of_gt ltE)).trans hT
    have new : ObjOk X.prog X.w (upd H s.heap.objs.size (.tup [.int (i : Nat), x])) h2 s.heap.objs.size (.tup [.int (i : Nat), x]) :=
      ⟨by show 2 ≤ sizeLine; decide, [.int i tk, x'], .cons ⟨_, rfl⟩ (.cons ru .nil), ⟨_, hT2, rfl, _, rfl⟩⟩
    have I1 : Inv X pins σ (upd H s.heap.objs.size (.tup [.int (i : Nat), x])) { s with heap := h2, toks := tk + 1 } :=
      I.turnedNew (ch := [e, it]) (fun b ob hb q => (sb.2 b (fun z => hb (by simp [z]))).trans (hk b ob (fun z => hb (by simp [z])) (fun z => hb (by simp [z])) q)) hf (Nat.le_refl _) new
    refine ⟨.ref s.heap.objs.size, _, I1, rfl, ⟨_, x, rfl, I.hok.fresh (Nat.le_refl _), rfl, fun ys hy => by rw [I.tuple_inj hy hq]; exact hx⟩, ⟨⟨x', ?_⟩, st1.1.at fun o q => (sb.2 it (Ne.symm n1)).trans q, n1, n2, n3⟩, fun b hb => ?_⟩
    · have e1 : ((i + 1 : Nat) : Int) = (i : Int) + 1 := by omega
      rw [e1]
      exact he2
    · have lt : b < s.heap.objs.size := by
        rcases (show b = e ∨ b = it by simpa using hb) with z | z <;> subst z <;> assumption
      rw [upd_ne (Nat.ne_of_lt lt)]
      exact (hf b hb).1
  done := by
    intro X hP hw hK hc i pins s σ H E I hf st hg
    subst hP hw hK
    obtain ⟨⟨old, he⟩, hit, n1, n2, n3⟩ := st
    obtain ⟨xs, hq, hx⟩ := hg
    obtain ⟨its, rv, p, hz⟩ := I.tuple hq
    have tu : s.heap.IsTuple a its.toArray := p
    obtain ⟨f0, f1, f2, f3, f4, f5⟩ := hf it (by simp)
    have len : i = its.toArray.size := by
      rw [hx, rv.length]
      simp
    subst len
    exact wpAny_pyNext_enum_endD (Draws.tuple (show X.A.in1.handled = none from I.ok.hd hc) it a n2 its.toArray) he ⟨hit, tu⟩ fun h' eb => ⟨rfl, I.turned (t' := s.toks) (fun b o hb q => eb b o hb q) f0 f1 f3 f4 f5⟩
  self := fun A i s Q E st h => let ⟨⟨_, he⟩, _⟩ := st; wpAny_pyIter_enum he h
def iEnumT (K : PySem.W.Frag) (ta : TA) : TI := fun σ H R => ta σ H fun vs H1 => ∃ a xs, vs = [.ref a] ∧ SqT K H1 a xs ∧ R (ItE K a) H1
theorem pi_enumTup {X : Cx} {e : Expr} {ta : TA} {p pos tpos : Pos} {elts : List Expr} {kk : Nat} (hg : Gl X "enumerate") (hm : X.mg "enumerate" = none) (ha : PA X [e] ta)
    (hs : starEach [e] X.env = [(false, eval e X.env)] := by rfl) : PI X (.Tuple elts kk tpos) (.Call (.Name "enumerate" p) [e] [] pos) (iEnumT X.K ta) := by
  refine ⟨fun pins s σ H R I h => ?_⟩
  refine Call_ (ld_blt I hg hm boot_enumerate (PyProof.Rows.callWith_type1 (thn (ha.run pos pins s σ H _ I h) fun us s1 ⟨vs, H1, I1, r1, q1⟩ => ?_) hs rfl))
  obtain ⟨a, xs, ex, hq, q⟩ := q1
  subst ex
  cases r1 with
  | cons r rr =>
    cases rr
    cases r
    obtain ⟨its, rv, p', hz⟩ := I1.tuple hq
    have tu : s1.heap.IsTuple a its.toArray := p'
    have lta : a < s1.heap.objs.size := by
      obtain ⟨_, q, _⟩ := tu
      exact Heap.lt_size q
    refine enum_made (begins_tuple a its.toArray) tu fun h1 ie hit hk => wpAny_pyIter_enum ie ?_
    have I2 : Inv X pins σ H1 { s1 with heap := h1 } := I1.kept (t' := s1.toks) hk
    refine ⟨s1.heap.objs.size + 1, [s1.heap.objs.size + 1, s1.heap.objs.size], _, _, H1, rfl, I2, turn_enumTup a (s1.heap.objs.size + 1) s1.heap.objs.size,
      ⟨⟨.none, ie⟩, ⟨_, hit, rfl, rfl⟩, Nat.succ_ne_self _, Nat.ne_of_lt lta, Nat.ne_of_gt (Nat.lt_succ_of_lt lta)⟩, fun b hb => ?_, q⟩
    have le : s1.heap.objs.size ≤ b := by
      rcases (show b = s1.heap.objs.size + 1 ∨ b = s1.heap.objs.size by simpa using hb) with z | z <;> subst z
      · exact Nat.le_add_right _ _
      · exact Nat.le_refl _
    exact I1.fpOk le (I1.hok.fresh le)
theorem walk_enumT {K : PySem.W.Frag} {a : Addr} {xs : List V} : Walk (ItE K a) xs.length (fun H => SqT K H a xs) (YPair (fun i => some (.int (i : Nat))) (fun i => xs[i]?)) :=
  ⟨fun i _ hi q => ⟨xs, xs[i], q, by simp [hi]⟩, fun _ q => ⟨xs, q, rfl⟩, fun i _ _ _ _ q y => let ⟨T, x, h1, h2, h3, h4⟩ := y; ⟨T, .int (i : Nat), x, h1, h2, h3, rfl, h4 xs q⟩⟩

/-! ### an own error without arguments -/
theorem pmk_own0 {X : Cx} {C : Addr} {bmB : List Value} {B newId initId : String} {x : Str} {p pos : Pos} (F : ExcBaseFacts B newId initId bmB) (q : PySem.W.excIn X.K C bmB newId = true) (gC : X.mg x = some (.ref C)) (kC : PySem.W.keepIn X.K (.ref C) = true)
    (r : Raises X (.ref C)) (hg : Gl X x) (hdb : (x == ("__debug__" : Str)) = false := by decide) : PMk X (.Call (.Name x p) [] [] pos) (fun _ H Q => Q (.ref C) none H) := by
  intro pins s σ H Q I h
  refine wpAny_Call_Name_kw (ld_glob I hg gC ?_ hdb)
  refine PySem.W.callWith_K0 I.kIn kC ?_
  obtain ⟨bm, N, nm, qn, bs, hdct, sn, sub, ab, col, dd, k0, k1, k2, k3, k5, mN, hC, hN, hni, T⟩ := exc_obj I.kIn q
  exact wpAny_call_exc_subT F T hC hN hni (fun h1 e hm => mk_of I hm r h (I.hok.gone hm.new)) (Nat.zero_le _)

/-! ### {(a, b): v}, the keys tuples; the new dict stands empty while the pair is made -/
def tDispT (tk tv : TE) : TE := fun σ H Q => ∀ p, H p = none → tk σ (upd H p (.dT [])) fun x H1 => tv σ H1 fun y H2 => ∃ (k : List Key) (b : Addr), x = .ref b ∧ H2 p = some (.dT []) ∧ H2 b = some (.tup (k.map kV)) ∧ Q (.ref p) (upd H2 p (.dT [(k, y)]))
theorem pe_dispT {X : Cx} {pos : Pos} {k v : Expr} {tk tv : TE} (hu : X.A.units < cLine) (hk : PE X k tk) (hv : PE X v tv) : PE X (.Dict [some k] [v] pos) (tDispT tk tv) := by
  refine ⟨fun pins s σ H Q I q => ?_⟩
  have fresh := I.hok.fresh (Nat.le_refl s.heap.objs.size)
  have I1 := I.laid (a := s.heap.objs.size) (o := .dT []) (h' := s.heap.push { cls := .type "dict", data := .dict #[] }) (t' := s.toks) (fun _ _ q => Heap.get?_push_of_some _ q) (Nat.le_refl _) (dt_empty s.heap I.big)
  refine wpAny_Dict_any rfl rfl (by simp) (by simp) (pairTrees_cons_walk (thn (hk.run pins _ σ _ _ I1 (q _ fresh)) fun u s1 ⟨x, H1, I1', rx, q1⟩ => thn (hv.run pins s1 σ H1 _ I1' q1) fun r s2 ⟨y, H2, I2, ry, kk, b, ex, hp, hb, q2⟩ => pairTrees_nil_walk ?_))
  subst ex
  cases (show u = Value.ref b from rx)
  show wpAny _ _ (storeAll s.heap.objs.size [(Value.ref b, r)]) _ _ s2
  unfold storeAll
  rw [List.forIn_cons]
  obtain ⟨z, hd, xs, rel, dd⟩ := dt_of I2.hok hp
  have hz : xs.length ≤ sizeLine := by
    rw [← Paired.length rel]
    exact z
  refine wpAny_bind (wpAny_bind (wpAny_dictSet_heap (hsz := hz) hu (key_of I2.hok hb) dd fun h1 dd1 hs => wpAny_pure ?_))
  show wpAny _ _ (forIn ([] : List (Value × Value)) PUnit.unit _) _ _ _
  rw [List.forIn_nil]
  refine wpAny_pure ?_
  obtain ⟨ob, es, ep, g1, g2, g3, g4, _, g5⟩ := dd1
  have one : ([(kk, y)] : List (List Key × V)).length ≤ sizeLine := by show 1 ≤ sizeLine; decide
  have keeps : KT (upd H2 s.heap.objs.size (.dT [(kk, y)])) [(kk, y)] _ := (show KT H2 (putK [] kk y) _ from rel.put kk hb ry).keeps fun c ys ec => by
    rw [upd_ne (ne_of ec hp (fun z => nomatch z))]
    exact ec
  have new : ObjOk X.prog X.w (upd H2 s.heap.objs.size (.dT [(kk, y)])) h1 s.heap.objs.size (.dT [(kk, y)]) := ⟨one, hd, _, keeps, ob, es, ep, g1, g2, g3, g4, g5⟩
  exact ⟨.ref s.heap.objs.size, _, d_write I2 (by rw [hp]; exact True.intro) hs ⟨ob, g1⟩ new, rfl, q2⟩

/-! ### l.remove(t), the items tuples of ints -/
def dPair (f : Nat × Nat) : PyData := .tuple [.int f.1, .int f.2]
def rRemD (K : PySem.W.Frag) : V → List V → Hp → VK → Prop := fun x xs H Q => ∃ (l : Addr) (y : V) (vs : List V) (fs : List (Nat × Nat)) (f : Nat × Nat) (j : Nat), x = .ref l ∧ xs = [y] ∧ H l = some (.lst vs) ∧
  DpAll K H vs (fs.map dPair) ∧ Dp K H y (dPair f) ∧ (fs.findIdx? fun g => decide (g = f)) = some j ∧ Q .non (upd H l (.lst (vs.eraseIdx j)))
theorem dPair_eqv (f g : Nat × Nat) : PyData.eqv (dPair f) (dPair g) = decide (f = g) := by
  obtain ⟨a, b⟩ := f
  obtain ⟨c, d⟩ := g
  have eq1 : ((a : Int) == (c : Int)) = decide (a = c) := by
    by_cases e : a = c
    · simp [e]
    · rw [decide_eq_false e]
      exact beq_eq_false_iff_ne.mpr (by omega)
  have eq2 : ((b : Int) == (d : Int)) = decide (b = d) := by
    by_cases e : b = d
    · simp [e]
    · rw [decide_eq_false e]
      exact beq_eq_false_iff_ne.mpr (by omega)
  simp [dPair, PyData.eqv, PyData.eqvAll, eq1, eq2]
theorem dPairs_plain : ∀ fs : List (Nat × Nat), PyData.plainAll (fs.map dPair) = true
  | [] => rfl
  | f :: fs => by
    have ih := dPairs_plain fs
    simp [dPair, PyData.plainAll, PyData.plain, ih]
theorem dPair_depth (f : Nat × Nat) : (dPair f).depth = 1 := by simp [dPair, PyData.depth, PyData.depthAll]
theorem dPairs_depth : ∀ fs : List (Nat × Nat), PyData.depthAll (fs.map dPair) ≤ 1
  | [] => by simp [PyData.depthAll]
  | f :: fs => by
    have ih := dPairs_depth fs
    have h1 := dPair_depth f
    simp only [List.map_cons, PyData.depthAll]
    omega
theorem dPairs_lay : ∀ fs : List (Nat × Nat), PyData.canLayAll0 (fs.map dPair) = true
  | [] => by simp [PyData.canLayAll0]
  | f :: fs => by simp [PyData.canLayAll0, dPair, PyData.canLay0, dPairs_lay fs]
theorem dPair_shaped (f : Nat × Nat) : SeqAt.shaped (dPair f) = true := by
  have h := dPair_depth f
  have h2 : (dPair f).canLay0 = true := by simp [dPair, PyData.canLay0, PyData.canLayAll0]
  unfold SeqAt.shaped
  rw [h2, h]
  rfl
theorem dPairs_shaped (fs : List (Nat × Nat)) : SeqAt.shaped (.list (fs.map dPair)) = true := by
  have h1 := dPairs_depth fs
  have h2 : PyData.depth (.list (fs.map dPair)) ≤ 64 := by
    simp only [PyData.depth]
    omega
  have h3 : PyData.canLay0 (.list (fs.map dPair)) = true := by
    simp only [PyData.canLay0]
    exact dPairs_lay fs
  unfold SeqAt.shaped
  rw [h3, decide_eq_true h2]
  rfl
theorem dPairs_place (fs : List (Nat × Nat)) (f : Nat × Nat) : SeqAt.dataPlace (fs.map dPair) (dPair f) = fs.findIdx? fun g => decide (g = f) := by
  unfold SeqAt.dataPlace
  rw [List.findIdx?_map]
  congr 1
  funext g
  exact dPair_eqv g f
theorem mt_removeD {X : Cx} (hu : X.A.units + 65 < cLine) : MtM X "list.remove" (rRemD X.K) := by
  intro pins s σ H x xs v us Q I rx rxs h
  obtain ⟨l, y, vs, fs, f, j, rfl, rfl, hH, hall, hy, hj, q⟩ := h
  cases rx
  obtain ⟨u, rfl, ru⟩ := rxs.one
  obtain ⟨z, its, n, r, hl, e⟩ := I.lstM hH
  obtain ⟨as, ra⟩ := Dp.readsAll I _ _ _ hall r
  obtain ⟨bs, rb⟩ := Dp.reads I _ _ _ hy ru
  refine SeqAt.remove_list_data (vs := its.toArray) (xs := fs.map dPair) (d := dPair f) (j := j) ⟨_, e, rfl, n, rfl⟩ (by simpa using ra) rb (dPairs_plain fs) rfl ?_ ((dPairs_place fs f).trans hj) (by simpa using (by omega : its.length ≤ sizeLine)) ?_
  · exact room_in_shaped (xs := fs.map dPair) (dPair_shaped f) hu
  · refine ⟨.non, _, I.lset (its' := its.eraseIdx j) (t' := s.toks) hH e ?_ (r.eraseIdx j) ?_, rfl, q⟩
    · show its.toArray.eraseIdxIfInBounds j = (its.eraseIdx j).toArray
      rw [List.eraseIdxIfInBounds_toArray]
    · have := len_erase vs j
      omega
end Sy

/-! The program's text by places, what its top has written, how the document's things lie in the heap. -/
namespace Sy
open PySem PySem.Spec PyProof.Rows L2

def top (i : Nat) : Stmt := PySem.Challenge.pw_sidebysideyard_s01_answers.main.body.getD i (.Pass ⟨0, 0, 0, 0⟩)

/-- the addresses of what the top has written -/
structure Ads where
  CS : Addr
  CY : Addr
  CU : Addr
  CN : Addr
  CA : Addr
  CL : Addr
  CF : Addr
  kT : Addr
  ks : List Addr
  pT : Addr
  rT : Addr

/-- an own error class -/
structure ErrC (K : PySem.W.Frag) (mg : Str → Option Value) (x : Str) (C : Addr) : Prop where
  g : mg x = some (.ref C)
  x : PySem.W.excIn K C [.type "Exception", .type "BaseException", .type "object"] "Exception.__new__" = true
  k : PySem.W.keepIn K (.ref C) = true
  b : PySem.W.subIn K (.ref C) (.type "BaseException") = some true
  t : PySem.W.typeIn K (.ref C) = some (.type "type")

/-! ### small words -/
theorem lk_here {k : Str} {v : V} {r : List (Str × V)} : List.lookup k ((k, v) :: r) = some v := by
  have e : (k == k) = true := beq_self_eq_true k
  simp only [List.lookup, e]
theorem lk_past {k g : Str} {v : V} {r : List (Str × V)} (h : (k == g) = false) : List.lookup k ((g, v) :: r) = List.lookup k r := by
  simp only [List.lookup, h]
theorem put_here {f : Str} {v x : V} {r : List (Str × V)} : putF f v ((f, x) :: r) = (f, v) :: r := if_pos rfl
theorem put_past {f g : Str} {v x : V} {r : List (Str × V)} (h : ¬ g = f) : putF f v ((g, x) :: r) = (g, x) :: putF f v r := if_neg h
theorem if_true_of {c : Bool} {A B : Prop} (hc : c = true) (h : A) : if c = true then A else B := by
  rw [if_pos hc]
  exact h
theorem if_false_of {c : Bool} {A B : Prop} (hc : c = false) (h : B) : if c = true then A else B := by
  rw [hc, if_neg Bool.false_ne_true]
  exact h
theorem if_dec {p : Prop} [Decidable p] {A B : Prop} (h1 : p → A) (h2 : ¬ p → B) : if decide p = true then A else B := by
  by_cases h : p
  · exact if_true_of (decide_eq_true h) (h1 h)
  · exact if_false_of (decide_eq_false h) (h2 h)
theorem if_bool {b : Bool} {A B : Prop} (h1 : b = true → A) (h2 : b = false → B) : if b = true then A else B := by
  cases b with
  | true => exact if_true_of rfl (h1 rfl)
  | false => exact if_false_of rfl (h2 rfl)
abbrev nv (n : Nat) : V := .int n
theorem take_more {α : Type} : ∀ {l : List α} {i : Nat} {x : α}, l[i]? = some x → l.take (i + 1) = l.take i ++ [x]
  | [], i, x, h => by simp at h
  | a :: l, 0, x, h => by
    have e : a = x := Option.some.inj h
    subst e
    rfl
  | a :: l, i + 1, x, h => by
    have ih := take_more (l := l) (i := i) (x := x) h
    show a :: l.take (i + 1) = a :: l.take i ++ [x]
    rw [ih]
    rfl

/-! ### lists of things that stand in the heap -/
theorem paired_at {α β : Type} {F : α → β → Prop} : ∀ {xs : List α} {ys : List β} {i : Nat} {x : α}, Paired F xs ys → xs[i]? = some x → ∃ y, ys[i]? = some y ∧ F x y
  | _, _, _, _, .nil, h => by simp at h
  | _, _, 0, _, .cons q _, h => by
    cases Option.some.inj h
    exact ⟨_, rfl, q⟩
  | _, _, i + 1, x, .cons _ r, h => paired_at (i := i) r h
theorem paired_at' {α β : Type} {F : α → β → Prop} : ∀ {xs : List α} {ys : List β} {i : Nat} {y : β}, Paired F xs ys → ys[i]? = some y → ∃ x, xs[i]? = some x ∧ F x y
  | _, _, _, _, .nil, h => by simp at h
  | _, _, 0, _, .cons q _, h => by
    cases Option.some.inj h
    exact ⟨_, rfl, q⟩
  | _, _, i + 1, y, .cons _ r, h => paired_at' (i := i) r h
theorem paired_take {α β : Type} {F : α → β → Prop} : ∀ {xs : List α} {ys : List β} (n : Nat), Paired F xs ys → Paired F (xs.take n) (ys.take n)
  | _, _, 0, _ => .nil
  | _, _, _ + 1, .nil => .nil
  | _, _, n + 1, .cons q r => .cons q (paired_take n r)
theorem paired_drop {α β : Type} {F : α → β → Prop} : ∀ {xs : List α} {ys : List β} (n : Nat), Paired F xs ys → Paired F (xs.drop n) (ys.drop n)
  | _, _, 0, r => r
  | _, _, _ + 1, .nil => .nil
  | _, _, n + 1, .cons _ r => paired_drop n r
theorem paired_append {α β : Type} {F : α → β → Prop} : ∀ {xs xs' : List α} {ys ys' : List β}, Paired F xs ys → Paired F xs' ys' → Paired F (xs ++ xs') (ys ++ ys')
  | _, _, _, _, .nil, s => s
  | _, _, _, _, .cons q r, s => .cons q (paired_append r s)
theorem paired_len {α β : Type} {F : α → β → Prop} {xs : List α} {ys : List β} (r : Paired F xs ys) : xs.length = ys.length := Paired.length r
theorem paired_map {α β : Type} {F : α → β → Prop} {f : β → α} (h : ∀ y, F (f y) y) : ∀ ys : List β, Paired F (ys.map f) ys
  | [] => .nil
  | y :: ys => .cons (h y) (paired_map h ys)

/-- a pair of numbers as a tuple -/
def PrAt (H : Hp) (v : V) (f : Nat × Nat) : Prop := ∃ r, v = .ref r ∧ H r = some (.tup [nv f.1, nv f.2])
def PrsAt (H : Hp) (a : Addr) (fx : List (Nat × Nat)) : Prop := ∃ vs, H a = some (.lst vs) ∧ Paired (PrAt H) vs fx
/-- a sentence -/
def sF (s : Ut05.Sent) (la : Addr) : List (Str × V) := [("length", nv s.long), ("anchors", .ref la)]
def SenAt (C : Addr) (H : Hp) (v : V) (s : Ut05.Sent) : Prop := ∃ r dx la, v = .ref r ∧ H r = some (.ins C dx (sF s la)) ∧ H la = some (.lst (s.anchors.map nv))
def SensAt (C : Addr) (H : Hp) (a : Addr) (ss : List Ut05.Sent) : Prop := ∃ vs, H a = some (.lst vs) ∧ Paired (SenAt C H) vs ss
theorem PrAt.same {H H' : Hp} {v : V} {f : Nat × Nat} (e : Same H H') (h : PrAt H v f) : PrAt H' v f := by
  obtain ⟨r, h1, h2⟩ := h
  exact ⟨r, h1, e _ _ h2⟩
theorem PrsAt.same {H H' : Hp} {a : Addr} {fx : List (Nat × Nat)} (e : Same H H') (h : PrsAt H a fx) : PrsAt H' a fx := by
  obtain ⟨vs, h1, h2⟩ := h
  exact ⟨vs, e _ _ h1, Paired.mapP h2 fun _ _ q => q.same e⟩
theorem SenAt.same {C : Addr} {H H' : Hp} {v : V} {s : Ut05.Sent} (e : Same H H') (h : SenAt C H v s) : SenAt C H' v s := by
  obtain ⟨r, dx, la, h1, h2, h3⟩ := h
  exact ⟨r, dx, la, h1, e _ _ h2, e _ _ h3⟩
theorem SensAt.same {C : Addr} {H H' : Hp} {a : Addr} {ss : List Ut05.Sent} (e : Same H H') (h : SensAt C H a ss) : SensAt C H' a ss := by
  obtain ⟨vs, h1, h2⟩ := h
  exact ⟨vs, e _ _ h1, Paired.mapP h2 fun _ _ q => q.same e⟩
/-- a new object leaves the rest -/
theorem Same.upd {H : Hp} {p : Addr} {o : HO} (h : H p = none) : Same H (upd H p o) := fun b u e => by
  rw [upd_ne (ne_of_none e h)]
  exact e
theorem Same.free_upd {H H' : Hp} {d : Addr} {o : HO} (h : H d = none) (s : Same H H') : Same H (L2.upd H' d o) := fun b u e => by
  rw [upd_ne (ne_of_none e h)]
  exact s b u e
theorem sF_long (s : Ut05.Sent) (la : Addr) : (sF s la).lookup ("length" : Str) = some (nv s.long) := lk_here
theorem sF_anchors (s : Ut05.Sent) (la : Addr) : (sF s la).lookup ("anchors" : Str) = some (.ref la) := (lk_past (by decide +kernel)).trans lk_here
theorem sF_new (s : Ut05.Sent) (la : Addr) : putF "anchors" (.ref la) (putF "length" (nv s.long) []) = sF s la := (put_past (by decide +kernel)).trans rfl

/-- the object: its fields -/
def yF (c : Ut05.Costs) (ak a1 a2 af : Addr) : List (Str × V) := [("kind_costs", .ref ak), ("share", nv c.share), ("weight", nv c.weight), ("anchor_price", nv c.anchor), ("first", .ref a1), ("second", .ref a2), ("fixed", .ref af)]
section
variable (c : Ut05.Costs) (ak a1 a2 af : Addr)
theorem yF_kind : (yF c ak a1 a2 af).lookup ("kind_costs" : Str) = some (.ref ak) := lk_here
theorem yF_share : (yF c ak a1 a2 af).lookup ("share" : Str) = some (nv c.share) := (lk_past (by decide +kernel)).trans lk_here
theorem yF_weight : (yF c ak a1 a2 af).lookup ("weight" : Str) = some (nv c.weight) := (lk_past (by decide +kernel)).trans ((lk_past (by decide +kernel)).trans lk_here)
theorem yF_anchor : (yF c ak a1 a2 af).lookup ("anchor_price" : Str) = some (nv c.anchor) := (lk_past (by decide +kernel)).trans ((lk_past (by decide +kernel)).trans ((lk_past (by decide +kernel)).trans lk_here))
theorem yF_first : (yF c ak a1 a2 af).lookup ("first" : Str) = some (.ref a1) := (lk_past (by decide +kernel)).trans ((lk_past (by decide +kernel)).trans ((lk_past (by decide +kernel)).trans ((lk_past (by decide +kernel)).trans lk_here)))
theorem yF_second : (yF c ak a1 a2 af).lookup ("second" : Str) = some (.ref a2) := (lk_past (by decide +kernel)).trans ((lk_past (by decide +kernel)).trans ((lk_past (by decide +kernel)).trans ((lk_past (by decide +kernel)).trans ((lk_past (by decide +kernel)).trans lk_here))))
theorem yF_fixed : (yF c ak a1 a2 af).lookup ("fixed" : Str) = some (.ref af) := (lk_past (by decide +kernel)).trans ((lk_past (by decide +kernel)).trans ((lk_past (by decide +kernel)).trans ((lk_past (by decide +kernel)).trans ((lk_past (by decide +kernel)).trans ((lk_past (by decide +kernel)).trans lk_here)))))
/-- no field is called so -/
theorem yF_no {m : Str} (h : (["kind_costs", "share", "weight", "anchor_price", "first", "second", "fixed"] : List Str).all (fun x => !(m == x)) = true) : (yF c ak a1 a2 af).lookup m = none := by
  simp only [List.all_cons, Bool.and_eq_true, Bool.not_eq_true'] at h
  obtain ⟨h1, h2, h3, h4, h5, h6, h7, _⟩ := h
  exact (lk_past h1).trans ((lk_past h2).trans ((lk_past h3).trans ((lk_past h4).trans ((lk_past h5).trans ((lk_past h6).trans ((lk_past h7).trans rfl))))))
end
/-- what holds of the document's numbers at every time -/
structure Good (g : Ut05.House) : Prop where
  k6 : g.costs.kind.length = 6
  kind : ∀ n ∈ g.costs.kind, n ≤ 999
  share : g.costs.share ≤ 999
  weight : g.costs.weight ≤ 99
  anchor : g.costs.anchor ≤ 999
  one : g.one.length ≤ 14
  two : g.two.length ≤ 14
  sens : ∀ s, s ∈ g.one ∨ s ∈ g.two → s.long ≤ 999 ∧ s.anchors.length ≤ 4 ∧ ∀ n ∈ s.anchors, n ≤ 999
  fixed : ∀ f ∈ g.fixed, f.1 < g.one.length ∧ f.2 < g.two.length
  nodup : g.fixed.Nodup
/-- the object lies at y; own: what of it may be written -/
structure YardAt (A : Ads) (H : Hp) (y : Addr) (own : List Addr) (g : Ut05.House) : Prop where
  ex : ∃ dx ak a1 a2 af, own = [y, ak, a1, a2, af] ∧ H y = some (.ins A.CY dx (yF g.costs ak a1 a2 af)) ∧ H ak = some (.lst (g.costs.kind.map nv)) ∧ SensAt A.CS H a1 g.one ∧ SensAt A.CS H a2 g.two ∧ PrsAt H af g.fixed
theorem YardAt.same {A : Ads} {H H' : Hp} {y : Addr} {own : List Addr} {g : Ut05.House} (e : Same H H') (h : YardAt A H y own g) : YardAt A H' y own g := by
  obtain ⟨dx, ak, a1, a2, af, h0, h1, h2, h3, h4, h5⟩ := h.ex
  exact ⟨dx, ak, a1, a2, af, h0, e _ _ h1, e _ _ h2, h3.same e, h4.same e, h5.same e⟩

/-- all but x is as it was -/
def But (H H' : Hp) (x : Addr) : Prop := ∀ b o, H b = some o → b ≠ x → H' b = some o
theorem But.refl (H : Hp) (x : Addr) : But H H x := fun _ _ e _ => e
theorem But.new {H H1 : Hp} {x q : Addr} {o : HO} (h : But H H1 x) (n : H1 q = none) : But H (L2.upd H1 q o) x := fun b u e ne => Same.upd n _ _ (h b u e ne)
theorem But.self {H H1 : Hp} {x : Addr} {o : HO} (h : But H H1 x) : But H (L2.upd H1 x o) x := fun b u e ne => by
  rw [upd_ne ne]
  exact h b u e ne
theorem But.none {H H1 : Hp} {x q : Addr} {o : HO} (h : But H H1 x) (hx : H1 x = some o) (n : H1 q = none) : H q = none := by
  cases e : H q with
  | none => rfl
  | some u =>
    by_cases c : q = x
    · rw [c, hx] at n
      cases n
    · rw [h q u e c] at n
      cases n
/-! ### .. and of what addresses it is made (O): nothing else is written, nothing else can spoil it -/
def SenO (C : Addr) (O : Addr → Prop) (H : Hp) (v : V) (s : Ut05.Sent) : Prop := ∃ r dx la, v = .ref r ∧ O r ∧ O la ∧ H r = some (.ins C dx (sF s la)) ∧ H la = some (.lst (s.anchors.map nv))
def SensO (C : Addr) (O : Addr → Prop) (H : Hp) (a : Addr) (ss : List Ut05.Sent) : Prop := ∃ vs, O a ∧ H a = some (.lst vs) ∧ Paired (SenO C O H) vs ss
/-- none of the three lists that may be written -/
def Apart3 (a1 a2 af b : Addr) : Prop := b ≠ a1 ∧ b ≠ a2 ∧ b ≠ af
def TextO (C : Addr) (O : Addr → Prop) (H : Hp) (a : Addr) (ss : List Ut05.Sent) : Prop := ∃ vs, H a = some (.lst vs) ∧ Paired (SenO C O H) vs ss
structure YardX (A : Ads) (O : Addr → Prop) (H : Hp) (y : Addr) (g : Ut05.House) (dx ak a1 a2 af : Addr) : Prop where
  oy : O y
  ok : O ak
  o1 : O a1
  o2 : O a2
  of : O af
  nk : Apart3 a1 a2 af ak
  n12 : a1 ≠ a2
  n1f : a1 ≠ af
  n2f : a2 ≠ af
  hy : H y = some (.ins A.CY dx (yF g.costs ak a1 a2 af))
  hk : H ak = some (.lst (g.costs.kind.map nv))
  t1 : TextO A.CS (fun b => O b ∧ Apart3 a1 a2 af b) H a1 g.one
  t2 : TextO A.CS (fun b => O b ∧ Apart3 a1 a2 af b) H a2 g.two
  fx : PrsAt H af g.fixed
def YardO (A : Ads) (O : Addr → Prop) (H : Hp) (y : Addr) (g : Ut05.House) : Prop := ∃ dx ak a1 a2 af, YardX A O H y g dx ak a1 a2 af
/-- what is not O's stays -/
def Keep (O : Addr → Prop) (H H' : Hp) : Prop := ∀ b o, H b = some o → ¬ O b → H' b = some o
theorem SenO.frame {C : Addr} {O O' : Addr → Prop} {H H' : Hp} {v : V} {s : Ut05.Sent} (k : ∀ b o, O b → H b = some o → O' b ∧ H' b = some o) (h : SenO C O H v s) : SenO C O' H' v s := by
  obtain ⟨r, dx, la, h1, h2, h3, h4, h5⟩ := h
  exact ⟨r, dx, la, h1, (k _ _ h2 h4).1, (k _ _ h3 h5).1, (k _ _ h2 h4).2, (k _ _ h3 h5).2⟩
theorem SensO.frame {C : Addr} {O O' : Addr → Prop} {H H' : Hp} {a : Addr} {ss : List Ut05.Sent} (k : ∀ b o, O b → H b = some o → O' b ∧ H' b = some o) (h : SensO C O H a ss) : SensO C O' H' a ss := by
  obtain ⟨vs, h1, h2, h3⟩ := h
  exact ⟨vs, (k _ _ h1 h2).1, (k _ _ h1 h2).2, Paired.mapP h3 fun _ _ q => q.frame k⟩
/-- what a text is made of -/
def Part (o : HO) : Prop := (∃ xs, o = .lst xs) ∨ ∃ C dx s la, o = .ins C dx (sF s la)
theorem SenO.parts {C : Addr} {O O' : Addr → Prop} {H H' : Hp} {v : V} {s : Ut05.Sent} (k : ∀ b o, O b → Part o → H b = some o → O' b ∧ H' b = some o) (h : SenO C O H v s) : SenO C O' H' v s := by
  obtain ⟨r, dx, la, h1, h2, h3, h4, h5⟩ := h
  exact ⟨r, dx, la, h1, (k _ _ h2 (.inr ⟨_, _, _, _, rfl⟩) h4).1, (k _ _ h3 (.inl ⟨_, rfl⟩) h5).1, (k _ _ h2 (.inr ⟨_, _, _, _, rfl⟩) h4).2, (k _ _ h3 (.inl ⟨_, rfl⟩) h5).2⟩
theorem SensO.parts {C : Addr} {O O' : Addr → Prop} {H H' : Hp} {a : Addr} {ss : List Ut05.Sent} (k : ∀ b o, O b → Part o → H b = some o → O' b ∧ H' b = some o) (h : SensO C O H a ss) : SensO C O' H' a ss := by
  obtain ⟨vs, h1, h2, h3⟩ := h
  refine ⟨vs, (k _ _ h1 (.inl ⟨_, rfl⟩) h2).1, (k _ _ h1 (.inl ⟨_, rfl⟩) h2).2, Paired.mapP h3 fun _ _ q => q.parts k⟩
/-- the object itself is no part of a text -/
theorem Part.ne {C dx ak a1 a2 af : Addr} {c : Ut05.Costs} {o : HO} (h : Part o) : o ≠ .ins C dx (yF c ak a1 a2 af) := by
  rintro rfl
  rcases h with ⟨xs, e⟩ | ⟨C', dx', s, la, e⟩
  · cases e
  · injection e with e1 e2 e3
    cases e3
theorem TextO.parts {C : Addr} {O O' : Addr → Prop} {H H' : Hp} {a : Addr} {ss : List Ut05.Sent} (k : ∀ b o, O b → Part o → H b = some o → O' b ∧ H' b = some o) (ka : ∀ vs, H a = some (.lst vs) → H' a = some (.lst vs)) (h : TextO C O H a ss) : TextO C O' H' a ss := by
  obtain ⟨vs, h1, h2⟩ := h
  exact ⟨vs, ka _ h1, Paired.mapP h2 fun _ _ q => q.parts k⟩
/-- O holds on; of the pairs' tuples nothing is asked: a tuple is never written -/
theorem YardO.frame {A : Ads} {O O' : Addr → Prop} {H H' : Hp} {y : Addr} {g : Ut05.House} (k : ∀ b o, O b → H b = some o → O' b ∧ H' b = some o) (kt : ∀ b xs, H b = some (.tup xs) → H' b = some (.tup xs)) (h : YardO A O H y g) : YardO A O' H' y g := by
  obtain ⟨dx, ak, a1, a2, af, h⟩ := h
  obtain ⟨vs, f1, f2⟩ := h.fx
  have g1 := h.t1
  have g2 := h.t2
  obtain ⟨v1, e1, _⟩ := h.t1
  obtain ⟨v2, e2, _⟩ := h.t2
  refine ⟨dx, ak, a1, a2, af, (k _ _ h.oy h.hy).1, (k _ _ h.ok h.hk).1, (k _ _ h.o1 e1).1, (k _ _ h.o2 e2).1, (k _ _ h.of f1).1, h.nk, h.n12, h.n1f, h.n2f, (k _ _ h.oy h.hy).2, (k _ _ h.ok h.hk).2,
    g1.parts (fun b o ob _ e => ⟨⟨(k _ _ ob.1 e).1, ob.2⟩, (k _ _ ob.1 e).2⟩) fun vs e => (k _ _ h.o1 e).2, g2.parts (fun b o ob _ e => ⟨⟨(k _ _ ob.1 e).1, ob.2⟩, (k _ _ ob.1 e).2⟩) fun vs e => (k _ _ h.o2 e).2, vs, (k _ _ h.of f1).2, Paired.mapP f2 fun v f q => ?_⟩
  obtain ⟨r, q1, q2⟩ := q
  exact ⟨r, q1, kt _ _ q2⟩
theorem SenO.at_ {C : Addr} {O : Addr → Prop} {H : Hp} {v : V} {s : Ut05.Sent} (h : SenO C O H v s) : SenAt C H v s := by
  obtain ⟨r, dx, la, h1, _, _, h4, h5⟩ := h
  exact ⟨r, dx, la, h1, h4, h5⟩
theorem SensO.at_ {C : Addr} {O : Addr → Prop} {H : Hp} {a : Addr} {ss : List Ut05.Sent} (h : SensO C O H a ss) : SensAt C H a ss := by
  obtain ⟨vs, _, h2, h3⟩ := h
  exact ⟨vs, h2, Paired.mapP h3 fun _ _ q => q.at_⟩
theorem TextO.at_ {C : Addr} {O : Addr → Prop} {H : Hp} {a : Addr} {ss : List Ut05.Sent} (h : TextO C O H a ss) : SensAt C H a ss := by
  obtain ⟨vs, h2, h3⟩ := h
  exact ⟨vs, h2, Paired.mapP h3 fun _ _ q => q.at_⟩
theorem YardX.at_ {A : Ads} {O : Addr → Prop} {H : Hp} {y : Addr} {g : Ut05.House} {dx ak a1 a2 af : Addr} (h : YardX A O H y g dx ak a1 a2 af) : YardAt A H y [y, ak, a1, a2, af] g := ⟨dx, ak, a1, a2, af, rfl, h.hy, h.hk, h.t1.at_, h.t2.at_, h.fx⟩
theorem YardO.at_ {A : Ads} {O : Addr → Prop} {H : Hp} {y : Addr} {g : Ut05.House} (h : YardO A O H y g) : ∃ own, YardAt A H y own g := by
  obtain ⟨dx, ak, a1, a2, af, h⟩ := h
  exact ⟨_, h.at_⟩
theorem YardO.same {A : Ads} {O : Addr → Prop} {H H' : Hp} {y : Addr} {g : Ut05.House} (e : Same H H') (h : YardO A O H y g) : YardO A O H' y g := h.frame (fun _ _ o q => ⟨o, e _ _ q⟩) fun _ _ q => e _ _ q
/-- nothing but what stands is needed -/
theorem YardO.tight {A : Ads} {O : Addr → Prop} {H : Hp} {y : Addr} {g : Ut05.House} (h : YardO A O H y g) : YardO A (fun b => O b ∧ H b ≠ none) H y g :=
  h.frame (fun _ _ o q => ⟨⟨o, fun z => by rw [q] at z; cases z⟩, q⟩) fun _ _ q => q
theorem YardO.more {A : Ads} {O O' : Addr → Prop} {H : Hp} {y : Addr} {g : Ut05.House} (k : ∀ b, O b → O' b) (h : YardO A O H y g) : YardO A O' H y g := h.frame (fun _ _ o q => ⟨k _ o, q⟩) fun _ _ q => q

/-- what the top has written -/
structure Txt (K : PySem.W.Frag) (mg : Str → Option Value) (A : Ads) : Prop where
  clS : Cls K A.CS
  clY : Cls K A.CY
  sL : NoAttr K A.CS "length"
  sA : NoAttr K A.CS "anchors"
  yK : NoAttr K A.CY "kind_costs"
  yS : NoAttr K A.CY "share"
  yW : NoAttr K A.CY "weight"
  yA : NoAttr K A.CY "anchor_price"
  y1 : NoAttr K A.CY "first"
  y2 : NoAttr K A.CY "second"
  yX : NoAttr K A.CY "fixed"
  gS : mg "Sentence" = some (.ref A.CS)
  gY : mg "Yard" = some (.ref A.CY)
  eU : ErrC K mg "Unfit" A.CU
  eN : ErrC K mg "NotThere" A.CN
  eA : ErrC K mg "AgainstFixed" A.CA
  eL : ErrC K mg "NoLaying" A.CL
  eF : ErrC K mg "NoRoom" A.CF
  gK : mg "KINDS" = some (.ref A.kT)
  kT : ∀ H, SqT K H A.kT (A.ks.map V.ref)
  kB : ∀ H k, k ∈ ks6 → ∃ r, A.ks[k]? = some r ∧ SqT K H r [nv (bd k).1, nv (bd k).2]
  k6 : A.ks.length = 6
  gP : mg "PLAIN_NUMBERS" = some (.ref A.pT)
  gR : mg "HAS_ROW" = some (.ref A.rT)
  len : mg "len" = none
  range : mg "range" = none
  enum : mg "enumerate" = none
  sum : mg "sum" = none
  abs : mg "abs" = none
  max : mg "max" = none

section
variable {K : PySem.W.Frag} {mg : Str → Option Value} {A : Ads}
/-- KINDS[k][0], KINDS[k][1] -/
theorem Txt.kind0 (T : Txt K mg A) {k : Nat} {σ : L2.St} {H : Hp} {Q : VK} {i : Nat} (hk : k ∈ ks6) (hi : σ[i]? = some (some (nv k))) (h : Q (nv (bd k).1) H) : tOp (rIxT K) (tOp (rIxT K) (tC (.ref A.kT)) (tVar i)) (tC (.int 0)) σ H Q := by
  obtain ⟨r, h1, h2⟩ := T.kB H k hk
  exact ⟨_, hi, A.kT, _, _, .ref r, rfl, rfl, T.kT H, atI_nat (by rw [List.getElem?_map, h1]; rfl), r, _, _, _, rfl, rfl, h2, (atI_nat (j := 0) rfl), h⟩
theorem Txt.kind1 (T : Txt K mg A) {k : Nat} {σ : L2.St} {H : Hp} {Q : VK} {i : Nat} (hk : k ∈ ks6) (hi : σ[i]? = some (some (nv k))) (h : Q (nv (bd k).2) H) : tOp (rIxT K) (tOp (rIxT K) (tC (.ref A.kT)) (tVar i)) (tC (.int 1)) σ H Q := by
  obtain ⟨r, h1, h2⟩ := T.kB H k hk
  exact ⟨_, hi, A.kT, _, _, .ref r, rfl, rfl, T.kT H, atI_nat (by rw [List.getElem?_map, h1]; rfl), r, _, _, _, rfl, rfl, h2, (atI_nat (j := 1) rfl), h⟩
end
/-- a name of the top that holds an object -/
theorem pe_gref {X : Cx} {x : Str} {a : Addr} {pos : Pos} (hg : Gl X x) (hm : X.mg x = some (.ref a)) (hd : (x == ("__debug__" : Str)) = false := by decide) : PE X (.Name x pos) (tC (.ref a)) := pe_glob hg hm rfl hd
/-- a name of the top that holds a number -/
theorem pe_gint {X : Cx} {x : Str} {n : Int} {pos : Pos} (hg : Gl X x) (hm : ∃ t, X.mg x = some (.int n t)) (hd : (x == ("__debug__" : Str)) = false := by decide) : PE X (.Name x pos) (tC (.int n)) :=
  let ⟨t, h⟩ := hm
  pe_glob hg h ⟨t, rfl⟩ hd
/-- a part of a list -/
theorem cut_nat {xs : List V} {i n : Nat} : cutV xs (some (i : Int)) (some ((i : Int) + (n : Int))) = (xs.drop i).take n := by
  unfold cutV
  have e : (i : Int) + (n : Int) = ((i + n : Nat) : Int) := by omega
  rw [e, HT.sIx_nat, HT.sIx_nat]
  by_cases h : i ≤ xs.length
  · rw [Nat.min_eq_left h]
    by_cases h2 : i + n ≤ xs.length
    · rw [Nat.min_eq_left h2]
      congr 1
      omega
    · rw [Nat.min_eq_right (by omega)]
      rw [List.take_of_length_le (by rw [List.length_drop]; omega), List.take_of_length_le (by rw [List.length_drop]; omega)]
  · rw [Nat.min_eq_right (a := i) (b := xs.length) (by omega), List.drop_length, List.drop_eq_nil_of_le (by omega)]
    simp

/-! ### defs that keep their promises, as a caller sees them -/
structure Use (P : Program) (w : World) (K : PySem.W.Frag) (mg : Str → Option Value) (base : Heap) (CX : CXT) (k : Nat) (x : Str) (ps : List Str) (sp : Sp) : Prop where
  ex : ∃ f fd, FnOk P w K mg base CX k f fd ps sp ∧ mg x = some (.ref f) ∧ PySem.W.keepIn K (.ref f) = true ∧ Binds K fd ps []
structure UseM (P : Program) (w : World) (K : PySem.W.Frag) (mg : Str → Option Value) (base : Heap) (CX : CXT) (k : Nat) (C : Addr) (m : Str) (ps : List Str) (sp : Sp) : Prop where
  ex : ∃ f fd, FnOk P w K mg base CX k f fd ps sp ∧ Meth K C m f ∧ Binds K fd ps []
structure UseI (P : Program) (w : World) (K : PySem.W.Frag) (mg : Str → Option Value) (base : Heap) (CX : CXT) (k : Nat) (C : Addr) (ps : List Str) (sp : Sp) : Prop where
  ex : ∃ f fd, FnOk P w K mg base CX k f fd ps sp ∧ Mk K C f ∧ Binds K fd ps []
/-- what a call asks: its arguments, then the promise -/
def tUse (sp : Sp) (E : XK) (t : TA) : TE := fun σ H Q => t σ H fun vs H1 => sp vs H1 Q E
def tUseM (C : Addr) (m : Str) (sp : Sp) (E : XK) (ta : TE) (t : TA) : TE := fun σ H Q => ta σ H fun x H1 => ∃ a dx fs, x = .ref a ∧ H1 a = some (.ins C dx fs) ∧ fs.lookup m = none ∧ t σ H1 fun vs H2 => sp (x :: vs) H2 Q E
def tUseI (C : Addr) (sp : Sp) (E : XK) (t : TA) : TE := fun σ H Q => t σ H fun vs H1 => ∀ x dx, H1 x = none → H1 dx = none → dx ≠ x → sp (.ref x :: vs) (upd (upd H1 dx (.own x)) x (.ins C dx [])) (fun v H2 => v = .non ∧ Q (.ref x) H2) E
section
variable {X : Cx} {CX : CXT} {k : Nat} {C : Addr} {ps : List Str} {sp : Sp} {E : XK} {x m : Str} {p pos apos : Pos} {e o : Expr} {es : List Expr} {ta : TE} {t : TA}
theorem pe_use (c : Use X.prog X.w X.K X.mg X.base CX k x ps sp) (hr : Room k X.A) (hg : Gl X x) (hx : Passes CX X E) (ha : PA X (e :: es) t) (hdb : (x == ("__debug__" : Str)) = false := by decide)
    (he : starEach (e :: es) X.env = (false, eval e X.env) :: starEach es X.env := by rfl) (hpl : (backTo pos (starEach es X.env)).any (·.1) = false := by rfl) : PE X (.Call (.Name x p) (e :: es) [] pos) (tUse sp E t) := by
  obtain ⟨f, fd, F, hm, hk, hb⟩ := c.ex
  refine ⟨fun pins s σ H Q I h => ?_⟩
  refine (pe_call (dvs := []) F hr hg hm hk hb .nil hx ha hdb he hpl).run pins s σ H Q I ?_
  show t σ H fun vs H1 => sp (vs ++ []) H1 Q E
  simp only [List.append_nil]
  exact h
theorem pe_useM {pl : Sem Bool} (he : PE X o ta) (c : Cls X.K C) (u : UseM X.prog X.w X.K X.mg X.base CX k C m ps sp) (hr : Room k X.A) (hx : Passes CX X E) (ha : PA X (e :: es) t)
    (hst : starEach (e :: es) X.env = (false, eval e X.env) :: starEach es X.env := by rfl) (hpl : (backTo pos (starEach es X.env)).any (·.1) = false := by rfl)
    (ht : eval (.Call (.Attribute o m apos) (e :: es) [] pos) X.env = (do
      let ov ← eval o X.env
      standAt apos.atName
      let (f, first) ← holding [ov] (getMethod ov m pl)
      callWith pos f first (backTo pos (starEach (e :: es) X.env)) (backToKw pos (keywordEach [] X.env))) := by rfl) : PE X (.Call (.Attribute o m apos) (e :: es) [] pos) (tUseM C m sp E ta t) := by
  obtain ⟨f, fd, F, hm, hb⟩ := u.ex
  refine ⟨fun pins s σ H Q I h => ?_⟩
  refine (pe_meth (dvs := []) he c hm F hr hb .nil hx ha hst hpl ht).run pins s σ H Q I ?_
  show ta σ H fun x H1 => ∃ a dx fs, x = .ref a ∧ H1 a = some (.ins C dx fs) ∧ fs.lookup m = none ∧ t σ H1 fun vs H2 => sp (x :: (vs ++ [])) H2 Q E
  simp only [List.append_nil]
  exact h
theorem pe_useI (u : UseI X.prog X.w X.K X.mg X.base CX k C ps sp) (hr : Room (k + 1) X.A) (hg : Gl X x) (hm : X.mg x = some (.ref C)) (hx : Passes CX X E)
    (ha : PA X (e :: es) t) (hdb : (x == ("__debug__" : Str)) = false := by decide) (he : starEach (e :: es) X.env = (false, eval e X.env) :: starEach es X.env := by rfl) (hpl : (backTo pos (starEach es X.env)).any (·.1) = false := by rfl) :
    PE X (.Call (.Name x p) (e :: es) [] pos) (tUseI C sp E t) := by
  obtain ⟨f, fd, F, M, hb⟩ := u.ex
  refine ⟨fun pins s σ H Q I h => ?_⟩
  refine (pe_make (dvs := []) M F hr hg hm hb .nil hx ha hdb he hpl).run pins s σ H Q I ?_
  show t σ H fun vs H1 => ∀ x dx, H1 x = none → H1 dx = none → dx ≠ x → sp (.ref x :: (vs ++ [])) (upd (upd H1 dx (.own x)) x (.ins C dx [])) (fun v H2 => v = .non ∧ Q (.ref x) H2) E
  simp only [List.append_nil]
  exact h
theorem pe_useI0 (u : UseI X.prog X.w X.K X.mg X.base CX k C ps sp) (hr : Room (k + 1) X.A) (hg : Gl X x) (hm : X.mg x = some (.ref C)) (hx : Passes CX X E) (hdb : (x == ("__debug__" : Str)) = false := by decide) :
    PE X (.Call (.Name x p) [] [] pos) (tUseI C sp E tNil) := by
  obtain ⟨f, fd, F, M, hb⟩ := u.ex
  exact ⟨fun pins s σ H Q I h => (pe_make0 (dvs := []) M F hr hg hm hb .nil hx hdb).run pins s σ H Q I h⟩
end
/-- a field that is new -/
theorem putF_new {f : Str} {v : V} (keys : List Str) : ∀ {fs : List (Str × V)}, fs.map (·.1) = keys → keys.all (fun k => !decide (k = f)) = true → putF f v fs = fs ++ [(f, v)] := by
  induction keys with
  | nil =>
    intro fs h1 _
    cases fs with
    | nil => rfl
    | cons p r => cases h1
  | cons k keys ih =>
    intro fs h1 h2
    cases fs with
    | nil => cases h1
    | cons p r =>
      rw [List.map_cons] at h1
      obtain ⟨e1, e2⟩ := List.cons.inj h1
      rw [List.all_cons, Bool.and_eq_true] at h2
      have ne : ¬ p.1 = f := by
        rw [e1]
        intro q
        rw [decide_eq_true q] at h2
        cases h2.1
      show (if p.1 = f then (p.1, v) :: r else p :: putF f v r) = _
      rw [if_neg ne, ih e2 h2.2]
      rfl
end Sy

namespace Sy
open PySem PySem.Spec PyProof.Rows L2
/-! bead_keeps -/
abbrev stKeeps : Stmt := top 6
def spKeeps : Sp := fun vs H Q _ => ∃ (a : Addr) (fx : List (Nat × Nat)) (k i j : Nat), vs = [.ref a, nv k, nv i, nv j] ∧ PrsAt H a fx ∧ k ∈ ks6 ∧ Q (.bl (Ut05.keeps fx i j (bd k))) H
/-- both sentences or neither -/
def hasBoth (i j k : Nat) (f : Nat × Nat) : Bool := (decide (i ≤ f.1) && decide (f.1 < i + (bd k).1)) == (decide (j ≤ f.2) && decide (f.2 < j + (bd k).2))
theorem keeps_take {fx : List (Nat × Nat)} {i j k n : Nat} {f : Nat × Nat} (h : fx[n]? = some f) (h1 : Ut05.keeps (fx.take n) i j (bd k) = true) (h2 : hasBoth i j k f = true) : Ut05.keeps (fx.take (n + 1)) i j (bd k) = true := by
  unfold Ut05.keeps at h1 ⊢
  rw [take_more h, List.all_append, h1, Bool.true_and, List.all_cons, List.all_nil, Bool.and_true]
  exact h2
theorem keeps_not {fx : List (Nat × Nat)} {i j k n : Nat} {f : Nat × Nat} (h : fx[n]? = some f) (h2 : hasBoth i j k f = false) : Ut05.keeps fx i j (bd k) = false := by
  unfold Ut05.keeps
  rw [List.all_eq_false]
  exact ⟨f, List.mem_of_getElem? h, by rw [show ((decide (i ≤ f.1) && decide (f.1 < i + (bd k).1)) == (decide (j ≤ f.2) && decide (f.2 < j + (bd k).2))) = false from h2]; exact Bool.false_ne_true⟩
section
variable {P : Program} {w : World} {K : PySem.W.Frag} {mg : Str → Option Value} {base : Heap} {A : Ads}
/-- lo <= x < lo + n, as a value -/
theorem chain_in {lo x n : Nat} {σ : L2.St} {H : Hp} {Q : VK} {tc : TE} (htc : ∀ Q' : VK, Q' (.int ((lo : Int) + (n : Int))) H → tc σ H Q') (h : Q (.bl (decide (lo ≤ x) && decide (x < lo + n))) H) :
    rI0 (fun i j => .bl (decide (i ≤ j))) (nv lo) (nv x) H fun z H3 => ∃ k, z = .bl k ∧ (if k = true then tc σ H3 fun w' H4 => rI0 (fun i j => .bl (decide (i < j))) (nv x) w' H4 Q else Q (.bl false) H3) := by
  refine ⟨_, _, rfl, rfl, _, rfl, ?_⟩
  have e1 : decide ((lo : Int) ≤ (x : Int)) = decide (lo ≤ x) := decide_eq_decide.mpr (by omega)
  have e2 : decide ((x : Int) < (lo : Int) + (n : Int)) = decide (x < lo + n) := decide_eq_decide.mpr (by omega)
  rw [e1]
  refine if_bool (fun q => htc _ ⟨_, _, rfl, rfl, ?_⟩) fun q => ?_
  · rw [q, Bool.true_and, ← e2] at h
    exact h
  · rw [q, Bool.false_and] at h
    exact h
theorem scKeeps : FnScope ["fixed", "kind", "i", "j", "one", "other", "has_one", "has_other"] ["fixed", "kind", "i", "j"] (defScope stKeeps) := ⟨rfl, rfl, rfl, by decide +kernel, rfl, by decide +kernel, by decide +kernel⟩
theorem ok_keeps {f : Addr} {fd : FuncData} (F : Fun K "bead_keeps" "bead_keeps" stKeeps f fd) (T : Txt K mg A) : FnOk P w K mg base CX0 1 f fd ["fixed", "kind", "i", "j"] spKeeps := by
  refine F.ok scKeeps (fun vs H Q E h => ?_) (fun cdv Ar outer s H vs Q E hr h => ⟨_, pss_cons (ps_for PassesOwn.never rfl (pi_list (pv 0))
      (pg_tup rfl (pgs_cons (pg_name (i := 4) scKeeps.nd rfl (.inl rfl)) (pgs_cons (pg_name (i := 5) scKeeps.nd rfl (.inl rfl)) pgs_nil)))
      (pss_cons (ps_set (i := 6) scKeeps.nd rfl (.inl rfl) (pe_chain op_le op_lt (pv 2) (pv 4) (pe_op op_add (pv 2) (pe_ix ix_tup (pe_ix ix_tup (pe_gref rfl T.gK) (pv 1) (fun _ _ => rfl)) pe_int (fun _ _ => rfl)))))
      (pss_cons (ps_set (i := 7) scKeeps.nd rfl (.inl rfl) (pe_chain op_le op_lt (pv 3) (pv 5) (pe_op op_add (pv 3) (pe_ix ix_tup (pe_ix ix_tup (pe_gref rfl T.gK) (pv 1) (fun _ _ => rfl)) pe_int (fun _ _ => rfl)))))
      (pss_one (ps_if (pt_cmpR op_ne (pv 6) (pv 7) (nomark _)) (pss_one (ps_ret pe_bl)) pss_nil)))))
    (pss_one (ps_ret pe_bl)), ?_⟩)
  · obtain ⟨a, fx, k, i, j, rfl, _⟩ := h
    rfl
  · obtain ⟨a, fx, k, i, j, rfl, ⟨xs, hl, hp⟩, hk, q⟩ := h
    refine ⟨_, rfl, a, rfl, ⟨xs, SqL.of hl⟩, for_list (xs := xs) (fun n σ H' => H' = H ∧ Ut05.keeps (fx.take n) i j (bd k) = true ∧ ∃ o4 o5 o6 o7 : Option V, σ = [some (.ref a), some (nv k), some (nv i), some (nv j), o4, o5, o6, o7])
      ⟨rfl, rfl, none, none, none, none, rfl⟩ (fun n σ H' _ ⟨e, _⟩ => by rw [e]; exact SqL.of hl) ?_ ?_⟩
    · rintro n v σ H' hv ⟨rfl, hn, o4, o5, o6, o7, rfl⟩
      obtain ⟨g, hg, r, rfl, hr⟩ := paired_at hp hv
      refine ⟨r, _, rfl, SqT.of hr, rfl, _, _, rfl, _, _, rfl, rfl, ?_⟩
      refine ⟨_, rfl, _, rfl, chain_in (fun Q' q' => ⟨_, rfl, T.kind0 hk rfl ⟨_, _, rfl, rfl, q'⟩⟩) ?_⟩
      refine ⟨_, rfl, _, rfl, chain_in (fun Q' q' => ⟨_, rfl, T.kind1 hk rfl ⟨_, _, rfl, rfl, q'⟩⟩) ?_⟩
      refine ⟨_, rfl, _, rfl, rfl, _, rfl, if_bool (fun c => ?_) (fun c => ?_)⟩
      · rw [dec_bl, Bool.not_eq_true'] at c
        rw [keeps_not hg c] at q
        exact q
      · rw [dec_bl, Bool.not_eq_false'] at c
        exact ⟨rfl, keeps_take hg hn c, _, _, _, _, rfl⟩
    · rintro σ H' ⟨rfl, hn, o4, o5, o6, o7, rfl⟩
      rw [paired_len hp, List.take_length] at hn
      rw [hn] at q
      exact q
end
end Sy

namespace Sy
open PySem PySem.Spec PyProof.Rows L2
/-! lengths_apart -/
abbrev stApart : Stmt := top 5
def spApart (A : Ads) : Sp := fun vs H Q _ => ∃ (a b : Addr) (s1 s2 : List Ut05.Sent) (sh : Nat), vs = [nv sh, .ref a, .ref b] ∧ SensAt A.CS H a s1 ∧ SensAt A.CS H b s2 ∧ s1.length ≤ 1000 ∧ s2.length ≤ 1000 ∧ sh ≤ 999 ∧
  ∀ H', Same H H' → Q (nv (Ut05.apart (Ut05.longOf s1 * sh) (Ut05.longOf s2 * 100) / 100)) H'
theorem foldl_add (l : List Nat) : ∀ z : Nat, l.foldl (fun s n => s + n) z = z + l.foldl (fun s n => s + n) 0 := by
  induction l with
  | nil => intro z; rfl
  | cons x l ih =>
    intro z
    rw [List.foldl_cons, List.foldl_cons, ih (z + x), ih (0 + x)]
    omega
theorem sumOf_cons (x : Nat) (l : List Nat) : Ut05.sumOf (x :: l) = x + Ut05.sumOf l := by
  show (x :: l).foldl (fun s n => s + n) 0 = x + l.foldl (fun s n => s + n) 0
  rw [List.foldl_cons, foldl_add]
  omega
theorem long_sum : ∀ ss : List Ut05.Sent, (ss.map fun s => (s.long : Int)).sum = (Ut05.longOf ss : Int)
  | [] => rfl
  | s :: ss => by
    have ih := long_sum ss
    unfold Ut05.longOf at ih ⊢
    rw [List.map_cons, List.sum_cons, List.map_cons, sumOf_cons, ih]
    omega
theorem apart_eq (m n : Nat) : (if ((m : Int) - (n : Int)) < 0 then -((m : Int) - (n : Int)) else (m : Int) - (n : Int)) / 100 = ((Ut05.apart m n / 100 : Nat) : Int) := by
  unfold Ut05.apart
  by_cases h : ((m : Int) - (n : Int)) < 0
  · rw [if_pos h]
    have : -((m : Int) - (n : Int)) = ((max m n - min m n : Nat) : Int) := by omega
    rw [this]
    omega
  · rw [if_neg h]
    have : (m : Int) - (n : Int) = ((max m n - min m n : Nat) : Int) := by omega
    rw [this]
    omega
section
variable {P : Program} {w : World} {K : PySem.W.Frag} {mg : Str → Option Value} {base : Heap} {A : Ads}
/-- sum([sentence.length for sentence in xs]) -/
theorem rd_long (T : Txt K mg A) {σ : L2.St} {i m : Nat} {a : Addr} {ss : List Ut05.Sent} {H : Hp} {Q : VK} (hi : σ[i]? = some (some (.ref a))) (hm : m < σ.length) (hS : SensAt A.CS H a ss) (hl : ss.length ≤ 1000)
    (h : ∀ H', Same H H' → Q (nv (Ut05.longOf ss)) H') : tCB (rSum K) (tCons (tLc (iList K (tVar i)) (gName m) tYes (tFld K (tVar m) "length") [m]) tNil) σ H Q := by
  obtain ⟨xs, hx, hp⟩ := hS
  refine ⟨_, hi, a, rfl, ⟨xs, SqL.of hx⟩, fun D hD => lc_list (xs := xs) (fun n H' => H' = upd H D (.lst ((ss.take n).map fun s => nv s.long))) rfl (fun n H' _ e => ?_) ?_ ?_⟩
  · rw [e]
    exact SqL.of (Same.upd hD _ _ hx)
  · rintro n v H' hv rfl
    obtain ⟨s, hs, r, dx, la, rfl, hr, _⟩ := paired_at hp hv
    have at_ : ((wipe σ [m]).set m (some (V.ref r)))[m]? = some (some (V.ref r)) := List.getElem?_set_self (by rw [wipe_length]; exact hm)
    refine ⟨(by show ((σ.set m none).set m (some (V.ref r))).set m none = σ.set m none; rw [List.set_set, List.set_set]), ⟨_, at_, r, A.CS, dx, _, _, rfl, Same.upd hD _ _ hr, T.clS, T.sL, sF_long s la, _, upd_same, ?_, ?_⟩⟩
    · rw [List.length_map, List.length_take]
      exact small1000 (by omega)
    · rw [upd_upd, take_more hs, List.map_append]
      rfl
  · rintro H' rfl
    rw [paired_len hp, List.take_length]
    refine ⟨D, ss.map fun s => (s.long : Int), rfl, SqL.of ?_, ?_⟩
    · rw [upd_same, List.map_map]
      rfl
    · rw [long_sum]
      exact h _ (Same.upd hD)
theorem scApart : FnScope ["share", "ones", "others", "expected", "found", "sentence"] ["share", "ones", "others"] (defScope stApart) := ⟨rfl, rfl, rfl, by decide +kernel, rfl, by decide +kernel, by decide +kernel⟩
theorem ok_apart {f : Addr} {fd : FuncData} (F : Fun K "lengths_apart" "lengths_apart" stApart f fd) (T : Txt K mg A) : FnOk P w K mg base CX0 1 f fd ["share", "ones", "others"] (spApart A) := by
  refine F.ok scApart (fun vs H Q E h => ?_) (fun cdv Ar outer s H vs Q E hr h => ⟨_, pss_cons (ps_set (i := 3) scApart.nd rfl (.inl rfl) (pe_op op_mul (pv 0) (pe_callB (cr_sum rfl) (by rfl) T.sum (by decide +kernel)
        (pa_cons (pe_lc (own := [("sentence", 5)]) (g := gName 5) (tt := tYes) (te := tFld K (tVar 5) "length") rfl scApart.nd (pi_list (pv 1)) (blkOk_by (N := ["share", "ones", "others", "expected", "found", "sentence"]) (sc := defScope stApart) (own := [("sentence", 5)]) (by decide +kernel)) (fun _ _ _ _ _ => pg_name (i := 5) scApart.nd rfl (Or.inl rfl)) (fun _ _ _ _ _ => pts_nil) (fun _ _ _ _ _ => by exact pe_fld (pv 5) rfl)) pa_nil))))
    (pss_cons (ps_set (i := 4) scApart.nd rfl (.inl rfl) (pe_op op_mul pe_int (pe_callB (cr_sum rfl) (by rfl) T.sum (by decide +kernel)
        (pa_cons (pe_lc (own := [("sentence", 5)]) (g := gName 5) (tt := tYes) (te := tFld K (tVar 5) "length") rfl scApart.nd (pi_list (pv 2)) (blkOk_by (N := ["share", "ones", "others", "expected", "found", "sentence"]) (sc := defScope stApart) (own := [("sentence", 5)]) (by decide +kernel)) (fun _ _ _ _ _ => pg_name (i := 5) scApart.nd rfl (Or.inl rfl)) (fun _ _ _ _ _ => pts_nil) (fun _ _ _ _ _ => by exact pe_fld (pv 5) rfl)) pa_nil))))
    (pss_one (ps_ret (pe_op op_fdiv (pe_callB call_abs (by rfl) T.abs (by decide +kernel) (pa_cons (pe_op op_sub (pv 3) (pv 4)) pa_nil)) pe_int)))), ?_⟩)
  · obtain ⟨a, b, s1, s2, sh, rfl, _⟩ := h
    rfl
  · obtain ⟨a, b, s1, s2, sh, rfl, h1, h2, l1, l2, hsh, q⟩ := h
    refine ⟨_, rfl, rd_long T rfl (by show 5 < 6; decide) h1 l1 fun H1 e1 => ⟨_, _, rfl, rfl, .inl ⟨by omega, by omega⟩, ?_⟩⟩
    refine rd_long T rfl (by show 5 < 6; decide) (h2.same e1) l2 fun H2 e2 => ⟨_, _, rfl, rfl, .inl ⟨by omega, by omega⟩, ?_⟩
    refine ⟨_, rfl, _, rfl, _, _, rfl, rfl, _, rfl, _, _, rfl, rfl, ⟨by decide, by decide⟩, ?_⟩
    have e : (sh : Int) * (Ut05.longOf s1 : Int) - 100 * (Ut05.longOf s2 : Int) = ((Ut05.longOf s1 * sh : Nat) : Int) - ((Ut05.longOf s2 * 100 : Nat) : Int) := by
      rw [Int.natCast_mul, Int.natCast_mul, Int.mul_comm (sh : Int), Int.mul_comm (100 : Int)]
      rfl
    show Q (.int ((if ((sh : Int) * (Ut05.longOf s1 : Int) - 100 * (Ut05.longOf s2 : Int)) < 0 then -((sh : Int) * (Ut05.longOf s1 : Int) - 100 * (Ut05.longOf s2 : Int)) else (sh : Int) * (Ut05.longOf s1 : Int) - 100 * (Ut05.longOf s2 : Int)) / 100)) H2
    rw [e, apart_eq]
    exact q H2 (e1.trans e2)
end
end Sy

/-! What is lacking on either side, by a table of surpluses. -/
namespace Sy
open Ut05
/-- a table of counts: one more or less of x -/
def bump : List (Nat × Int) → Nat → Int → List (Nat × Int)
  | [], x, z => [(x, z)]
  | p :: d, x, z => if p.1 = x then (p.1, p.2 + z) :: d else p :: bump d x z
def lookN : List (Nat × Int) → Nat → Int
  | [], _ => 0
  | p :: d, x => if p.1 = x then p.2 else lookN d x
def bumps (d : List (Nat × Int)) (xs : List Nat) (z : Int) : List (Nat × Int) := xs.foldl (fun d x => bump d x z) d
theorem bump_look : ∀ (d : List (Nat × Int)) (x : Nat) (z : Int) (y : Nat), lookN (bump d x z) y = lookN d y + if x = y then z else 0
  | [], x, z, y => by
    show (if x = y then z else 0) = 0 + if x = y then z else 0
    omega
  | p :: d, x, z, y => by
    unfold bump
    by_cases h : p.1 = x
    · rw [if_pos h]
      show (if p.1 = y then p.2 + z else lookN d y) = (if p.1 = y then p.2 else lookN d y) + if x = y then z else 0
      by_cases h2 : p.1 = y
      · rw [if_pos h2, if_pos h2, if_pos (h ▸ h2)]
      · rw [if_neg h2, if_neg h2, if_neg (h ▸ h2)]
        omega
    · rw [if_neg h]
      show (if p.1 = y then p.2 else lookN (bump d x z) y) = (if p.1 = y then p.2 else lookN d y) + if x = y then z else 0
      by_cases h2 : p.1 = y
      · rw [if_pos h2, if_pos h2, if_neg (fun q => h (h2.trans q.symm))]
        omega
      · rw [if_neg h2, if_neg h2]
        exact bump_look d x z y
theorem bump_keys : ∀ (d : List (Nat × Int)) (x : Nat) (z : Int) (k : Nat), k ∈ (bump d x z).map (·.1) ↔ k ∈ d.map (·.1) ∨ k = x
  | [], x, z, k => by simp [bump]
  | p :: d, x, z, k => by
    unfold bump
    by_cases h : p.1 = x
    · rw [if_pos h]
      subst h
      simp only [List.map_cons, List.mem_cons]
      constructor
      · intro q
        exact .inl q
      · rintro (q | q)
        · exact q
        · exact .inl q
    · rw [if_neg h]
      simp only [List.map_cons, List.mem_cons, bump_keys d x z k]
      constructor
      · rintro (q | q | q)
        · exact .inl (.inl q)
        · exact .inl (.inr q)
        · exact .inr q
      · rintro ((q | q) | q)
        · exact .inl q
        · exact .inr (.inl q)
        · exact .inr (.inr q)
theorem bump_nodup : ∀ {d : List (Nat × Int)} {x : Nat} {z : Int}, (d.map (·.1)).Nodup → ((bump d x z).map (·.1)).Nodup
  | [], x, z, _ => by simp [bump]
  | p :: d, x, z, h => by
    rw [List.map_cons, List.nodup_cons] at h
    unfold bump
    by_cases c : p.1 = x
    · rw [if_pos c, List.map_cons, List.nodup_cons]
      exact h
    · rw [if_neg c, List.map_cons, List.nodup_cons]
      refine ⟨fun q => ?_, bump_nodup h.2⟩
      rcases (bump_keys d x z p.1).mp q with q | q
      · exact h.1 q
      · exact c q
theorem bump_len : ∀ (d : List (Nat × Int)) (x : Nat) (z : Int), (bump d x z).length ≤ d.length + 1
  | [], _, _ => Nat.le_refl _
  | p :: d, x, z => by
    unfold bump
    by_cases c : p.1 = x
    · rw [if_pos c]
      exact Nat.le_succ _
    · rw [if_neg c, List.length_cons, List.length_cons]
      have := bump_len d x z
      omega
theorem bumps_look (z : Int) : ∀ (xs : List Nat) (d : List (Nat × Int)) (y : Nat), lookN (bumps d xs z) y = lookN d y + z * (xs.count y : Int)
  | [], d, y => by
    show lookN d y = lookN d y + z * ((0 : Nat) : Int)
    simp
  | x :: xs, d, y => by
    show lookN (bumps (bump d x z) xs z) y = _
    rw [bumps_look z xs, bump_look, List.count_cons]
    by_cases h : x = y
    · subst h
      rw [if_pos rfl, if_pos (beq_self_eq_true x)]
      have : z * ((xs.count x + 1 : Nat) : Int) = z * (xs.count x : Int) + z := by
        rw [Int.natCast_add, Int.mul_add]
        simp
      omega
    · rw [if_neg h, if_neg (by simpa using h), Nat.add_zero, Int.add_zero]
theorem bumps_keys (z : Int) : ∀ (xs : List Nat) (d : List (Nat × Int)) (k : Nat), k ∈ (bumps d xs z).map (·.1) ↔ k ∈ d.map (·.1) ∨ k ∈ xs
  | [], d, k => by simp [bumps]
  | x :: xs, d, k => by
    show k ∈ (bumps (bump d x z) xs z).map (·.1) ↔ _
    rw [bumps_keys z xs, bump_keys, List.mem_cons]
    constructor
    · rintro ((q | q) | q)
      · exact .inl q
      · exact .inr (.inl q)
      · exact .inr (.inr q)
    · rintro (q | q | q)
      · exact .inl (.inl q)
      · exact .inl (.inr q)
      · exact .inr q
theorem bumps_nodup (z : Int) : ∀ (xs : List Nat) {d : List (Nat × Int)}, (d.map (·.1)).Nodup → ((bumps d xs z).map (·.1)).Nodup
  | [], _, h => h
  | _ :: xs, _, h => bumps_nodup z xs (bump_nodup h)
theorem bumps_len (z : Int) : ∀ (xs : List Nat) (d : List (Nat × Int)), (bumps d xs z).length ≤ d.length + xs.length
  | [], _ => Nat.le_refl _
  | x :: xs, d => by
    have h1 := bumps_len z xs (bump d x z)
    have h2 := bump_len d x z
    show (bumps (bump d x z) xs z).length ≤ _
    rw [List.length_cons]
    omega
theorem bumps_more (d : List (Nat × Int)) (xs : List Nat) (x : Nat) (z : Int) : bumps d (xs ++ [x]) z = bump (bumps d xs z) x z := by
  unfold bumps
  rw [List.foldl_append]
  rfl
theorem bumps_append (d : List (Nat × Int)) (xs ys : List Nat) (z : Int) : bumps d (xs ++ ys) z = bumps (bumps d xs z) ys z := by
  unfold bumps
  rw [List.foldl_append]

/-! ### sums over places -/
def sumBy (f : Nat → Nat) : List Nat → Nat
  | [] => 0
  | k :: l => f k + sumBy f l
theorem sumBy_congr {f g : Nat → Nat} : ∀ (l : List Nat), (∀ k ∈ l, f k = g k) → sumBy f l = sumBy g l
  | [], _ => rfl
  | k :: l, h => by
    unfold sumBy
    rw [h k (List.mem_cons_self ..), sumBy_congr l fun j hj => h j (List.mem_cons_of_mem _ hj)]
theorem sumBy_add (f g : Nat → Nat) : ∀ l : List Nat, sumBy (fun k => f k + g k) l = sumBy f l + sumBy g l
  | [] => rfl
  | k :: l => by
    have := sumBy_add f g l
    unfold sumBy
    omega
/-- one place more -/
theorem sumBy_one {f g : Nat → Nat} {x : Nat} : ∀ (l : List Nat), l.Nodup → x ∈ l → f x = g x + 1 → (∀ k ∈ l, k ≠ x → f k = g k) → sumBy f l = sumBy g l + 1
  | [], _, h, _, _ => nomatch h
  | k :: l, hn, hx, h1, h2 => by
    rw [List.nodup_cons] at hn
    unfold sumBy
    rcases List.mem_cons.mp hx with e | e
    · subst e
      rw [h1, sumBy_congr (f := f) (g := g) l fun j hj => h2 j (List.mem_cons_of_mem _ hj) fun q => hn.1 (q ▸ hj)]
      omega
    · rw [h2 k (List.mem_cons_self ..) (fun q => hn.1 (q ▸ e)), sumBy_one l hn.2 e h1 fun j hj hne => h2 j (List.mem_cons_of_mem _ hj) hne]
      omega
theorem lacking_sum : ∀ (a b ks : List Nat), ks.Nodup → (∀ x ∈ a, x ∈ ks) → lacking a b = sumBy (fun k => a.count k - b.count k) ks
  | [], b, ks, _, _ => by
    have h : ∀ l : List Nat, sumBy (fun k => ([] : List Nat).count k - b.count k) l = 0 := by
      intro l
      induction l with
      | nil => rfl
      | cons k l ih =>
        unfold sumBy
        rw [ih]
        simp
    rw [h]
    rfl
  | x :: l, b, ks, hn, hk => by
    have hl : ∀ y ∈ l, y ∈ ks := fun y hy => hk y (List.mem_cons_of_mem _ hy)
    unfold lacking
    by_cases c : b.contains x = true
    · rw [if_pos c, lacking_sum l (b.erase x) ks hn hl]
      have hx : 0 < b.count x := List.count_pos_iff.mpr (by simpa using c)
      refine sumBy_congr ks fun k _ => ?_
      rw [List.count_cons, List.count_erase]
      by_cases e : x = k
      · subst e
        simp only [beq_self_eq_true, if_true]
        omega
      · have e1 : (x == k) = false := by simpa using e
        have e2 : (k == x) = false := by simpa using fun q : k = x => e q.symm
        simp only [e1, e2, Bool.false_eq_true, if_false]
        omega
    · rw [if_neg c, lacking_sum l b ks hn hl]
      have hx : b.count x = 0 := List.count_eq_zero.mpr (by simpa using c)
      refine (sumBy_one ks hn (hk x (List.mem_cons_self ..)) ?_ fun k _ hne => ?_).symm
      · rw [List.count_cons, hx]
        simp
      · rw [List.count_cons]
        have e1 : (x == k) = false := by simpa using fun q : x = k => hne q.symm
        simp only [e1, Bool.false_eq_true, if_false]
        omega
/-! ### the sum of what the table holds -/
def absI (z : Int) : Int := if z < 0 then -z else z
theorem table_sum : ∀ (d : List (Nat × Int)), (d.map (·.1)).Nodup → (d.map fun p => absI p.2).sum = ((sumBy (fun k => (lookN d k).natAbs) (d.map (·.1)) : Nat) : Int)
  | [], _ => rfl
  | p :: d, h => by
    rw [List.map_cons, List.nodup_cons] at h
    rw [List.map_cons, List.sum_cons, table_sum d h.2, List.map_cons]
    have e0 : sumBy (fun k => (lookN (p :: d) k).natAbs) (p.1 :: d.map (·.1)) = (lookN (p :: d) p.1).natAbs + sumBy (fun k => (lookN (p :: d) k).natAbs) (d.map (·.1)) := rfl
    rw [e0]
    have e1 : lookN (p :: d) p.1 = p.2 := if_pos rfl
    have e2 : sumBy (fun k => (lookN (p :: d) k).natAbs) (d.map (·.1)) = sumBy (fun k => (lookN d k).natAbs) (d.map (·.1)) := sumBy_congr _ fun k hk => by
      have : lookN (p :: d) k = lookN d k := if_neg fun q => h.1 (by rw [q]; exact hk)
      rw [this]
    rw [e1, e2]
    unfold absI
    by_cases c : p.2 < 0
    · rw [if_pos c]
      omega
    · rw [if_neg c]
      omega
theorem lacking_table (a b : List Nat) : ((bumps (bumps [] a 1) b (-1)).map fun p => absI p.2).sum = ((lacking a b + lacking b a : Nat) : Int) := by
  have hn : ((bumps (bumps [] a 1) b (-1)).map (·.1)).Nodup := bumps_nodup _ b (bumps_nodup _ a (by simp))
  rw [table_sum _ hn]
  have ha : ∀ x ∈ a, x ∈ (bumps (bumps [] a 1) b (-1)).map (·.1) := fun x hx => (bumps_keys _ b _ x).mpr (.inl ((bumps_keys _ a _ x).mpr (.inr hx)))
  have hb : ∀ x ∈ b, x ∈ (bumps (bumps [] a 1) b (-1)).map (·.1) := fun x hx => (bumps_keys _ b _ x).mpr (.inr hx)
  rw [lacking_sum a b _ hn ha, lacking_sum b a _ hn hb, ← sumBy_add]
  congr 1
  refine sumBy_congr _ fun k _ => ?_
  rw [bumps_look, bumps_look]
  show (0 + 1 * (a.count k : Int) + -1 * (b.count k : Int)).natAbs = _
  omega
end Sy

namespace Sy
open PySem PySem.Spec PyProof.Rows L2
/-! lacking_anchors -/
abbrev stLack : Stmt := top 4
def spLack (A : Ads) : Sp := fun vs H Q _ => ∃ (a b : Addr) (s1 s2 : List Ut05.Sent), vs = [.ref a, .ref b] ∧ SensAt A.CS H a s1 ∧ SensAt A.CS H b s2 ∧ (Ut05.anchorsOf s1).length + (Ut05.anchorsOf s2).length ≤ 1000 ∧
  ∀ H', Same H H' → Q (nv (Ut05.lacking (Ut05.anchorsOf s1) (Ut05.anchorsOf s2) + Ut05.lacking (Ut05.anchorsOf s2) (Ut05.anchorsOf s1))) H'
/-- the table as a dict -/
def encD (d : List (Nat × Int)) : List (Key × V) := d.map fun p => (Sum.inl (p.1 : Int), V.int p.2)
theorem key_ne {m n : Nat} (h : ¬ m = n) : ¬ (Sum.inl (m : Int) : Key) = Sum.inl (n : Int) := fun q => h (by have := Sum.inl.inj q; omega)
theorem encD_val : ∀ (d : List (Nat × Int)) (x : Nat), (valV (encD d) (Sum.inl (x : Int))).getD (.int 0) = .int (lookN d x)
  | [], _ => rfl
  | p :: d, x => by
    show (valV ((Sum.inl (p.1 : Int), V.int p.2) :: encD d) (Sum.inl (x : Int))).getD (.int 0) = .int (if p.1 = x then p.2 else lookN d x)
    by_cases h : p.1 = x
    · rw [valV_pos (by rw [h]), if_pos h]
      rfl
    · rw [valV_neg (key_ne h), if_neg h]
      exact encD_val d x
theorem encD_keys (d : List (Nat × Int)) (x : Nat) (h : x ∉ d.map (·.1)) (v : V) : (encD d).map (fun kv => if kv.1 = (Sum.inl (x : Int) : Key) then (kv.1, v) else kv) = encD d := by
  induction d with
  | nil => rfl
  | cons p d ih =>
    rw [List.map_cons, List.mem_cons, not_or] at h
    show (if (Sum.inl (p.1 : Int) : Key) = Sum.inl (x : Int) then _ else _) :: (encD d).map _ = _
    rw [if_neg (key_ne fun q => h.1 q.symm), ih h.2]
    rfl
theorem encD_put : ∀ (d : List (Nat × Int)) (x : Nat) (z : Int), (d.map (·.1)).Nodup → putK (encD d) (Sum.inl (x : Int)) (.int (lookN d x + z)) = encD (bump d x z)
  | [], x, z, _ => by
    show [((Sum.inl (x : Int) : Key), V.int (0 + z))] = [((Sum.inl (x : Int) : Key), V.int z)]
    rw [Int.zero_add]
  | p :: d, x, z, hn => by
    rw [List.map_cons, List.nodup_cons] at hn
    unfold putK
    by_cases h : p.1 = x
    · have e1 : ((encD (p :: d)).any fun kv => decide (kv.1 = (Sum.inl (x : Int) : Key))) = true := by
        show (decide ((Sum.inl (p.1 : Int) : Key) = Sum.inl (x : Int)) || _) = true
        rw [h, decide_eq_true rfl, Bool.true_or]
      rw [if_pos e1]
      show (if (Sum.inl (p.1 : Int) : Key) = Sum.inl (x : Int) then ((Sum.inl (p.1 : Int) : Key), V.int ((if p.1 = x then p.2 else lookN d x) + z)) else _) :: (encD d).map _ = encD (if p.1 = x then (p.1, p.2 + z) :: d else p :: bump d x z)
      rw [if_pos (by rw [h]), if_pos h, if_pos h, encD_keys d x (h ▸ hn.1)]
      rfl
    · have ih := encD_put d x z hn.2
      unfold putK at ih
      have e0 : ((encD (p :: d)).any fun kv => decide (kv.1 = (Sum.inl (x : Int) : Key))) = ((encD d).any fun kv => decide (kv.1 = (Sum.inl (x : Int) : Key))) := by
        show (decide ((Sum.inl (p.1 : Int) : Key) = Sum.inl (x : Int)) || _) = _
        rw [decide_eq_false (key_ne h), Bool.false_or]
        rfl
      have e1 : lookN (p :: d) x = lookN d x := if_neg h
      have e2 : bump (p :: d) x z = p :: bump d x z := if_neg h
      rw [e0, e1, e2]
      by_cases c : ((encD d).any fun kv => decide (kv.1 = (Sum.inl (x : Int) : Key))) = true
      · rw [if_pos c] at ih ⊢
        show (if (Sum.inl (p.1 : Int) : Key) = Sum.inl (x : Int) then _ else _) :: (encD d).map _ = _
        rw [if_neg (key_ne h), ih]
        rfl
      · rw [if_neg c] at ih ⊢
        show (Sum.inl (p.1 : Int), V.int p.2) :: (encD d ++ _) = _
        rw [ih]
        rfl
theorem encD_len (d : List (Nat × Int)) : (encD d).length = d.length := List.length_map ..
theorem anchors_take {ss : List Ut05.Sent} {n : Nat} {s : Ut05.Sent} (h : ss[n]? = some s) : Ut05.anchorsOf (ss.take (n + 1)) = Ut05.anchorsOf (ss.take n) ++ s.anchors := by
  unfold Ut05.anchorsOf
  rw [take_more h, List.flatMap_append]
  simp
theorem anchors_le {ss : List Ut05.Sent} {n : Nat} {s : Ut05.Sent} (h : ss[n]? = some s) : (Ut05.anchorsOf (ss.take n)).length + s.anchors.length ≤ (Ut05.anchorsOf ss).length := by
  have e : Ut05.anchorsOf ss = Ut05.anchorsOf (ss.take (n + 1)) ++ Ut05.anchorsOf (ss.drop (n + 1)) := by
    unfold Ut05.anchorsOf
    rw [← List.flatMap_append, List.take_append_drop]
  rw [e, anchors_take h, List.length_append, List.length_append]
  omega
section
variable {P : Program} {w : World} {K : PySem.W.Frag} {mg : Str → Option Value} {base : Heap} {A : Ads}
/-- the value z added: get's answer + 1, or - 1 -/
theorem rd_bump {r : R2} {z : Int} {σ : L2.St} {H1 : Hp} {D : Addr} {d : List (Nat × Int)} {x : Nat} {tz : TE} {nx : Ends} (hr : ∀ (y : Int) (Q : VK) (H : Hp), Q (.int (y + z)) H → tz σ H fun v H' => r (.int y) v H' Q)
    (h2 : σ[2]? = some (some (.ref D))) (h4 : σ[4]? = some (some (nv x))) (hd : H1 D = some (.dK (encD d))) (hn : (d.map (·.1)).Nodup) (hl : d.length < 1000) (h : nx.nx σ (upd H1 D (.dK (encD (bump d x z))))) :
    sDPut (tVar 2) (tVar 4) (tOp r (tDGet2 (tVar 2) (tVar 4) (tC (.int 0))) tz) nx σ H1 := by
  refine ⟨_, h2, D, rfl, .inl ⟨_, .inl hd⟩, _, h4, valV (encD d) (Sum.inl (x : Int)), DGet.k (k := Sum.inl (x : Int)) hd, ?_⟩
  rw [encD_val]
  refine hr _ _ _ ⟨_, h2, _, h4, D, _, rfl, DPut.k (k := Sum.inl (x : Int)) hd (by rw [encD_len]; exact small1000 (by omega)), ?_⟩
  rw [encD_put d x z hn]
  exact h
theorem scLack : FnScope ["ones", "others", "surplus", "sentence", "anchor", "times"] ["ones", "others"] (defScope stLack) := ⟨rfl, rfl, rfl, by decide +kernel, rfl, by decide +kernel, by decide +kernel⟩
/-- for sentence in xs: for anchor in sentence.anchors: surplus[anchor] = surplus.get(anchor, 0) + z -/
theorem rd_surplus (T : Txt K mg A) {r : R2} {z : Int} {i : Nat} {a b D : Addr} {ss : List Ut05.Sent} {d : List (Nat × Int)} {H : Hp} {tz : TE} {nx : Ends} {xi : Addr} (hr : ∀ (σ : L2.St) (y : Int) (Q : VK) (H : Hp), Q (.int (y + z)) H → tz σ H fun v H' => r (.int y) v H' Q)
    (hi : ∀ o3 o4 o5, ([some (.ref a), some (.ref b), some (.ref D), o3, o4, o5] : L2.St)[i]? = some (some (.ref xi))) (hS : SensAt A.CS H xi ss) (hD : H D = none) (hn : (d.map (·.1)).Nodup) (hl : d.length + (Ut05.anchorsOf ss).length ≤ 1000)
    (h : ∀ o3 o4 o5, nx.nx [some (.ref a), some (.ref b), some (.ref D), o3, o4, o5] (upd H D (.dK (encD (bumps d (Ut05.anchorsOf ss) z))))) {o3 o4 o5 : Option V} :
    tFor (iList K (tVar i)) (gName 3) (tFor (iList K (tFld K (tVar 3) "anchors")) (gName 4) (sDPut (tVar 2) (tVar 4) (tOp r (tDGet2 (tVar 2) (tVar 4) (tC (.int 0))) tz))) nx
      [some (.ref a), some (.ref b), some (.ref D), o3, o4, o5] (upd H D (.dK (encD d))) := by
  obtain ⟨xs, hx, hp⟩ := hS
  have sm : ∀ o, Same H (upd H D o) := fun o => Same.upd hD
  refine ⟨_, hi _ _ _, xi, rfl, ⟨xs, SqL.of (sm _ _ _ hx)⟩, for_list (xs := xs) (fun n σ H' => ∃ o3 o4 o5, σ = [some (.ref a), some (.ref b), some (.ref D), o3, o4, o5] ∧ H' = upd H D (.dK (encD (bumps d (Ut05.anchorsOf (ss.take n)) z))))
    ⟨_, _, _, rfl, rfl⟩ (fun n σ H' _ ⟨_, _, _, _, e⟩ => by rw [e]; exact SqL.of (sm _ _ _ hx)) ?_ ?_⟩
  · rintro n v σ H' hv ⟨o3, o4, o5, rfl, rfl⟩
    obtain ⟨s, hs, p, dx, la, rfl, hp1, hla⟩ := paired_at hp hv
    have le := anchors_le hs
    refine ⟨_, rfl, p, A.CS, dx, _, _, rfl, sm _ _ _ hp1, T.clS, T.sA, sF_anchors s la, la, rfl, ⟨_, SqL.of (sm _ _ _ hla)⟩, for_list (xs := s.anchors.map nv) (fun m σ H' => ∃ o4 o5, σ = [some (.ref a), some (.ref b), some (.ref D), some (.ref p), o4, o5] ∧
      H' = upd H D (.dK (encD (bumps (bumps d (Ut05.anchorsOf (ss.take n)) z) (s.anchors.take m) z)))) ⟨_, _, rfl, rfl⟩ (fun m σ H' _ ⟨_, _, _, e⟩ => by rw [e]; exact SqL.of (sm _ _ _ hla)) ?_ ?_⟩
    · rintro m u σ H' hu ⟨o4, o5, rfl, rfl⟩
      obtain ⟨x, hx, rfl⟩ : ∃ x, s.anchors[m]? = some x ∧ u = nv x := by
        rw [List.getElem?_map] at hu
        obtain ⟨x, h1, h2⟩ := Option.map_eq_some_iff.mp hu
        exact ⟨x, h1, h2.symm⟩
      have hm : m < s.anchors.length := (List.getElem?_eq_some_iff.mp hx).1
      have h1 := bumps_len z (Ut05.anchorsOf (ss.take n)) d
      have h2 := bumps_len z (s.anchors.take m) (bumps d (Ut05.anchorsOf (ss.take n)) z)
      rw [List.length_take] at h2
      refine rd_bump (hr _) rfl rfl upd_same (bumps_nodup z _ (bumps_nodup z _ hn)) (by omega) ⟨_, _, rfl, ?_⟩
      rw [upd_upd, ← bumps_more, take_more hx]
    · rintro σ H' ⟨o4, o5, rfl, rfl⟩
      refine ⟨_, _, _, rfl, ?_⟩
      rw [List.length_map, List.take_length, ← bumps_append, anchors_take hs]
  · rintro σ H' ⟨o3, o4, o5, rfl, rfl⟩
    rw [paired_len hp, List.take_length]
    exact h _ _ _
theorem ok_lack {f : Addr} {fd : FuncData} (F : Fun K "lacking_anchors" "lacking_anchors" stLack f fd) (T : Txt K mg A) : FnOk P w K mg base CX0 1 f fd ["ones", "others"] (spLack A) := by
  refine F.ok scLack (fun vs H Q E h => ?_) (fun cdv Ar outer s H vs Q E hr h => ⟨_, pss_cons (ps_set (i := 2) scLack.nd rfl (.inl rfl) pe_dnewK)
    (pss_cons (ps_for PassesOwn.never rfl (pi_list (pv 0)) (pg_name (i := 3) scLack.nd rfl (.inl rfl)) (pss_one (ps_for PassesOwn.never rfl (pi_list (pe_fld (pv 3) rfl)) (pg_name (i := 4) scLack.nd rfl (.inl rfl))
      (pss_one (ps_dput (hu_of hr) (pv 2) (pv 4) (pe_op op_add (pe_dget2 (hu_of hr) (pv 2) (pv 4) pe_int ⟨rfl, rfl, rfl, rfl⟩) pe_int) rfl)))))
    (pss_cons (ps_for PassesOwn.never rfl (pi_list (pv 1)) (pg_name (i := 3) scLack.nd rfl (.inl rfl)) (pss_one (ps_for PassesOwn.never rfl (pi_list (pe_fld (pv 3) rfl)) (pg_name (i := 4) scLack.nd rfl (.inl rfl))
      (pss_one (ps_dput (hu_of hr) (pv 2) (pv 4) (pe_op op_sub (pe_dget2 (hu_of hr) (pv 2) (pv 4) pe_int ⟨rfl, rfl, rfl, rfl⟩) pe_int) rfl)))))
    (pss_one (ps_ret (pe_callB (cr_sum rfl) (by rfl) T.sum (by decide +kernel) (pa_cons (pe_lock (pe_lc (own := [("times", 5)]) (g := gName 5) (tt := tYes) (te := tCB (fun xs H Q => ∃ i, xs = [V.int i] ∧ Q (.int (if i < 0 then -i else i)) H) (tCons (tVar 5) tNil)) rfl scLack.nd (pi_values (pv 2))
      (blkOk_by (N := ["ones", "others", "surplus", "sentence", "anchor", "times"]) (sc := defScope stLack) (own := [("times", 5)]) (by decide +kernel)) (fun _ _ _ _ _ => pg_name (i := 5) scLack.nd rfl (Or.inl rfl)) (fun _ _ _ _ _ => pts_nil)
      (fun _ _ _ _ _ => by exact pe_callB call_abs (by rfl) T.abs (by decide +kernel) (pa_cons (pv 5) pa_nil)))) pa_nil)))))), ?_⟩)
  · obtain ⟨a, b, s1, s2, rfl, _⟩ := h
    rfl
  · obtain ⟨a, b, s1, s2, rfl, h1, h2, hl, q⟩ := h
    intro D hD
    refine rd_surplus (d := []) T (z := 1) (r := rI0 fun i j => .int (i + j)) (tz := tC (.int 1)) (fun σ y Q H q => ⟨_, _, rfl, rfl, q⟩) (fun _ _ _ => rfl) h1 hD (by simp) (by simp; omega) fun o3 o4 o5 => ?_
    have l1 := bumps_len 1 (Ut05.anchorsOf s1) []
    simp only [List.length_nil, Nat.zero_add] at l1
    refine rd_surplus T (z := -1) (r := rI0 fun i j => .int (i - j)) (tz := tC (.int 1)) (fun σ y Q H q => ⟨_, _, rfl, rfl, q⟩) (fun _ _ _ => rfl) h2 hD (bumps_nodup 1 _ (by simp)) (by omega) fun o3' o4' o5' => ?_
    have hDn : ∀ {b : Addr} {o : HO}, H b = some o → b ≠ D := fun e => ne_of_none e hD
    refine ⟨D, _, upd_same, trivial, fun od => ⟨_, rfl, D, od, _, rfl, upd_same, fun D2 hD2 => ?_⟩⟩
    have nD : D ≠ D2 := ne_of_none (upd_same) hD2
    rw [upd_upd] at hD2
    have hD2H : H D2 = none := by
      rw [upd_ne (Ne.symm nD)] at hD2
      exact hD2
    refine lc_it walk_values (fun n H' => H' = upd (upd H D (.frz od (.dK (encD (bumps (bumps [] (Ut05.anchorsOf s1) 1) (Ut05.anchorsOf s2) (-1)))))) D2 (.lst (((bumps (bumps [] (Ut05.anchorsOf s1) 1) (Ut05.anchorsOf s2) (-1)).take n).map fun p => V.int (absI p.2)))) ?_ ?_ ?_ ?_
    · rw [upd_upd]
      rfl
    · rintro n H' _ rfl
      rw [upd_ne nD]
      exact upd_same
    · rintro n x H' H'' hn rfl ⟨rfl, k, hk⟩
      rw [encD_len] at hn
      obtain ⟨p, hp, e⟩ : ∃ p, (bumps (bumps [] (Ut05.anchorsOf s1) 1) (Ut05.anchorsOf s2) (-1))[n]? = some p ∧ x = V.int p.2 := by
        unfold encD at hk
        rw [List.getElem?_map] at hk
        obtain ⟨p, h1, h2⟩ := Option.map_eq_some_iff.mp hk
        exact ⟨p, h1, (congrArg Prod.snd h2).symm⟩
      subst e
      refine ⟨rfl, _, rfl, _, rfl, _, upd_same, ?_, ?_⟩
      · have l2 := bumps_len (-1) (Ut05.anchorsOf s2) (bumps [] (Ut05.anchorsOf s1) 1)
        rw [List.length_map, List.length_take]
        exact small1000 (by omega)
      · rw [upd_upd, take_more hp, List.map_append]
        rfl
    · rintro H' rfl
      rw [encD_len, List.take_length]
      refine ⟨by rw [upd_ne nD]; exact upd_same, D2, (bumps (bumps [] (Ut05.anchorsOf s1) 1) (Ut05.anchorsOf s2) (-1)).map fun p => absI p.2, rfl, SqL.of ?_, ?_⟩
      · rw [upd_ne (Ne.symm nD), upd_same, List.map_map]
        rfl
      · rw [lacking_table]
        refine q _ fun b o e => ?_
        rw [upd_ne (hDn e), upd_ne (ne_of_none e hD2H), upd_ne (hDn e)]
        exact e
end
end Sy

namespace Sy
open PySem PySem.Spec PyProof.Rows L2
/-! kind_of, sizes_of -/
abbrev stKind : Stmt := top 8
abbrev stSizes : Stmt := top 9
def kindOf (m o : Nat) : Option Nat := ks6.find? fun k => decide (bd k = (m, o))
def optV : Option Nat → V
  | none => .non
  | some k => nv k
def spKind : Sp := fun vs H Q _ => ∃ (m o : Nat), vs = [nv m, nv o] ∧ ∀ H', Same H H' → Q (optV (kindOf m o)) H'
def sizesOf (ks : List Nat) : List Nat := ks.flatMap fun k => [(bd k).1, (bd k).2]
def spSizes : Sp := fun vs H Q _ => ∃ (a : Addr) (ks : List Nat), vs = [.ref a] ∧ H a = some (.lst (ks.map nv)) ∧ (∀ k ∈ ks, k ∈ ks6) ∧ ks.length ≤ 1000 ∧ ∀ H' p, Same H H' → H p = none → H' p = some (.lst ((sizesOf ks).map nv)) → Q (.ref p) H'
theorem kindOf_none {m o : Nat} (h : ∀ k, k < 6 → bd k ≠ (m, o)) : kindOf m o = none := by
  unfold kindOf
  rw [List.find?_eq_none]
  intro k hk
  have : k < 6 := by
    simp only [List.mem_cons, List.not_mem_nil, or_false] at hk
    omega
  simpa using h k this
theorem ks6_at {n k : Nat} (h : ks6[n]? = some k) : k = n ∧ n < 6 := by
  have hn : n < 6 := (List.getElem?_eq_some_iff.mp h).1
  match n, hn with
  | 0, _ => exact ⟨(Option.some.inj h).symm, by omega⟩
  | 1, _ => exact ⟨(Option.some.inj h).symm, by omega⟩
  | 2, _ => exact ⟨(Option.some.inj h).symm, by omega⟩
  | 3, _ => exact ⟨(Option.some.inj h).symm, by omega⟩
  | 4, _ => exact ⟨(Option.some.inj h).symm, by omega⟩
  | 5, _ => exact ⟨(Option.some.inj h).symm, by omega⟩
theorem ks6_mem {n : Nat} (h : n < 6) : n ∈ ks6 := by
  simp only [List.mem_cons, List.not_mem_nil, or_false]
  omega
theorem ks6_lt {n : Nat} (h : n ∈ ks6) : n < 6 := by
  simp only [List.mem_cons, List.not_mem_nil, or_false] at h
  omega
theorem kindOf_some {m o n : Nat} (hn : n < 6) (h : ∀ k, k < n → bd k ≠ (m, o)) (e : bd n = (m, o)) : kindOf m o = some n := by
  unfold kindOf
  match n, hn with
  | 0, _ => rw [List.find?_cons_of_pos (by simpa using e)]
  | 1, _ => rw [List.find?_cons_of_neg (by simpa using h 0 (by omega)), List.find?_cons_of_pos (by simpa using e)]
  | 2, _ => rw [List.find?_cons_of_neg (by simpa using h 0 (by omega)), List.find?_cons_of_neg (by simpa using h 1 (by omega)), List.find?_cons_of_pos (by simpa using e)]
  | 3, _ => rw [List.find?_cons_of_neg (by simpa using h 0 (by omega)), List.find?_cons_of_neg (by simpa using h 1 (by omega)), List.find?_cons_of_neg (by simpa using h 2 (by omega)), List.find?_cons_of_pos (by simpa using e)]
  | 4, _ => rw [List.find?_cons_of_neg (by simpa using h 0 (by omega)), List.find?_cons_of_neg (by simpa using h 1 (by omega)), List.find?_cons_of_neg (by simpa using h 2 (by omega)), List.find?_cons_of_neg (by simpa using h 3 (by omega)), List.find?_cons_of_pos (by simpa using e)]
  | 5, _ => rw [List.find?_cons_of_neg (by simpa using h 0 (by omega)), List.find?_cons_of_neg (by simpa using h 1 (by omega)), List.find?_cons_of_neg (by simpa using h 2 (by omega)), List.find?_cons_of_neg (by simpa using h 3 (by omega)), List.find?_cons_of_neg (by simpa using h 4 (by omega)), List.find?_cons_of_pos (by simpa using e)]
section
variable {P : Program} {w : World} {K : PySem.W.Frag} {mg : Str → Option Value} {base : Heap} {A : Ads}
theorem dp_pair {H : Hp} {r : Addr} {f : Nat × Nat} (h : SqT K H r [nv f.1, nv f.2]) : Dp K H (.ref r) (dPair f) := .tup h (.cons (.int _) (.cons (.int _) .nil))
theorem scKind : FnScope ["many", "others", "kind", "size"] ["many", "others"] (defScope stKind) := ⟨rfl, rfl, rfl, by decide +kernel, rfl, by decide +kernel, by decide +kernel⟩
theorem ok_kind {f : Addr} {fd : FuncData} (F : Fun K "kind_of" "kind_of" stKind f fd) (T : Txt K mg A) : FnOk P w K mg base CX0 1 f fd ["many", "others"] spKind := by
  refine F.ok scKind (fun vs H Q E h => ?_) (fun cdv Ar outer s H vs Q E hr h => ⟨_, pss_cons (ps_for PassesOwn.never rfl (pi_enumTup rfl T.enum (pa_cons (pe_gref rfl T.gK) pa_nil))
      (pg_tup rfl (pgs_cons (pg_name (i := 2) scKind.nd rfl (.inl rfl)) (pgs_cons (pg_name (i := 3) scKind.nd rfl (.inl rfl)) pgs_nil)))
      (pss_one (ps_if (pt_cmpR (op_eqD hr.units) (pv 3) (pe_tup (pa_cons (pv 0) (pa_cons (pv 1) pa_nil))) (nomark _)) (pss_one (ps_ret (pv 2))) pss_nil)))
    (pss_one (ps_ret pe_non)), ?_⟩)
  · obtain ⟨m, o, rfl, _⟩ := h
    rfl
  · obtain ⟨m, o, rfl, q⟩ := h
    refine ⟨A.kT, _, rfl, T.kT _, for_it walk_enumT (fun n σ H' => Same H H' ∧ (∀ k, k < n → bd k ≠ (m, o)) ∧ ∃ o2 o3, σ = [some (nv m), some (nv o), o2, o3]) ⟨Same.refl H, fun k hk => absurd hk (Nat.not_lt_zero k), _, _, rfl⟩ (fun n σ H' _ _ => T.kT _) ?_ ?_⟩
    · rintro n v σ H' H'' hn ⟨sm, hno, o2, o3, rfl⟩ ⟨Tn, x, y, rfl, hT, rfl, ex, ey⟩
      rw [List.length_map, T.k6] at hn
      cases Option.some.inj ex
      obtain ⟨r, hr1, hr2⟩ := T.kB (upd H' Tn (.tup [.int (n : Nat), y])) n (ks6_mem hn)
      have ey2 : y = V.ref r := by
        have ey : (A.ks.map V.ref)[n]? = some y := ey
        rw [List.getElem?_map, hr1] at ey
        exact (Option.some.inj ey).symm
      subst ey2
      refine ⟨Tn, _, rfl, SqT.of upd_same, rfl, _, _, rfl, _, _, rfl, rfl, _, rfl, _, rfl, _, rfl, (by show 2 ≤ sizeLine; decide), fun p hp => ?_⟩
      obtain ⟨r', hr1', hr2'⟩ := T.kB (upd (upd H' Tn (.tup [.int (n : Nat), V.ref r])) p (.tup [nv m, nv o])) n (ks6_mem hn)
      have er : r' = r := Option.some.inj (hr1'.symm.trans hr1)
      subst er
      refine ⟨_, _, dp_pair hr2', dp_pair (f := (m, o)) (SqT.of upd_same), dPair_shaped _, dPair_shaped _, _, rfl, ?_⟩
      have sm2 : Same H (upd (upd H' Tn (.tup [.int (n : Nat), V.ref r'])) p (.tup [nv m, nv o])) := (sm.trans (Same.upd hT)).trans (Same.upd hp)
      rw [dPair_eqv]
      refine if_dec (fun c => ?_) fun c => ?_
      · refine ⟨_, rfl, ?_⟩
        have := q _ sm2
        rw [kindOf_some hn hno c] at this
        exact this
      · refine ⟨sm2, fun k hk => ?_, _, _, rfl⟩
        by_cases e : k = n
        · subst e
          exact c
        · exact hno k (by omega)
    · rintro σ H' ⟨sm, hno, o2, o3, rfl⟩
      rw [List.length_map, T.k6] at hno
      have := q _ sm
      rw [kindOf_none hno] at this
      exact this
theorem scSizes : FnScope ["kinds", "sizes", "kind"] ["kinds"] (defScope stSizes) := ⟨rfl, rfl, rfl, by decide +kernel, rfl, by decide +kernel, by decide +kernel⟩
theorem sizes_take {ks : List Nat} {n k : Nat} (h : ks[n]? = some k) : sizesOf (ks.take (n + 1)) = sizesOf (ks.take n) ++ [(bd k).1, (bd k).2] := by
  unfold sizesOf
  rw [take_more h, List.flatMap_append]
  simp
theorem sizes_len : ∀ ks : List Nat, (sizesOf ks).length = 2 * ks.length
  | [] => rfl
  | k :: ks => by
    have ih := sizes_len ks
    unfold sizesOf at ih ⊢
    rw [List.flatMap_cons, List.length_append, ih, List.length_cons]
    simp
    omega
theorem ok_sizes {f : Addr} {fd : FuncData} (F : Fun K "sizes_of" "sizes_of" stSizes f fd) (T : Txt K mg A) : FnOk P w K mg base CX0 1 f fd ["kinds"] spSizes := by
  refine F.ok scSizes (fun vs H Q E h => ?_) (fun cdv Ar outer s H vs Q E hr h => ⟨_, pss_cons (ps_set (i := 1) scSizes.nd rfl (.inl rfl) (pe_lst pa_nil))
    (pss_cons (ps_for PassesOwn.never rfl (pi_list (pv 0)) (pg_name (i := 2) scSizes.nd rfl (.inl rfl))
      (pss_cons (ps_expr (pe_bm PySem.F.plainAttrs_list PySem.F.slot_list_append PySem.F.type_list_append mt_append (pv 1) (pa_cons (pe_ix ix_tup (pe_ix ix_tup (pe_gref rfl T.gK) (pv 2) (fun _ _ => rfl)) pe_int (fun _ _ => rfl)) pa_nil)))
      (pss_one (ps_expr (pe_bm PySem.F.plainAttrs_list PySem.F.slot_list_append PySem.F.type_list_append mt_append (pv 1) (pa_cons (pe_ix ix_tup (pe_ix ix_tup (pe_gref rfl T.gK) (pv 2) (fun _ _ => rfl)) pe_int (fun _ _ => rfl)) pa_nil))))))
    (pss_one (ps_ret (pv 1)))), ?_⟩)
  · obtain ⟨a, ks, rfl, _⟩ := h
    rfl
  · obtain ⟨a, ks, rfl, ha, hk, hl, q⟩ := h
    refine ⟨Nat.zero_le _, fun p hp => ?_⟩
    have sm : ∀ o, Same H (upd H p o) := fun o => Same.upd hp
    refine ⟨_, rfl, a, rfl, ⟨_, SqL.of (sm _ _ _ ha)⟩, for_list (xs := ks.map nv) (fun n σ H' => ∃ o2, σ = [some (.ref a), some (.ref p), o2] ∧ H' = upd H p (.lst ((sizesOf (ks.take n)).map nv))) ⟨_, rfl, rfl⟩
      (fun n σ H' _ ⟨_, _, e⟩ => by rw [e]; exact SqL.of (sm _ _ _ ha)) ?_ ?_⟩
    · rintro n v σ H' hv ⟨o2, rfl, rfl⟩
      obtain ⟨k, hkn, rfl⟩ : ∃ k, ks[n]? = some k ∧ v = nv k := by
        rw [List.getElem?_map] at hv
        obtain ⟨x, h1, h2⟩ := Option.map_eq_some_iff.mp hv
        exact ⟨x, h1, h2.symm⟩
      have hm := hk k (List.mem_of_getElem? hkn)
      have hn : n < ks.length := (List.getElem?_eq_some_iff.mp hkn).1
      have le := sizes_len (ks.take n)
      rw [List.length_take] at le
      have lt : (sizesOf (ks.take n)).length + 1 < 16777216 := by omega
      have sz : (sizeLine : Nat) = 16777216 := sizeLine_eq
      refine ⟨_, rfl, .inl ⟨rfl, _, SqL.of upd_same⟩, T.kind0 hm rfl ⟨p, _, _, rfl, rfl, upd_same, ?_, ?_⟩⟩
      · rw [List.length_map]
        omega
      refine ⟨_, rfl, .inl ⟨rfl, _, SqL.of upd_same⟩, T.kind1 hm rfl ⟨p, _, _, rfl, rfl, upd_same, ?_, ?_⟩⟩
      · rw [List.length_append, List.length_map]
        show _ + 1 < _
        omega
      · refine ⟨_, rfl, ?_⟩
        rw [upd_upd, upd_upd, sizes_take hkn, List.map_append]
        simp
    · rintro σ H' ⟨o2, rfl, rfl⟩
      rw [List.length_map, List.take_length]
      exact ⟨_, rfl, q _ p (sm _) hp upd_same⟩
end
end Sy

namespace Sy
open PySem PySem.Spec PyProof.Rows L2
/-! Sentence.__init__, Yard.__init__, Yard.bead_cost -/
abbrev stSInit : Stmt := inClass (top 2) 0
abbrev stYInit : Stmt := inClass (top 3) 0
abbrev stCost : Stmt := inClass (top 3) 4
def spSInit (A : Ads) : Sp := fun vs H Q _ => ∃ (p dx la : Addr) (s : Ut05.Sent), vs = [.ref p, nv s.long, .ref la] ∧ H p = some (.ins A.CS dx []) ∧ ∀ H', H' p = some (.ins A.CS dx (sF s la)) → But H H' p → Q .non H'
def spYInit (A : Ads) : Sp := fun vs H Q _ => ∃ (p dx : Addr), vs = [.ref p] ∧ H p = some (.ins A.CY dx []) ∧ ∀ H', YardO A (fun b => b = p ∨ H b = none) H' p Ut05.init → But H H' p → Q .non H'
def spCost (A : Ads) : Sp := fun vs H Q _ => ∃ (y : Addr) (own : List Addr) (g : Ut05.House) (k i j : Nat), vs = [.ref y, nv k, nv i, nv j] ∧ YardAt A H y own g ∧ Good g ∧ k ∈ ks6 ∧ ∀ H', Same H H' → Q (nv (beadCost g.costs g.one g.two k i j)) H'
theorem anchors_four : ∀ {l : List Ut05.Sent}, (∀ s ∈ l, s.anchors.length ≤ 4) → (Ut05.anchorsOf l).length ≤ 4 * l.length
  | [], _ => Nat.le_refl _
  | s :: l, h => by
    have ih := anchors_four (l := l) fun t ht => h t (List.mem_cons_of_mem _ ht)
    have h1 := h s (List.mem_cons_self ..)
    unfold Ut05.anchorsOf at ih ⊢
    rw [List.flatMap_cons, List.length_append, List.length_cons]
    omega
section
variable {P : Program} {w : World} {K : PySem.W.Frag} {mg : Str → Option Value} {base : Heap} {A : Ads}
theorem scSInit : FnScope ["self", "length", "anchors"] ["self", "length", "anchors"] (defScope stSInit) := ⟨rfl, rfl, rfl, by decide +kernel, rfl, by decide +kernel, by decide +kernel⟩
theorem ok_sinit {f : Addr} {fd : FuncData} (F : Fun K "__init__" "Sentence.__init__" stSInit f fd) (T : Txt K mg A) : FnOk P w K mg base CX0 1 f fd ["self", "length", "anchors"] (spSInit A) := by
  refine F.ok scSInit (fun vs H Q E h => ?_) (fun cdv Ar outer s H vs Q E hr h => ⟨_, pss_cons (ps_fld (pv 0) (pv 1) rfl) (pss_one (ps_fld (pv 0) (pv 2) rfl)), ?_⟩)
  · obtain ⟨p, dx, la, s, rfl, _⟩ := h
    rfl
  · obtain ⟨p, dx, la, s, rfl, hp, q⟩ := h
    refine ⟨_, rfl, _, rfl, p, A.CS, dx, [], rfl, hp, T.clS, T.sL, (by show 0 < 1000; decide), ?_⟩
    refine ⟨_, rfl, _, rfl, p, A.CS, dx, _, rfl, upd_same, T.clS, T.sA, (by show 1 < 1000; decide), ?_⟩
    refine q _ (by rw [upd_same, sF_new]) fun b o e hb => ?_
    rw [upd_ne hb, upd_ne hb]
    exact e
theorem yF_new (ak a1 a2 af : Addr) : putF "fixed" (.ref af) (putF "second" (.ref a2) (putF "first" (.ref a1) (putF "anchor_price" (.int 10) (putF "weight" (.int 1) (putF "share" (.int 100) (putF "kind_costs" (.ref ak) [])))))) = yF Ut05.init.costs ak a1 a2 af := by
  rw [putF_new (f := "kind_costs") [] rfl (by decide +kernel), putF_new (f := "share") ["kind_costs"] rfl (by decide +kernel), putF_new (f := "weight") ["kind_costs", "share"] rfl (by decide +kernel), putF_new (f := "anchor_price") ["kind_costs", "share", "weight"] rfl (by decide +kernel),
    putF_new (f := "first") ["kind_costs", "share", "weight", "anchor_price"] rfl (by decide +kernel), putF_new (f := "second") ["kind_costs", "share", "weight", "anchor_price", "first"] rfl (by decide +kernel),
    putF_new (f := "fixed") ["kind_costs", "share", "weight", "anchor_price", "first", "second"] rfl (by decide +kernel)]
  rfl
theorem scYInit : FnScope ["self"] ["self"] (defScope stYInit) := ⟨rfl, rfl, rfl, by decide +kernel, rfl, by decide +kernel, by decide +kernel⟩
theorem ok_yinit {f : Addr} {fd : FuncData} (F : Fun K "__init__" "Yard.__init__" stYInit f fd) (T : Txt K mg A) : FnOk P w K mg base CX0 1 f fd ["self"] (spYInit A) := by
  refine F.ok scYInit (fun vs H Q E h => ?_) (fun cdv Ar outer s H vs Q E hr h => ⟨_, pss_cons (ps_fld (pv 0) (pe_lst (pa_cons pe_int (pa_cons pe_int (pa_cons pe_int (pa_cons pe_int (pa_cons pe_int (pa_cons pe_int pa_nil))))))) rfl)
    (pss_cons (ps_fld (pv 0) pe_int rfl) (pss_cons (ps_fld (pv 0) pe_int rfl) (pss_cons (ps_fld (pv 0) pe_int rfl) (pss_cons (ps_fld (pv 0) (pe_lst pa_nil) rfl) (pss_cons (ps_fld (pv 0) (pe_lst pa_nil) rfl) (pss_one (ps_fld (pv 0) (pe_lst pa_nil) rfl))))))), ?_⟩)
  · obtain ⟨p, dx, rfl, _⟩ := h
    rfl
  · obtain ⟨p, dx, rfl, hp, q⟩ := h
    refine ⟨(by show 6 ≤ sizeLine; decide), fun ak nak => ?_⟩
    have n1 : p ≠ ak := ne_of_none hp nak
    have g1 : But H _ p := (But.refl H p).new (o := .lst [.int 0, .int 5, .int 5, .int 8, .int 12, .int 12]) nak
    refine ⟨_, rfl, p, A.CY, dx, [], rfl, (by rw [upd_ne n1]; exact hp), T.clY, T.yK, (by show 0 < 1000; decide), ?_⟩
    refine ⟨_, rfl, p, A.CY, dx, _, rfl, upd_same, T.clY, T.yS, (by show 1 < 1000; decide), ?_⟩
    refine ⟨_, rfl, p, A.CY, dx, _, rfl, upd_same, T.clY, T.yW, (by show 2 < 1000; decide), ?_⟩
    refine ⟨_, rfl, p, A.CY, dx, _, rfl, upd_same, T.clY, T.yA, (by show 3 < 1000; decide), ?_⟩
    rw [upd_upd, upd_upd, upd_upd]
    refine ⟨Nat.zero_le _, fun a1 na1 => ?_⟩
    have n2 : p ≠ a1 := ne_of_none upd_same na1
    refine ⟨_, rfl, p, A.CY, dx, _, rfl, (by rw [upd_ne n2]; exact upd_same), T.clY, T.y1, (by show 4 < 1000; decide), ?_⟩
    refine ⟨Nat.zero_le _, fun a2 na2 => ?_⟩
    have n3 : p ≠ a2 := ne_of_none upd_same na2
    refine ⟨_, rfl, p, A.CY, dx, _, rfl, (by rw [upd_ne n3]; exact upd_same), T.clY, T.y2, (by show 5 < 1000; decide), ?_⟩
    refine ⟨Nat.zero_le _, fun af naf => ?_⟩
    have n4 : p ≠ af := ne_of_none upd_same naf
    refine ⟨_, rfl, p, A.CY, dx, _, rfl, (by rw [upd_ne n4]; exact upd_same), T.clY, T.yX, (by show 6 < 1000; decide), ?_⟩
    have q1 : H a1 = none := (But.self (But.new (But.refl H p) nak)).none upd_same na1
    have q2 : H a2 = none := (But.self (But.new (But.self (But.new (But.refl H p) nak)) na1)).none upd_same na2
    have q3 : H af = none := (But.self (But.new (But.self (But.new (But.self (But.new (But.refl H p) nak)) na1)) na2)).none upd_same naf
    have w1 := upd_same (H := H) (a := ak) (o := .lst [.int 0, .int 5, .int 5, .int 8, .int 12, .int 12])
    have k1 : ak ≠ a1 := ne_of_none ((upd_ne (Ne.symm n1)).trans w1) na1
    have k2 : ak ≠ a2 := ne_of_none ((upd_ne (Ne.symm n1)).trans (Same.upd na1 _ _ ((upd_ne (Ne.symm n1)).trans w1))) na2
    have k3 : ak ≠ af := ne_of_none ((upd_ne (Ne.symm n1)).trans (Same.upd na2 _ _ ((upd_ne (Ne.symm n1)).trans (Same.upd na1 _ _ ((upd_ne (Ne.symm n1)).trans w1))))) naf
    have k12 : a1 ≠ a2 := ne_of_none ((upd_ne (Ne.symm n2)).trans upd_same) na2
    have k1f : a1 ≠ af := ne_of_none ((upd_ne (Ne.symm n2)).trans (Same.upd na2 _ _ ((upd_ne (Ne.symm n2)).trans upd_same))) naf
    have k2f : a2 ≠ af := ne_of_none ((upd_ne (Ne.symm n3)).trans upd_same) naf
    refine q _ ⟨dx, ak, a1, a2, af, .inl rfl, .inr nak, .inr q1, .inr q2, .inr q3, ⟨k1, k2, k3⟩, k12, k1f, k2f, upd_same.trans (congrArg (fun z => some (HO.ins A.CY dx z)) (yF_new ak a1 a2 af)), ?_, ⟨[], ?_, .nil⟩, ⟨[], ?_, .nil⟩, ⟨[], ?_, .nil⟩⟩
      (But.self (But.new (But.self (But.new (But.self (But.new (But.self (But.new (But.refl H p) nak)) na1)) na2)) naf))
    · rw [upd_ne (Ne.symm n1)]
      refine Same.upd naf _ _ ?_
      rw [upd_ne (Ne.symm n1)]
      refine Same.upd na2 _ _ ?_
      rw [upd_ne (Ne.symm n1)]
      refine Same.upd na1 _ _ ?_
      rw [upd_ne (Ne.symm n1)]
      exact w1
    · rw [upd_ne (Ne.symm n2)]
      refine Same.upd naf _ _ ?_
      rw [upd_ne (Ne.symm n2)]
      refine Same.upd na2 _ _ ?_
      rw [upd_ne (Ne.symm n2)]
      exact upd_same
    · rw [upd_ne (Ne.symm n3)]
      refine Same.upd naf _ _ ?_
      rw [upd_ne (Ne.symm n3)]
      exact upd_same
    · rw [upd_ne (Ne.symm n4)]
      exact upd_same
theorem cost_both {c : Ut05.Costs} {a b : List Ut05.Sent} {k i j : Nat} (h1 : ((a.drop i).take (bd k).1).isEmpty = false) (h2 : ((b.drop j).take (bd k).2).isEmpty = false) :
    (beadCost c a b k i j : Int) = ((c.kind.getD k 0 : Nat) : Int) + (c.anchor : Int) * ((Ut05.lacking (Ut05.anchorsOf ((a.drop i).take (bd k).1)) (Ut05.anchorsOf ((b.drop j).take (bd k).2)) + Ut05.lacking (Ut05.anchorsOf ((b.drop j).take (bd k).2)) (Ut05.anchorsOf ((a.drop i).take (bd k).1)) : Nat) : Int) +
      (c.weight : Int) * ((Ut05.apart (Ut05.longOf ((a.drop i).take (bd k).1) * c.share) (Ut05.longOf ((b.drop j).take (bd k).2) * 100) / 100 : Nat) : Int) := by
  unfold beadCost
  rw [if_neg (by
    rintro (q | q)
    · rw [q] at h1
      cases h1
    · rw [q] at h2
      cases h2), Int.natCast_add, Int.natCast_add, Int.natCast_mul, Int.natCast_mul]
theorem cost_one {c : Ut05.Costs} {a b : List Ut05.Sent} {k i j : Nat} (h : ((a.drop i).take (bd k).1).isEmpty = true ∨ ((b.drop j).take (bd k).2).isEmpty = true) :
    (beadCost c a b k i j : Int) = ((c.kind.getD k 0 : Nat) : Int) + (c.anchor : Int) * ((Ut05.lacking (Ut05.anchorsOf ((a.drop i).take (bd k).1)) (Ut05.anchorsOf ((b.drop j).take (bd k).2)) + Ut05.lacking (Ut05.anchorsOf ((b.drop j).take (bd k).2)) (Ut05.anchorsOf ((a.drop i).take (bd k).1)) : Nat) : Int) := by
  unfold beadCost
  rw [if_pos (by
    rcases h with q | q
    · exact .inl (List.isEmpty_iff.mp q)
    · exact .inr (List.isEmpty_iff.mp q)), Nat.add_zero, Int.natCast_add, Int.natCast_mul]
theorem empty_of {α β : Type} {F : α → β → Prop} {xs : List α} {ys : List β} (h : Paired F xs ys) : xs.isEmpty = ys.isEmpty := by
  cases h <;> rfl
theorem scCost : FnScope ["self", "kind", "i", "j", "ones", "others", "much"] ["self", "kind", "i", "j"] (defScope stCost) := ⟨rfl, rfl, rfl, by decide +kernel, rfl, by decide +kernel, by decide +kernel⟩
theorem ok_cost {f : Addr} {fd : FuncData} (F : Fun K "bead_cost" "Yard.bead_cost" stCost f fd) (T : Txt K mg A) (UL : Use P w K mg base CX0 1 "lacking_anchors" ["ones", "others"] (spLack A)) (UA : Use P w K mg base CX0 1 "lengths_apart" ["share", "ones", "others"] (spApart A)) :
    FnOk P w K mg base CX0 2 f fd ["self", "kind", "i", "j"] (spCost A) := by
  refine F.ok scCost (fun vs H Q E h => ?_) (fun cdv Ar outer s H vs Q E hr h => ⟨_, pss_cons (ps_set (i := 4) scCost.nd rfl (.inl rfl) (pe_slice sl_list (pe_fld (pv 0) rfl) (po_some (pv 2)) (po_some (pe_op op_add (pv 2) (pe_ix ix_tup (pe_ix ix_tup (pe_gref rfl T.gK) (pv 1) (fun _ _ => rfl)) pe_int (fun _ _ => rfl))))))
    (pss_cons (ps_set (i := 5) scCost.nd rfl (.inl rfl) (pe_slice sl_list (pe_fld (pv 0) rfl) (po_some (pv 3)) (po_some (pe_op op_add (pv 3) (pe_ix ix_tup (pe_ix ix_tup (pe_gref rfl T.gK) (pv 1) (fun _ _ => rfl)) pe_int (fun _ _ => rfl))))))
    (pss_cons (ps_set (i := 6) scCost.nd rfl (.inl rfl) (pe_op op_add (pe_ix ix_list (pe_fld (pv 0) rfl) (pv 1) (fun _ _ => rfl)) (pe_op op_mul (pe_fld (pv 0) rfl) (pe_use UL hr rfl pass0 (pa_cons (pv 4) (pa_cons (pv 5) pa_nil))))))
    (pss_cons (ps_if (pw_and (pt_truth (pv 4) (fun _ => rfl)) (pw_and1 (pt_truth (pv 5) (fun _ => rfl)))).pt
        (pss_one (ps_set (i := 6) scCost.nd rfl (.inl rfl) (pe_op op_add (pv 6) (pe_op op_mul (pe_fld (pv 0) rfl) (pe_use UA hr rfl pass0 (pa_cons (pe_fld (pv 0) rfl) (pa_cons (pv 4) (pa_cons (pv 5) pa_nil)))))))) pss_nil)
    (pss_one (ps_ret (pv 6)))))), ?_⟩)
  · obtain ⟨y, own, g, k, i, j, rfl, _⟩ := h
    rfl
  · obtain ⟨y, own, g, k, i, j, rfl, hY, hG, hk, q⟩ := h
    obtain ⟨dx, ak, a1, a2, af, _, hy, hak, ⟨v1, h1, p1⟩, ⟨v2, h2, p2⟩, hf⟩ := hY.ex
    refine ⟨_, rfl, y, A.CY, dx, _, _, rfl, hy, T.clY, T.y1, yF_first .., _, rfl, _, rfl, _, rfl, T.kind0 hk rfl ⟨_, _, rfl, rfl, _, rfl, a1, _, rfl, SqL.of h1, fun b1 nb1 => ?_⟩⟩
    generalize hl1 : cutV v1 (some (i : Int)) (some ((i : Int) + ((bd k).1 : Int))) = l1
    rw [cut_nat] at hl1
    have P1 : Paired (SenAt A.CS H) l1 ((g.one.drop i).take (bd k).1) := hl1 ▸ paired_take _ (paired_drop _ p1)
    have s1 := Same.upd (o := .lst l1) nb1
    refine ⟨_, rfl, y, A.CY, dx, _, _, rfl, s1 _ _ hy, T.clY, T.y2, yF_second .., _, rfl, _, rfl, _, rfl, T.kind1 hk rfl ⟨_, _, rfl, rfl, _, rfl, a2, _, rfl, SqL.of (s1 _ _ h2), fun b2 nb2 => ?_⟩⟩
    generalize hl2 : cutV v2 (some (j : Int)) (some ((j : Int) + ((bd k).2 : Int))) = l2
    rw [cut_nat] at hl2
    have P2 : Paired (SenAt A.CS H) l2 ((g.two.drop j).take (bd k).2) := hl2 ▸ paired_take _ (paired_drop _ p2)
    have s2 := Same.upd (o := .lst l2) nb2
    have s12 := s1.trans s2
    have S1 : SensAt A.CS (upd (upd H b1 (.lst l1)) b2 (.lst l2)) b1 ((g.one.drop i).take (bd k).1) := ⟨l1, s2 _ _ upd_same, Paired.mapP P1 fun _ _ z => SenAt.same s12 z⟩
    have S2 : SensAt A.CS (upd (upd H b1 (.lst l1)) b2 (.lst l2)) b2 ((g.two.drop j).take (bd k).2) := ⟨l2, upd_same, Paired.mapP P2 fun _ _ z => SenAt.same s12 z⟩
    have el1 := empty_of P1
    have el2 := empty_of P2
    have hl1' : (upd (upd H b1 (.lst l1)) b2 (.lst l2)) b1 = some (.lst l1) := s2 _ _ upd_same
    have hl2' : (upd (upd H b1 (.lst l1)) b2 (.lst l2)) b2 = some (.lst l2) := upd_same
    generalize upd (upd H b1 (.lst l1)) b2 (.lst l2) = H2 at s12 S1 S2 hl1' hl2' ⊢
    have hk6 : k < g.costs.kind.length := by
      have := hG.k6
      simp only [List.mem_cons, List.not_mem_nil, or_false] at hk
      omega
    have c1 : ((g.one.drop i).take (bd k).1).length ≤ 14 := by
      have := hG.one
      rw [List.length_take, List.length_drop]
      omega
    have c2 : ((g.two.drop j).take (bd k).2).length ≤ 14 := by
      have := hG.two
      rw [List.length_take, List.length_drop]
      omega
    have b1' := anchors_four (l := (g.one.drop i).take (bd k).1) fun s hs => (hG.sens s (.inl (List.mem_of_mem_drop (List.mem_of_mem_take hs)))).2.1
    have b2' := anchors_four (l := (g.two.drop j).take (bd k).2) fun s hs => (hG.sens s (.inr (List.mem_of_mem_drop (List.mem_of_mem_take hs)))).2.1
    have an := hG.anchor
    have we := hG.weight
    refine ⟨_, rfl, y, A.CY, dx, _, _, rfl, s12 _ _ hy, T.clY, T.yK, yF_kind .., _, rfl, ak, _, _, nv (g.costs.kind.getD k 0), rfl, rfl, SqL.of (s12 _ _ hak), atI_nat (by rw [List.getElem?_map, List.getElem?_eq_getElem hk6, List.getD_eq_getElem?_getD, List.getElem?_eq_getElem hk6]; rfl), ?_⟩
    refine ⟨_, rfl, y, A.CY, dx, _, _, rfl, s12 _ _ hy, T.clY, T.yA, yF_anchor .., _, rfl, _, rfl, b1, b2, _, _, rfl, S1, S2, by omega, fun H3 s3 => ?_⟩
    refine ⟨_, _, rfl, rfl, .inl ⟨by omega, by omega⟩, _, _, rfl, rfl, ?_⟩
    refine ⟨_, rfl, !l1.isEmpty, .inl ⟨_, SqL.of (s3 _ _ hl1'), rfl⟩, if_bool (fun t1 => ⟨_, rfl, !l2.isEmpty, .inl ⟨_, SqL.of (s3 _ _ hl2'), rfl⟩, if_bool (fun t2 => ?_) fun t2 => ?_⟩) fun t1 => ?_⟩
    · refine ⟨_, rfl, _, rfl, y, A.CY, dx, _, _, rfl, (s12.trans s3) _ _ hy, T.clY, T.yW, yF_weight .., _, rfl, y, A.CY, dx, _, _, rfl, (s12.trans s3) _ _ hy, T.clY, T.yS, yF_share .., _, rfl, _, rfl,
        b1, b2, _, _, _, rfl, S1.same s3, S2.same s3, by omega, by omega, hG.share, fun H4 s4 => ?_⟩
      refine ⟨_, _, rfl, rfl, .inl ⟨by omega, by omega⟩, _, _, rfl, rfl, _, rfl, ?_⟩
      have z := q H4 ((s12.trans s3).trans s4)
      rw [Bool.not_eq_true', el1] at t1
      rw [Bool.not_eq_true', el2] at t2
      rw [show (nv (beadCost g.costs g.one g.two k i j)) = V.int _ from congrArg V.int (cost_both t1 t2)] at z
      exact z
    · refine ⟨_, rfl, ?_⟩
      have z := q H3 (s12.trans s3)
      rw [Bool.not_eq_false', el2] at t2
      rw [show (nv (beadCost g.costs g.one g.two k i j)) = V.int _ from congrArg V.int (cost_one (.inr t2))] at z
      exact z
    · refine ⟨_, rfl, ?_⟩
      have z := q H3 (s12.trans s3)
      rw [Bool.not_eq_false', el1] at t1
      rw [show (nv (beadCost g.costs g.one g.two k i j)) = V.int _ from congrArg V.int (cost_one (.inl t1))] at z
      exact z
end
end Sy

namespace Sy
open PySem PySem.Spec PyProof.Rows L2
/-! Yard.best_rest -/
abbrev stRest : Stmt := inClass (top 3) 6
/-- a way on, as the program has it -/
def WayAt (H : Hp) (v : V) : Option (Nat × List Nat) → Prop
  | none => v = .non
  | some r => ∃ p l, v = .ref p ∧ H p = some (.tup [nv r.1, .ref l]) ∧ H l = some (.lst (r.2.map nv))
theorem WayAt.same {H H' : Hp} (e : Same H H') : ∀ {o : Option (Nat × List Nat)} {v : V}, WayAt H v o → WayAt H' v o
  | none, _, h => h
  | some _, _, ⟨p, l, h1, h2, h3⟩ => ⟨p, l, h1, e _ _ h2, e _ _ h3⟩
abbrev kk (i j : Nat) : List Key := [Sum.inl (i : Int), Sum.inl (j : Int)]
/-- the dict of ways -/
def RestsAt (H : Hp) (d : Addr) (B : Nat → Nat → Option (Nat × List Nat)) : Prop := ∃ kvs, H d = some (.dT kvs) ∧ ∀ i j, WayAt H ((valV kvs (kk i j)).getD .non) (B i j)
theorem RestsAt.same {H H' : Hp} {d : Addr} {B : Nat → Nat → Option (Nat × List Nat)} (e : Same H H') (h : RestsAt H d B) : RestsAt H' d B := by
  obtain ⟨kvs, h1, h2⟩ := h
  exact ⟨kvs, e _ _ h1, fun i j => (h2 i j).same e⟩
def spRest (A : Ads) : Sp := fun vs H Q _ => ∃ (y fa d : Addr) (own : List Addr) (g : Ut05.House) (fx : List (Nat × Nat)) (B : Nat → Nat → Option (Nat × List Nat)) (i j : Nat), vs = [.ref y, .ref fa, .ref d, nv i, nv j] ∧ YardAt A H y own g ∧ Good g ∧ PrsAt H fa fx ∧ RestsAt H d B ∧
  (∀ i j r, B i j = some r → r.2.length ≤ 1000) ∧ ∀ H' v, Same H H' → WayAt H' v (ks6.foldl (wayStep g.costs fx g.one g.two B i j) none) → Q v H'
theorem fold_more {B : Option (Nat × List Nat) → Nat → Option (Nat × List Nat)} {n : Nat} (h : n < 6) : (ks6.take (n + 1)).foldl B none = B ((ks6.take n).foldl B none) n := by
  have e : ks6[n]? = some n := by
    match n, h with
    | 0, _ => rfl
    | 1, _ => rfl
    | 2, _ => rfl
    | 3, _ => rfl
    | 4, _ => rfl
    | 5, _ => rfl
  rw [take_more e, List.foldl_append]
  rfl
theorem way_none {c : Ut05.Costs} {fx : List (Nat × Nat)} {a b : List Ut05.Sent} {B : Nat → Nat → Option (Nat × List Nat)} {i j n : Nat} {r : Nat × List Nat} (e : B (i + (bd n).1) (j + (bd n).2) = some r) (hk : Ut05.keeps fx i j (bd n) = true) :
    wayStep c fx a b B i j none n = some (beadCost c a b n i j + r.1, n :: r.2) := by
  unfold wayStep
  rw [e]
  exact if_neg (by rw [hk]; decide)
theorem way_some {c : Ut05.Costs} {fx : List (Nat × Nat)} {a b : List Ut05.Sent} {B : Nat → Nat → Option (Nat × List Nat)} {i j n : Nat} {r z : Nat × List Nat} (e : B (i + (bd n).1) (j + (bd n).2) = some r) (hk : Ut05.keeps fx i j (bd n) = true) :
    wayStep c fx a b B i j (some z) n = if beadCost c a b n i j + r.1 < z.1 then some (beadCost c a b n i j + r.1, n :: r.2) else some z := by
  unfold wayStep
  rw [e]
  exact if_neg (by rw [hk]; decide)
section
variable {P : Program} {w : World} {K : PySem.W.Frag} {mg : Str → Option Value} {base : Heap} {A : Ads}
theorem scRest : FnScope ["self", "fixed", "rests", "i", "j", "best", "kind", "size", "rest", "much"] ["self", "fixed", "rests", "i", "j"] (defScope stRest) := ⟨rfl, rfl, rfl, by decide +kernel, rfl, by decide +kernel, by decide +kernel⟩
theorem ok_rest {f : Addr} {fd : FuncData} (F : Fun K "best_rest" "Yard.best_rest" stRest f fd) (T : Txt K mg A) (UK : Use P w K mg base CX0 1 "bead_keeps" ["fixed", "kind", "i", "j"] spKeeps) (UC : UseM P w K mg base CX0 2 A.CY "bead_cost" ["self", "kind", "i", "j"] (spCost A)) :
    FnOk P w K mg base CX0 3 f fd ["self", "fixed", "rests", "i", "j"] (spRest A) := by
  refine F.ok scRest (fun vs H Q E h => ?_) (fun cdv Ar outer s H vs Q E hr h => ⟨_, pss_cons (ps_set (i := 5) scRest.nd rfl (.inl rfl) pe_non)
    (pss_cons (ps_for PassesOwn.never rfl (pi_enumTup rfl T.enum (pa_cons (pe_gref rfl T.gK) pa_nil))
      (pg_tup rfl (pgs_cons (pg_name (i := 6) scRest.nd rfl (.inl rfl)) (pgs_cons (pg_name (i := 7) scRest.nd rfl (.inl rfl)) pgs_nil)))
      (pss_cons (ps_set (i := 8) scRest.nd rfl (.inl rfl) (pe_dget1 (hu_of hr) (pv 2) (pe_tup (pa_cons (pe_op op_add (pv 3) (pe_ix ix_tup (pv 7) pe_int (fun _ _ => rfl))) (pa_cons (pe_op op_add (pv 4) (pe_ix ix_tup (pv 7) pe_int (fun _ _ => rfl))) pa_nil))) ⟨rfl, rfl, rfl, rfl⟩))
      (pss_cons (ps_if (pw_or (pt_cmp (pc_isN (pv 8))) (pw_or1 (pt_not (pt_truth (by exact pe_use UK (hr.mono (by decide)) rfl pass0 (pa_cons (pv 1) (pa_cons (pv 6) (pa_cons (pv 3) (pa_cons (pv 4) pa_nil))))) (fun _ => rfl))))).pt (pss_one ps_continue) pss_nil)
      (pss_cons (ps_set (i := 9) scRest.nd rfl (.inl rfl) (pe_op op_add (pe_useM (pv 0) T.clY UC hr pass0 (pa_cons (pv 6) (pa_cons (pv 3) (pa_cons (pv 4) pa_nil)))) (pe_ix ix_tup (pv 8) pe_int (fun _ _ => rfl))))
      (pss_one (ps_if (pw_or (pt_cmp (pc_isN (pv 5))) (pw_or1 (pt_cmpR op_lt (pv 9) (pe_ix ix_tup (pv 5) pe_int (fun _ _ => rfl)) (nomark _)))).pt
        (pss_one (ps_set (i := 5) scRest.nd rfl (.inl rfl) (pe_tup (pa_cons (pv 9) (pa_cons (pe_op op_cat (pe_lst (pa_cons (pv 6) pa_nil)) (pe_ix ix_tup (pv 8) pe_int (fun _ _ => rfl))) pa_nil))))) pss_nil))))))
    (pss_one (ps_ret (pv 5)))), ?_⟩)
  · obtain ⟨y, fa, d, own, g, fx, B, i, j, rfl, _⟩ := h
    rfl
  · obtain ⟨y, fa, d, own, g, fx, B, i, j, rfl, hY, hG, hF, hR, hB, q⟩ := h
    refine ⟨A.kT, _, rfl, T.kT _, for_it walk_enumT (fun n σ H' => Same H H' ∧ ∃ vb o6 o7 o8 o9, σ = [some (.ref y), some (.ref fa), some (.ref d), some (nv i), some (nv j), some vb, o6, o7, o8, o9] ∧
      WayAt H' vb ((ks6.take n).foldl (wayStep g.costs fx g.one g.two B i j) none)) ⟨Same.refl H, _, _, _, _, _, rfl, rfl⟩ (fun n σ H' _ _ => T.kT _) ?_ ?_⟩
    · rintro n v σ H' H'' hn ⟨sm, vb, o6, o7, o8, o9, rfl, hw⟩ ⟨Tn, x, z, rfl, hT, rfl, ex, ez⟩
      rw [List.length_map, T.k6] at hn
      have hk := ks6_mem hn
      have fm := fold_more (B := wayStep g.costs fx g.one g.two B i j) hn
      generalize (ks6.take n).foldl (wayStep g.costs fx g.one g.two B i j) none = m at hw fm
      have sm1 : Same H (upd H' Tn (.tup [x, z])) := sm.trans (Same.upd hT)
      replace hw := WayAt.same (Same.upd (o := .tup [x, z]) hT) hw
      have hTn : (upd H' Tn (.tup [x, z])) Tn = some (.tup [x, z]) := upd_same
      generalize upd H' Tn (.tup [x, z]) = H1 at sm1 hw hTn ⊢
      cases Option.some.inj ex
      obtain ⟨r, hr1, hr2⟩ := T.kB H1 n hk
      have ez2 : z = V.ref r := by
        have ez : (A.ks.map V.ref)[n]? = some z := ez
        rw [List.getElem?_map, hr1] at ez
        exact (Option.some.inj ez).symm
      subst ez2
      refine ⟨Tn, _, rfl, SqT.of hTn, rfl, _, _, rfl, _, _, rfl, rfl, ?_⟩
      obtain ⟨kvs, hd, hR⟩ := hR.same sm1
      refine ⟨_, rfl, d, rfl, .inr ⟨_, .inl hd⟩, _, rfl, _, rfl, r, _, _, _, rfl, rfl, hr2, atI_nat (j := 0) rfl, _, _, rfl, rfl, _, rfl, _, rfl, r, _, _, _, rfl, rfl, hr2, atI_nat (j := 1) rfl, _, _, rfl, rfl, (by show 2 ≤ sizeLine; decide), fun p hp => ?_⟩
      have s2 := Same.upd (o := .tup [.int ((i : Int) + ((bd n).1 : Int)), .int ((j : Int) + ((bd n).2 : Int))]) hp
      refine ⟨_, DGet.t (k := kk (i + (bd n).1) (j + (bd n).2)) (s2 _ _ hd) upd_same, ?_⟩
      have hv := (hR (i + (bd n).1) (j + (bd n).2)).same s2
      replace sm1 := sm1.trans s2
      replace hw := WayAt.same s2 hw
      generalize (valV kvs (kk (i + (bd n).1) (j + (bd n).2))).getD V.non = v8 at hv ⊢
      generalize upd H1 p (.tup [.int ((i : Int) + ((bd n).1 : Int)), .int ((j : Int) + ((bd n).2 : Int))]) = H2 at sm1 hw hv ⊢
      cases eB : B (i + (bd n).1) (j + (bd n).2) with
      | none =>
        rw [eB] at hv
        cases (show v8 = .non from hv)
        have em : wayStep g.costs fx g.one g.two B i j m n = m := by
          unfold wayStep
          rw [eB]
        refine ⟨_, rfl, _, rfl, if_dec (fun _ => iteT ?_) fun c => absurd rfl c⟩
        rw [em] at fm
        exact ⟨sm1, _, _, _, _, _, rfl, by rw [fm]; exact hw⟩
      | some w8 =>
        rw [eB] at hv
        have hlen := hB _ _ _ eB
        obtain ⟨p8, l8, rfl, hp8, hl8⟩ := hv
        refine ⟨_, rfl, _, rfl, if_dec (fun c => nomatch c) fun _ => ?_⟩
        refine ⟨_, rfl, _, rfl, _, rfl, _, rfl, fa, fx, n, i, j, rfl, hF.same sm1, hk, _, rfl, if_bool (fun c => ?_) fun c => ?_⟩
        · rw [Bool.not_eq_true'] at c
          have em : wayStep g.costs fx g.one g.two B i j m n = m := by
            unfold wayStep
            rw [eB]
            exact if_pos c
          rw [em] at fm
          exact ⟨sm1, _, _, _, _, _, rfl, by rw [fm]; exact hw⟩
        · rw [Bool.not_eq_false'] at c
          obtain ⟨dxy, ak, a1, a2, af, _, hy, _⟩ := (hY.same sm1).ex
          refine ⟨_, rfl, y, dxy, _, rfl, hy, yF_no _ _ _ _ _ (by decide +kernel), _, rfl, _, rfl, _, rfl, y, own, g, n, i, j, rfl, hY.same sm1, hG, hk, fun H3 s3 => ?_⟩
          replace sm1 := sm1.trans s3
          replace hw := WayAt.same s3 hw
          refine ⟨_, rfl, p8, _, _, _, rfl, rfl, SqT.of (s3 _ _ hp8), atI_nat (j := 0) rfl, _, _, rfl, rfl, ?_⟩
          have hl3 := s3 _ _ hl8
          have hp3 := s3 _ _ hp8
          have store : ∀ nx : Ends, (∀ H' v5, Same H H' → WayAt H' v5 (some (beadCost g.costs g.one g.two n i j + w8.1, n :: w8.2)) →
                nx.nx [some (.ref y), some (.ref fa), some (.ref d), some (nv i), some (nv j), some v5, some (nv n), some (.ref r), some (.ref p8), some (.int ((beadCost g.costs g.one g.two n i j : Int) + (w8.1 : Int)))] H') →
              tAsg (tTup (tCons (tVar 9) (tCons (tOp rCat (tLst (tCons (tVar 6) tNil)) (tOp (rIxT K) (tVar 8) (tC (.int 1)))) tNil))) (gName 5) nx
                [some (.ref y), some (.ref fa), some (.ref d), some (nv i), some (nv j), some vb, some (nv n), some (.ref r), some (.ref p8), some (.int ((beadCost g.costs g.one g.two n i j : Int) + (w8.1 : Int)))] H3 := fun nx hnx => by
            refine ⟨_, rfl, _, rfl, (by show 1 ≤ sizeLine; decide), fun b1 n1 => ?_⟩
            have t1 := Same.upd (o := .lst [nv n]) n1
            refine ⟨_, rfl, p8, _, _, _, rfl, rfl, SqT.of (t1 _ _ hp3), atI_nat (j := 1) rfl, b1, l8, _, _, rfl, rfl, upd_same, t1 _ _ hl3, ?_, fun b2 n2 => ?_⟩
            · rw [List.length_map]
              exact Nat.le_trans (by show 1 + _ ≤ 1001; omega) (by decide : 1001 ≤ sizeLine)
            have t2 := Same.upd (o := .lst ([nv n] ++ w8.2.map nv)) n2
            refine ⟨(by show 2 ≤ sizeLine; decide), fun b3 n3 => ?_⟩
            have t3 := Same.upd (o := .tup [.int ((beadCost g.costs g.one g.two n i j : Int) + (w8.1 : Int)), .ref b2]) n3
            exact hnx _ _ (((sm1.trans t1).trans t2).trans t3) ⟨b3, b2, rfl, upd_same, t3 _ _ upd_same⟩
          cases m with
          | none =>
            cases (show vb = .non from hw)
            rw [way_none eB c] at fm
            refine ⟨_, rfl, _, rfl, if_dec (fun _ => iteT (store _ fun H' v5 a1 a2 => ⟨a1, _, _, _, _, _, rfl, by rw [fm]; exact a2⟩)) fun c => absurd rfl c⟩
          | some z =>
            obtain ⟨p5, l5, rfl, hp5, hl5⟩ := id hw
            rw [way_some eB c] at fm
            refine ⟨_, rfl, _, rfl, if_dec (fun c => nomatch c) fun _ => ⟨_, rfl, _, rfl, p5, _, _, _, rfl, rfl, SqT.of hp5, atI_nat (j := 0) rfl, _, _, rfl, rfl, _, rfl, if_dec (fun lt => ?_) fun lt => ?_⟩⟩
            · refine store _ fun H' v5 a1 a2 => ⟨a1, _, _, _, _, _, rfl, ?_⟩
              rw [fm]
              show WayAt H' v5 (if _ < z.1 then _ else _)
              rw [if_pos (by omega)]
              exact a2
            · refine ⟨sm1, _, _, _, _, _, rfl, ?_⟩
              rw [fm]
              show WayAt H3 _ (if _ < z.1 then _ else _)
              rw [if_neg (by omega)]
              exact hw
    · rintro σ H' ⟨sm, vb, o6, o7, o8, o9, rfl, hw⟩
      rw [List.length_map, T.k6] at hw
      exact ⟨_, rfl, q _ _ sm hw⟩
end
end Sy

namespace Sy
open PySem PySem.Spec PyProof.Rows L2
/-! Yard.told -/
abbrev stTold : Stmt := inClass (top 3) 5
def spTold (A : Ads) : Sp := fun vs H Q _ => ∃ (y fa : Addr) (own : List Addr) (g : Ut05.House) (fx : List (Nat × Nat)), vs = [.ref y, .ref fa] ∧ YardAt A H y own g ∧ Good g ∧ PrsAt H fa fx ∧
  ∀ H' v, Same H H' → WayAt H' v (best g.costs fx g.one g.two 0 0) → Q v H'
section
variable (c : Ut05.Costs) (fx : List (Nat × Nat)) (a b : List Ut05.Sent)
/-- what has been gone through: n rows from the end, m places of the next -/
def vis (n m i j : Nat) : Prop := a.length < i + n ∨ (i + n = a.length ∧ b.length < j + m) ∨ (i = a.length ∧ j = b.length)
instance (n m i j : Nat) : Decidable (vis a b n m i j) := by
  unfold vis
  infer_instance
def tabB (n m i j : Nat) : Option (Nat × List Nat) := if vis a b n m i j then best c fx a b i j else none
theorem tabB_start (i j : Nat) : tabB c fx a b 0 0 i j = if i = a.length ∧ j = b.length then some (0, []) else none := by
  unfold tabB
  by_cases h : i = a.length ∧ j = b.length
  · rw [if_pos h, if_pos (.inr (.inr h)), h.1, h.2]
    exact best_end c fx a b
  · rw [if_neg h]
    by_cases v : vis a b 0 0 i j
    · rw [if_pos v]
      refine best_out c fx a b ?_
      rcases v with v | v | v
      · exact .inl v
      · exact .inr v.2
      · exact absurd v h
    · exact if_neg v
theorem tabB_row {n i j : Nat} : tabB c fx a b n (b.length + 1) i j = tabB c fx a b (n + 1) 0 i j := by
  unfold tabB
  by_cases v : vis a b n (b.length + 1) i j
  · rw [if_pos v]
    by_cases v' : vis a b (n + 1) 0 i j
    · rw [if_pos v']
    · exfalso
      unfold vis at v v'
      omega
  · rw [if_neg v]
    by_cases v' : vis a b (n + 1) 0 i j
    · rw [if_pos v']
      have : a.length < i ∨ b.length < j := by
        unfold vis at v v'
        omega
      exact (best_out c fx a b this).symm
    · rw [if_neg v']
theorem tabB_end {i j : Nat} : tabB c fx a b (a.length + 1) 0 i j = best c fx a b i j := by
  unfold tabB
  by_cases v : vis a b (a.length + 1) 0 i j
  · exact if_pos v
  · exfalso
    unfold vis at v
    omega
/-- the fold over the kinds at the place that is next -/
theorem tabB_fold {n m : Nat} (hn : n ≤ a.length) (hm : m ≤ b.length) : ks6.foldl (wayStep c fx a b (tabB c fx a b n m) (a.length - n) (b.length - m)) none = if n = 0 ∧ m = 0 then none else best c fx a b (a.length - n) (b.length - m) := by
  have look : ∀ k ∈ ks6, tabB c fx a b n m (a.length - n + (bd k).1) (b.length - m + (bd k).2) = best c fx a b (a.length - n + (bd k).1) (b.length - m + (bd k).2) := fun k hk => by
    have hp := bd_pos hk
    unfold tabB
    by_cases v : vis a b n m (a.length - n + (bd k).1) (b.length - m + (bd k).2)
    · exact if_pos v
    · exfalso
      unfold vis at v
      omega
  have e : ks6.foldl (wayStep c fx a b (tabB c fx a b n m) (a.length - n) (b.length - m)) none = ks6.foldl (wayStep c fx a b (best c fx a b) (a.length - n) (b.length - m)) none :=
    foldl_congr _ _ fun z k hk => wayStep_congr c fx a b (look k hk)
  rw [e]
  by_cases h : n = 0 ∧ m = 0
  · rw [if_pos h]
    have out : ∀ l : List Nat, (∀ k ∈ l, k ∈ ks6) → l.foldl (wayStep c fx a b (best c fx a b) (a.length - n) (b.length - m)) none = none := by
      intro l
      induction l with
      | nil => intro _; rfl
      | cons k l ih =>
        intro hl
        have hp := bd_pos (hl k (List.mem_cons_self ..))
        have : best c fx a b (a.length - n + (bd k).1) (b.length - m + (bd k).2) = none := best_out c fx a b (by omega)
        rw [List.foldl_cons]
        have e2 : wayStep c fx a b (best c fx a b) (a.length - n) (b.length - m) none k = none := by
          unfold wayStep
          rw [this]
        rw [e2]
        exact ih fun j hj => hl j (List.mem_cons_of_mem _ hj)
    exact out ks6 fun k hk => hk
  · rw [if_neg h]
    exact (best_eq c fx a b (by omega) (by omega) (by omega)).symm
/-- one place more -/
theorem tabB_next {n m i j : Nat} (hn : n ≤ a.length) (hm : m ≤ b.length) : tabB c fx a b n (m + 1) i j = if i = a.length - n ∧ j = b.length - m then best c fx a b i j else tabB c fx a b n m i j := by
  unfold tabB
  by_cases h : i = a.length - n ∧ j = b.length - m
  · rw [if_pos h, if_pos (by unfold vis; omega)]
  · rw [if_neg h]
    by_cases v : vis a b n m i j
    · rw [if_pos v, if_pos (by unfold vis at v ⊢; omega)]
    · rw [if_neg v, if_neg (by unfold vis at v ⊢; omega)]
/-- .. where there is no way on: nothing new -/
theorem tabB_same {n m : Nat} (hn : n ≤ a.length) (hm : m ≤ b.length) (h : (if n = 0 ∧ m = 0 then none else best c fx a b (a.length - n) (b.length - m)) = none) (i j : Nat) : tabB c fx a b n (m + 1) i j = tabB c fx a b n m i j := by
  rw [tabB_next c fx a b hn hm]
  by_cases e : i = a.length - n ∧ j = b.length - m
  · rw [if_pos e]
    by_cases z : n = 0 ∧ m = 0
    · unfold tabB
      rw [if_pos (by unfold vis; omega)]
    · rw [if_neg z] at h
      unfold tabB
      rw [if_neg (by unfold vis; omega), e.1, e.2]
      exact h
  · rw [if_neg e]
/-- a way has no more beads than sentences -/
theorem best_len : ∀ (d i j : Nat) (r : Nat × List Nat), (a.length - i) + (b.length - j) ≤ d → best c fx a b i j = some r → r.2.length ≤ (a.length - i) + (b.length - j) ∧ ∀ k ∈ r.2, k ∈ ks6 := by
  intro d
  induction d with
  | zero =>
    intro i j r hd h
    by_cases o : a.length < i ∨ b.length < j
    · rw [best_out c fx a b o] at h
      cases h
    · have e1 : i = a.length := by omega
      have e2 : j = b.length := by omega
      subst e1 e2
      rw [best_end] at h
      cases h
      exact ⟨Nat.zero_le _, fun k hk => nomatch hk⟩
  | succ d ih =>
    intro i j r hd h
    by_cases o : a.length < i ∨ b.length < j
    · rw [best_out c fx a b o] at h
      cases h
    by_cases ce : i = a.length ∧ j = b.length
    · obtain ⟨e1, e2⟩ := ce
      subst e1 e2
      rw [best_end] at h
      cases h
      exact ⟨Nat.zero_le _, fun k hk => nomatch hk⟩
    rw [best_eq c fx a b (by omega) (by omega) ce] at h
    have h2 : ks6.foldl (lessStep (cand c fx a b i j)) none = some r := by
      rw [← h]
      exact foldl_congr _ _ fun m k _ => (wayStep_cand c fx a b i j m k).symm
    rcases less_some ks6 none h2 with ⟨q, _⟩ | ⟨k, hf, hk, _, _⟩
    · cases q
    · have hmem : k ∈ ks6 := List.mem_of_find?_eq_some hf
      have hp := bd_pos hmem
      unfold cand at hk
      cases er : best c fx a b (i + (bd k).1) (j + (bd k).2) with
      | none =>
        rw [er] at hk
        cases hk
      | some w =>
        rw [er] at hk
        have hin : ¬ (a.length < i + (bd k).1 ∨ b.length < j + (bd k).2) := fun q => by
          rw [best_out c fx a b q] at er
          cases er
        have := ih _ _ w (by omega) er
        by_cases ck : Ut05.keeps fx i j (bd k) = false
        · simp only [if_pos ck] at hk
          cases hk
        · simp only [if_neg ck] at hk
          rw [← Option.some.inj hk]
          refine ⟨?_, fun k' hk' => ?_⟩
          · show w.2.length + 1 ≤ _
            omega
          · rcases List.mem_cons.mp hk' with e | e
            · exact e ▸ hmem
            · exact this.2 k' e
theorem tabB_len {n m i j : Nat} {r : Nat × List Nat} (h : tabB c fx a b n m i j = some r) : r.2.length ≤ a.length + b.length := by
  unfold tabB at h
  by_cases v : vis a b n m i j
  · rw [if_pos v] at h
    have := (best_len c fx a b _ i j r (Nat.le_refl _) h).1
    omega
  · rw [if_neg v] at h
    cases h
end
theorem kk_inj {i j i' j' : Nat} : kk i j = kk i' j' ↔ i = i' ∧ j = j' := by
  constructor
  · intro h
    obtain ⟨h1, h2⟩ := List.cons.inj h
    obtain ⟨h3, _⟩ := List.cons.inj h2
    have := Sum.inl.inj h1
    have := Sum.inl.inj h3
    omega
  · rintro ⟨rfl, rfl⟩
    rfl
theorem WayAt.dict {H : Hp} {d : Addr} {x : List (List Key × V)} {o : HO} (hd : H d = some (.dT x)) : ∀ {w : Option (Nat × List Nat)} {v : V}, WayAt H v w → WayAt (upd H d o) v w
  | none, _, h => h
  | some _, _, ⟨p, l, h1, h2, h3⟩ => ⟨p, l, h1, by rw [upd_ne (ne_of h2 hd (fun z => nomatch z))]; exact h2, by rw [upd_ne (ne_of h3 hd (fun z => nomatch z))]; exact h3⟩
section
variable {P : Program} {w : World} {K : PySem.W.Frag} {mg : Str → Option Value} {base : Heap} {A : Ads}
theorem scTold : FnScope ["self", "fixed", "rests", "i", "j", "rest"] ["self", "fixed"] (defScope stTold) := ⟨rfl, rfl, rfl, by decide +kernel, rfl, by decide +kernel, by decide +kernel⟩
theorem ok_told {f : Addr} {fd : FuncData} (F : Fun K "told" "Yard.told" stTold f fd) (T : Txt K mg A) (UR : UseM P w K mg base CX0 3 A.CY "best_rest" ["self", "fixed", "rests", "i", "j"] (spRest A)) : FnOk P w K mg base CX0 4 f fd ["self", "fixed"] (spTold A) := by
  refine F.ok scTold (fun vs H Q E h => ?_) (fun cdv Ar outer s H vs Q E hr h => ⟨_, pss_cons (ps_set (i := 2) scTold.nd rfl (.inl rfl) (pe_dispT hr.units0
        (pe_tup (pa_cons (pe_callB call_len_seq (by rfl) T.len PySem.boot_len (pa_cons (pe_fld (pv 0) rfl) pa_nil)) (pa_cons (pe_callB call_len_seq (by rfl) T.len PySem.boot_len (pa_cons (pe_fld (pv 0) rfl) pa_nil)) pa_nil)))
        (pe_tup (pa_cons pe_int (pa_cons (pe_lst pa_nil) pa_nil)))))
    (pss_cons (ps_for PassesOwn.never rfl (pi_range3 rfl T.range (pa_cons (pe_callB call_len_seq (by rfl) T.len PySem.boot_len (pa_cons (pe_fld (pv 0) rfl) pa_nil)) (pa_cons (pe_un un_neg pe_int) (pa_cons (pe_un un_neg pe_int) pa_nil))))
        (pg_name (i := 3) scTold.nd rfl (.inl rfl))
      (pss_one (ps_for PassesOwn.never rfl (pi_range3 rfl T.range (pa_cons (pe_callB call_len_seq (by rfl) T.len PySem.boot_len (pa_cons (pe_fld (pv 0) rfl) pa_nil)) (pa_cons (pe_un un_neg pe_int) (pa_cons (pe_un un_neg pe_int) pa_nil))))
          (pg_name (i := 4) scTold.nd rfl (.inl rfl))
        (pss_cons (ps_set (i := 5) scTold.nd rfl (.inl rfl) (pe_useM (pv 0) T.clY UR hr pass0 (pa_cons (pv 1) (pa_cons (pv 2) (pa_cons (pv 3) (pa_cons (pv 4) pa_nil))))))
        (pss_one (ps_if (pt_cmp (pc_notN (pv 5))) (pss_one (ps_dput (hu_of hr) (pv 2) (pe_tup (pa_cons (pv 3) (pa_cons (pv 4) pa_nil))) (pv 5) rfl)) pss_nil))))))
    (pss_one (ps_ret (pe_dget1 (hu_of hr) (pv 2) (pe_tup (pa_cons pe_int (pa_cons pe_int pa_nil))) ⟨rfl, rfl, rfl, rfl⟩)))), ?_⟩)
  · obtain ⟨y, fa, own, g, fx, rfl, _⟩ := h
    rfl
  · obtain ⟨y, fa, own, g, fx, rfl, hY, hG, hF, q⟩ := h
    obtain ⟨dx, ak, a1, a2, af, _, hy, _, ⟨v1, h1, p1⟩, ⟨v2, h2, p2⟩, _⟩ := id hY.ex
    intro d nd
    have l1 := paired_len p1
    have l2 := paired_len p2
    have g1 := hG.one
    have g2 := hG.two
    have s0 : Same H (upd H d (.dT [])) := Same.upd nd
    refine ⟨_, rfl, y, A.CY, dx, _, _, rfl, s0 _ _ hy, T.clY, T.y1, yF_first .., a1, _, rfl, .inl (SqL.of (s0 _ _ h1)), _, rfl, y, A.CY, dx, _, _, rfl, s0 _ _ hy, T.clY, T.y2, yF_second .., a2, _, rfl, .inl (SqL.of (s0 _ _ h2)), (by show 2 ≤ sizeLine; decide), fun q1 n1 => ?_⟩
    refine ⟨Nat.zero_le _, fun q2 n2 => ⟨(by show 2 ≤ sizeLine; decide), fun q3 n3 => ?_⟩⟩
    have t1 : Same (upd H d (.dT [])) (upd (upd H d (.dT [])) q1 (.tup [.int v1.length, .int v2.length])) := Same.upd n1
    have t2 := Same.upd (o := .lst []) n2
    have t3 := Same.upd (o := .tup [.int 0, .ref q2]) n3
    have t123 := (t1.trans t2).trans t3
    have hd3 := t123 _ _ (upd_same (H := H) (a := d) (o := .dT []))
    have hq1 := (t2.trans t3) _ _ (upd_same (H := upd H d (.dT [])) (a := q1) (o := .tup [.int v1.length, .int v2.length]))
    have hq2 := t3 _ _ (upd_same (a := q2) (o := .lst []))
    have hq3 := upd_same (a := q3) (o := .tup [.int 0, .ref q2]) (H := upd (upd (upd H d (.dT [])) q1 (.tup [.int v1.length, .int v2.length])) q2 (.lst []))
    have s3 := s0.trans t123
    generalize upd (upd (upd (upd H d (.dT [])) q1 (.tup [.int v1.length, .int v2.length])) q2 (.lst [])) q3 (.tup [.int 0, .ref q2]) = H3 at hd3 hq1 hq2 hq3 s3 ⊢
    refine ⟨kk v1.length v2.length, q1, rfl, hd3, hq1, ?_⟩
    have s4 : Same H (upd H3 d (.dT [(kk v1.length v2.length, .ref q3)])) := Same.free_upd nd s3
    have start : ∀ i j, WayAt (upd H3 d (.dT [(kk v1.length v2.length, .ref q3)])) ((valV [(kk v1.length v2.length, V.ref q3)] (kk i j)).getD .non) (tabB g.costs fx g.one g.two 0 0 i j) := fun i j => by
      rw [tabB_start]
      by_cases e : i = g.one.length ∧ j = g.two.length
      · rw [if_pos e, valV_pos (kk_inj.mpr (by omega))]
        exact WayAt.dict hd3 (w := some (0, [])) ⟨q3, q2, rfl, hq3, hq2⟩
      · rw [if_neg e, valV_neg (fun z => e (by have := kk_inj.mp z; omega))]
        rfl
    have hd4 : (upd H3 d (.dT [(kk v1.length v2.length, .ref q3)])) d = some (.dT [(kk v1.length v2.length, .ref q3)]) := upd_same
    generalize upd H3 d (.dT [(kk v1.length v2.length, .ref q3)]) = H4 at s4 start hd4 ⊢
    have turns1 : ((v1.length : Int) - -1).toNat = g.one.length + 1 := by omega
    have turns2 : ((v2.length : Int) - -1).toNat = g.two.length + 1 := by omega
    have rg1 : RgC (v1.length : Int) (-1) (-1) (g.one.length + 1) := turns1 ▸ RgC.neg (by omega) (by omega) (by omega) (by omega)
    have rg2 : RgC (v2.length : Int) (-1) (-1) (g.two.length + 1) := turns2 ▸ RgC.neg (by omega) (by omega) (by omega) (by omega)
    refine ⟨_, rfl, y, A.CY, dx, _, _, rfl, s4 _ _ hy, T.clY, T.y1, yF_first .., a1, _, rfl, .inl (SqL.of (s4 _ _ h1)), _, rfl, _, rfl, _, _, _, _, rfl, rg1,
      for_rangeC (fun n σ H' => ∃ o3 o4 o5 kvs, σ = [some (.ref y), some (.ref fa), some (.ref d), o3, o4, o5] ∧ Same H H' ∧ H' d = some (.dT kvs) ∧ kvs.length ≤ 1 + n * 15 ∧ ∀ i j, WayAt H' ((valV kvs (kk i j)).getD .non) (tabB g.costs fx g.one g.two n 0 i j))
      ⟨_, _, _, _, rfl, s4, hd4, Nat.le_refl _, start⟩ ?_ ?_⟩
    · rintro n σ H' hn ⟨o3, o4, o5, kvs, rfl, sm, hd, hk, hR⟩
      have e3 : (v1.length : Int) + (n : Int) * -1 = ((g.one.length - n : Nat) : Int) := by omega
      rw [e3]
      refine ⟨_, rfl, y, A.CY, dx, _, _, rfl, sm _ _ hy, T.clY, T.y2, yF_second .., a2, _, rfl, .inl (SqL.of (sm _ _ h2)), _, rfl, _, rfl, _, _, _, _, rfl, rg2,
        for_rangeC (fun m σ H' => ∃ o4 o5 kvs, σ = [some (.ref y), some (.ref fa), some (.ref d), some (nv (g.one.length - n)), o4, o5] ∧ Same H H' ∧ H' d = some (.dT kvs) ∧ kvs.length ≤ 1 + n * 15 + m ∧ ∀ i j, WayAt H' ((valV kvs (kk i j)).getD .non) (tabB g.costs fx g.one g.two n m i j))
        ⟨_, _, _, rfl, sm, hd, hk, hR⟩ ?_ ?_⟩
      · rintro m σ H' hm ⟨o4, o5, kvs, rfl, sm, hd, hk, hR⟩
        have e4 : (v2.length : Int) + (m : Int) * -1 = ((g.two.length - m : Nat) : Int) := by omega
        rw [e4]
        refine ⟨_, rfl, y, dx, _, rfl, sm _ _ hy, yF_no _ _ _ _ _ (by decide +kernel), _, rfl, _, rfl, _, rfl, _, rfl, y, fa, d, own, g, fx, tabB g.costs fx g.one g.two n m, _, _, rfl, hY.same sm, hG, hF.same sm, ⟨kvs, hd, hR⟩,
          fun i j r h => Nat.le_trans (tabB_len g.costs fx g.one g.two h) (by omega), fun H5 v s5 hv => ?_⟩
        rw [tabB_fold g.costs fx g.one g.two (by omega) (by omega)] at hv
        have hd5 := s5 _ _ hd
        have sm5 := sm.trans s5
        refine ⟨_, rfl, _, rfl, ?_⟩
        cases eb : (if n = 0 ∧ m = 0 then none else best g.costs fx g.one g.two (g.one.length - n) (g.two.length - m)) with
        | none =>
          rw [eb] at hv
          cases (show v = .non from hv)
          exact ⟨_, _, _, rfl, sm5, hd5, by omega, fun i j => by rw [tabB_same g.costs fx g.one g.two (by omega) (by omega) eb]; exact (hR i j).same s5⟩
        | some r =>
          have eb2 : best g.costs fx g.one g.two (g.one.length - n) (g.two.length - m) = some r := by
            by_cases z : n = 0 ∧ m = 0
            · rw [if_pos z] at eb
              cases eb
            · rw [if_neg z] at eb
              exact eb
          rw [eb] at hv
          obtain ⟨p5, l5, rfl, hp5, hl5⟩ := id hv
          refine ⟨_, rfl, _, rfl, _, rfl, _, rfl, (by show 2 ≤ sizeLine; decide), fun q4 n4 => ?_⟩
          have t4 := Same.upd (o := .tup [nv (g.one.length - n), nv (g.two.length - m)]) n4
          refine ⟨d, _, rfl, DPut.t (k := kk (g.one.length - n) (g.two.length - m)) (t4 _ _ hd5) upd_same (small1000 (by omega)), ?_⟩
          refine ⟨_, _, _, rfl, Same.free_upd nd (sm5.trans t4), upd_same, ?_, fun i j => ?_⟩
          · have := length_putK kvs (kk (g.one.length - n) (g.two.length - m)) (V.ref p5)
            omega
          · rw [valV_put, tabB_next g.costs fx g.one g.two (by omega) (by omega)]
            by_cases e : i = g.one.length - n ∧ j = g.two.length - m
            · rw [if_pos (kk_inj.mpr e), if_pos e, e.1, e.2, eb2]
              exact WayAt.dict (t4 _ _ hd5) (WayAt.same t4 (o := some r) hv)
            · rw [if_neg (fun z => e (kk_inj.mp z)), if_neg e]
              exact WayAt.dict (t4 _ _ hd5) (((hR i j).same s5).same t4)
      · rintro σ H' ⟨o4, o5, kvs, rfl, sm, hd, hk, hR⟩
        exact ⟨_, _, _, _, rfl, sm, hd, by omega, fun i j => by rw [← tabB_row]; exact hR i j⟩
    · rintro σ H' ⟨o3, o4, o5, kvs, rfl, sm, hd, hk, hR⟩
      refine ⟨_, rfl, d, rfl, .inr ⟨_, .inl hd⟩, (by show 2 ≤ sizeLine; decide), fun p hp => ?_⟩
      have t := Same.upd (o := .tup [.int 0, .int 0]) hp
      refine ⟨_, DGet.t (k := kk 0 0) (t _ _ hd) upd_same, q _ _ (sm.trans t) ?_⟩
      have := (hR 0 0).same t
      rw [tabB_end] at this
      exact this
end
end Sy

namespace Sy
open PySem PySem.Spec PyProof.Rows L2
/-! fit_sentence, read_sentences -/
abbrev stFit : Stmt := top 30
abbrev stRead : Stmt := top 29
/-- what the top has written of numbers -/
structure Nums (mg : Str → Option Value) : Prop where
  sen : ∃ t, mg "MOST_SENTENCES" = some (.int 14 t)
  anc : ∃ t, mg "MOST_ANCHORS" = some (.int 4 t)
  bea : ∃ t, mg "MOST_BEADS" = some (.int 30 t)
  wei : ∃ t, mg "MOST_WEIGHT" = some (.int 99 t)
  mos : ∃ t, mg "MOST" = some (.int 999 t)
/-- the number in a slot -/
def slotN (σ : L2.St) (i : Nat) : Nat := match σ[i]? with
  | some (some (V.int z)) => z.toNat
  | _ => 0
def spFit (A : Ads) : Sp := fun vs H Q E => ∃ (la : Addr) (s : Ut05.Sent), vs = [nv s.long, .ref la] ∧ H la = some (.lst (s.anchors.map nv)) ∧ s.anchors.length ≤ 1000 ∧
  (Ut05.sentOk s = false → E (.ref A.CU) none H) ∧ (Ut05.sentOk s = true → ∀ H' v, Same H H' → SenO A.CS (fun b => b = la ∨ H b = none) H' v s → Q v H')
def rowOf (ss : List Ut05.Sent) : List Nat := ss.flatMap fun s => s.long :: s.anchors.length :: s.anchors
def spRead (A : Ads) : Sp := fun vs H Q E => ∃ (ra : Addr) (ss : List Ut05.Sent), vs = [.ref ra] ∧ H ra = some (.lst ((rowOf ss).map nv)) ∧ (rowOf ss).length ≤ 1000 ∧
  (ss.all Ut05.sentOk = false → ∀ H', Same H H' → E (.ref A.CU) none H') ∧ (ss.all Ut05.sentOk = true → ∀ H' p, Same H H' → SensO A.CS (fun b => H b = none) H' p ss → Q (.ref p) H')
theorem sentOk_take {s : Ut05.Sent} (h1 : s.long ≤ 999) (h2 : s.anchors.length ≤ 4) (h3 : s.anchors.all (fun n => decide (n ≤ 999)) = true) : Ut05.sentOk s = true := by
  unfold Ut05.sentOk
  rw [decide_eq_true h1, decide_eq_true h2, h3]
  rfl
theorem all_take {l : List Nat} {n x : Nat} (h : l[n]? = some x) (p : Nat → Bool) (h1 : (l.take n).all p = true) (h2 : p x = true) : (l.take (n + 1)).all p = true := by
  rw [take_more h, List.all_append, h1, List.all_cons, h2]
  rfl
theorem row_split {ss : List Ut05.Sent} {n : Nat} {s : Ut05.Sent} (h : ss[n]? = some s) : rowOf ss = rowOf (ss.take n) ++ (s.long :: s.anchors.length :: s.anchors) ++ rowOf (ss.drop (n + 1)) := by
  have e : rowOf ss = rowOf (ss.take (n + 1)) ++ rowOf (ss.drop (n + 1)) := by
    unfold rowOf
    rw [← List.flatMap_append, List.take_append_drop]
  rw [e, take_more h]
  unfold rowOf
  rw [List.flatMap_append]
  simp
theorem row_take {ss : List Ut05.Sent} {n : Nat} {s : Ut05.Sent} (h : ss[n]? = some s) : (rowOf (ss.take (n + 1))).length = (rowOf (ss.take n)).length + 2 + s.anchors.length := by
  rw [take_more h]
  unfold rowOf
  rw [List.flatMap_append, List.length_append]
  simp
  omega
theorem row_at0 {ss : List Ut05.Sent} {n : Nat} {s : Ut05.Sent} (h : ss[n]? = some s) : (rowOf ss)[(rowOf (ss.take n)).length]? = some s.long := by
  rw [row_split h, List.append_assoc, List.getElem?_append_right (Nat.le_refl _), Nat.sub_self]
  rfl
theorem row_at1 {ss : List Ut05.Sent} {n : Nat} {s : Ut05.Sent} (h : ss[n]? = some s) : (rowOf ss)[(rowOf (ss.take n)).length + 1]? = some s.anchors.length := by
  rw [row_split h, List.append_assoc, List.getElem?_append_right (Nat.le_succ _), show (rowOf (ss.take n)).length.succ - (rowOf (ss.take n)).length = 1 by omega]
  rfl
theorem row_cut {ss : List Ut05.Sent} {n : Nat} {s : Ut05.Sent} (h : ss[n]? = some s) : ((rowOf ss).drop ((rowOf (ss.take n)).length + 2)).take s.anchors.length = s.anchors := by
  have e1 : (rowOf ss).drop ((rowOf (ss.take n)).length + 2) = s.anchors ++ rowOf (ss.drop (n + 1)) := by
    conv => lhs; rw [row_split h]
    rw [← List.drop_drop, List.append_assoc, List.drop_left]
    rfl
  rw [e1, List.take_left]
theorem row_lt {ss : List Ut05.Sent} {n : Nat} : (rowOf (ss.take n)).length < (rowOf ss).length ↔ n < ss.length := by
  constructor
  · intro h
    rcases Nat.lt_or_ge n ss.length with q | q
    · exact q
    · rw [List.take_of_length_le q] at h
      exact absurd h (Nat.lt_irrefl _)
  · intro h
    rw [row_split (List.getElem?_eq_getElem h)]
    rw [List.length_append, List.length_append, List.length_cons]
    omega
theorem row_many : ∀ ss : List Ut05.Sent, ss.length ≤ (rowOf ss).length
  | [] => Nat.le_refl _
  | s :: ss => by
    have := row_many ss
    unfold rowOf at this ⊢
    rw [List.flatMap_cons, List.length_append, List.length_cons, List.length_cons]
    omega
section
variable {P : Program} {w : World} {K : PySem.W.Frag} {mg : Str → Option Value} {base : Heap} {A : Ads}
theorem scFit : FnScope ["length", "anchors", "anchor"] ["length", "anchors"] (defScope stFit) := ⟨rfl, rfl, rfl, by decide +kernel, rfl, by decide +kernel, by decide +kernel⟩
theorem ok_fit {f : Addr} {fd : FuncData} (F : Fun K "fit_sentence" "fit_sentence" stFit f fd) (T : Txt K mg A) (N : Nums mg) (US : UseI P w K mg base CX0 1 A.CS ["self", "length", "anchors"] (spSInit A)) :
    FnOk P w K mg base (L2.CX P w) 3 f fd ["length", "anchors"] (spFit A) := by
  refine F.okX scFit (fun vs H Q E h => ?_) (fun cdv Ar outer s H vs Q E hr h => ⟨_, pss_cons (ps_if (pw_or (pt_cmpR op_gt (pv 0) (by exact pe_gint rfl N.mos) (nomark _)) (pw_or1 (pt_cmpR op_gt (pe_callB call_len_seq (by rfl) T.len PySem.boot_len (pa_cons (pv 1) pa_nil)) (by exact pe_gint rfl N.anc) (nomark _)))).pt
      (pss_one (ps_raise rfl (takes_of rfl rfl rfl rfl) (pmk_own0 PySem.F.excBase_Exception T.eU.x T.eU.g T.eU.k (raises_own T.eU.b T.eU.t) (by exact rfl)))) pss_nil)
    (pss_cons (ps_for (passes_of rfl) rfl (pi_list (pv 1)) (pg_name (i := 2) scFit.nd rfl (.inl rfl)) (pss_one (ps_if (pt_cmpR op_gt (pv 2) (by exact pe_gint rfl N.mos) (nomark _))
      (pss_one (ps_raise rfl (takes_of rfl rfl rfl rfl) (pmk_own0 PySem.F.excBase_Exception T.eU.x T.eU.g T.eU.k (raises_own T.eU.b T.eU.t) (by exact rfl)))) pss_nil)))
    (pss_one (ps_ret (pe_useI US hr rfl T.gS pass0 (pa_cons (pv 0) (pa_cons (pv 1) pa_nil)))))), ?_⟩)
  · obtain ⟨la, s, rfl, _⟩ := h
    rfl
  · obtain ⟨la, s, rfl, hla, hl, qE, q⟩ := h
    have bad : ∀ {H'}, Ut05.sentOk s = false → H' = H → E (.ref A.CU) none H' := fun e1 e2 => by
      rw [e2]
      exact qE e1
    refine ⟨_, rfl, _, _, rfl, rfl, _, rfl, if_dec (fun c => iteT (qE ?_)) fun c1 => ⟨_, rfl, la, _, rfl, .inl (SqL.of hla), _, _, rfl, rfl, _, rfl, if_dec (fun c => qE ?_) fun c2 => ?_⟩⟩
    · unfold Ut05.sentOk
      rw [decide_eq_false (by omega), Bool.false_and]
    · unfold Ut05.sentOk
      rw [List.length_map] at c
      rw [decide_eq_false (p := s.anchors.length ≤ 4) (by omega), Bool.false_and, Bool.and_false]
    rw [List.length_map] at c2
    refine ⟨_, rfl, la, rfl, ⟨_, SqL.of hla⟩, for_list (xs := s.anchors.map nv) (fun n σ H' => H' = H ∧ (s.anchors.take n).all (fun n => decide (n ≤ 999)) = true ∧ ∃ o2, σ = [some (nv s.long), some (.ref la), o2]) ⟨rfl, rfl, _, rfl⟩
      (fun n σ H' _ ⟨e, _⟩ => by rw [e]; exact SqL.of hla) ?_ ?_⟩
    · rintro n v σ H' hv ⟨rfl, hn, o2, rfl⟩
      obtain ⟨x, hx, rfl⟩ : ∃ x, s.anchors[n]? = some x ∧ v = nv x := by
        rw [List.getElem?_map] at hv
        obtain ⟨x, h1, h2⟩ := Option.map_eq_some_iff.mp hv
        exact ⟨x, h1, h2.symm⟩
      refine ⟨_, rfl, _, _, rfl, rfl, _, rfl, if_dec (fun c => bad ?_ rfl) fun c => ⟨rfl, all_take hx _ hn (decide_eq_true (by omega)), _, rfl⟩⟩
      unfold Ut05.sentOk
      rw [List.all_eq_false.mpr ⟨x, List.mem_of_getElem? hx, by simp; omega⟩, Bool.and_false, Bool.and_false]
    · rintro σ H' ⟨rfl, hn, o2, rfl⟩
      rw [List.length_map, List.take_length] at hn
      have ok := sentOk_take (by omega) (by omega) hn
      refine ⟨_, rfl, _, rfl, fun x dx nx ndx ne => ⟨x, dx, la, s, rfl, upd_same, fun H2 h2 bt => ⟨rfl, q ok _ _ ?_ ⟨x, dx, la, rfl, .inr nx, .inl rfl, h2, ?_⟩⟩⟩⟩
      · exact Same.made nx ndx bt
      · exact Same.made nx ndx bt _ _ hla
theorem scRead : FnScope ["row", "sentences", "at", "behind"] ["row"] (defScope stRead) := ⟨rfl, rfl, rfl, by decide +kernel, rfl, by decide +kernel, by decide +kernel⟩
theorem ok_read {f : Addr} {fd : FuncData} (F : Fun K "read_sentences" "read_sentences" stRead f fd) (T : Txt K mg A) (UF : Use P w K mg base (L2.CX P w) 3 "fit_sentence" ["length", "anchors"] (spFit A)) :
    FnOk P w K mg base (L2.CX P w) 4 f fd ["row"] (spRead A) := by
  refine F.okX scRead (fun vs H Q E h => ?_) (fun cdv Ar outer s H vs Q E hr h => ⟨_, pss_cons (ps_set (i := 1) scRead.nd rfl (.inl rfl) (pe_lst pa_nil)) (pss_cons (ps_set (i := 2) scRead.nd rfl (.inl rfl) pe_int)
    (pss_cons (ps_while (passes_of rfl) (pt_cmpR op_lt (pv 2) (pe_callB call_len_seq (by rfl) T.len PySem.boot_len (pa_cons (pv 0) pa_nil)) (nomark _))
      (pss_cons (ps_set (i := 3) scRead.nd rfl (.inl rfl) (pe_op op_add (pe_op op_add (pv 2) pe_int) (pe_ix ix_list (pv 0) (pe_op op_add (pv 2) pe_int) (fun _ _ => rfl))))
      (pss_cons (ps_expr (pe_bm PySem.F.plainAttrs_list PySem.F.slot_list_append PySem.F.type_list_append mt_append (pv 1) (pa_cons (pe_use UF hr rfl (passes_call (takes_of rfl rfl rfl rfl) (fun _ _ _ _ z => z))
        (pa_cons (pe_ix ix_list (pv 0) (pv 2) (fun _ _ => rfl)) (pa_cons (pe_slice sl_list (pv 0) (po_some (pe_op op_add (pv 2) pe_int)) (po_some (pv 3))) pa_nil))) pa_nil)))
      (pss_one (ps_set (i := 2) scRead.nd rfl (.inl rfl) (pv 3))))))
    (pss_one (ps_ret (pv 1))))), ?_⟩)
  · obtain ⟨ra, ss, rfl, _⟩ := h
    rfl
  · obtain ⟨ra, ss, rfl, hra, hl, qE, q⟩ := h
    refine ⟨Nat.zero_le _, fun p hp => ?_⟩
    refine while_by (fun σ H' => ∃ (n : Nat) (o3 : Option V) (xs : List V), n ≤ ss.length ∧ σ = [some (.ref ra), some (.ref p), some (nv (rowOf (ss.take n)).length), o3] ∧ Same H H' ∧ H' p = some (.lst xs) ∧ Paired (SenO A.CS (fun b => H b = none ∧ b ≠ p) H') xs (ss.take n) ∧ (ss.take n).all Ut05.sentOk = true)
      (fun σ _ => 2000 - slotN σ 2) ⟨0, none, [], Nat.zero_le _, rfl, Same.upd hp, upd_same, .nil, rfl⟩ ?_ ?_
    · rintro σ H' ⟨n, o3, xs, hn, rfl, sm, hpx, hpr, hok⟩
      have hra' := sm _ _ hra
      refine ⟨_, rfl, _, rfl, ra, _, rfl, .inl (SqL.of hra'), _, _, rfl, rfl, _, rfl, if_dec (fun c => ?_) fun c => ?_⟩
      · rw [List.length_map] at c
        have hlt : n < ss.length := row_lt.mp (by omega)
        obtain ⟨s, hs⟩ : ∃ s, ss[n]? = some s := ⟨_, List.getElem?_eq_getElem hlt⟩
        have at0 : ((rowOf ss).map nv)[(rowOf (ss.take n)).length]? = some (nv s.long) := by rw [List.getElem?_map, row_at0 hs]; rfl
        have at1 : ((rowOf ss).map nv)[(rowOf (ss.take n)).length + 1]? = some (nv s.anchors.length) := by rw [List.getElem?_map, row_at1 hs]; rfl
        have nx := row_take hs
        have cut := row_cut hs
        generalize (rowOf (ss.take n)).length = at_ at at0 at1 nx cut c ⊢
        have hcut : cutV ((rowOf ss).map nv) (some ((at_ : Int) + 2)) (some ((at_ : Int) + 2 + (s.anchors.length : Int))) = s.anchors.map nv := by
          have e := cut_nat (xs := (rowOf ss).map nv) (i := at_ + 2) (n := s.anchors.length)
          rw [← List.map_drop, ← List.map_take, cut] at e
          exact e
        refine ⟨_, rfl, _, _, rfl, rfl, _, rfl, _, rfl, _, _, rfl, rfl, ra, _, _, _, rfl, rfl, SqL.of hra', atI_nat (j := at_ + 1) at1, _, _, rfl, rfl, ?_⟩
        refine ⟨_, rfl, .inl ⟨rfl, _, SqL.of hpx⟩, _, rfl, _, rfl, ra, _, _, _, rfl, rfl, SqL.of hra', atI_nat at0, _, rfl, _, rfl, _, _, rfl, rfl, _, rfl, _, rfl, _, rfl, ra, _, rfl, SqL.of hra', fun q1 n1 => ?_⟩
        rw [hcut]
        have t1 := Same.upd (o := .lst (s.anchors.map nv)) n1
        have lenA : s.anchors.length ≤ (rowOf ss).length := by
          have := (List.getElem?_eq_some_iff.mp at1).1
          rw [row_split hs, List.length_append, List.length_append, List.length_cons, List.length_cons]
          omega
        refine ⟨q1, s, rfl, upd_same, by omega, fun bad => qE ?_ _ (sm.trans t1), fun good H2 v s2 hv => ?_⟩
        · rw [List.all_eq_false]
          exact ⟨s, List.mem_of_getElem? hs, by rw [bad]; exact Bool.false_ne_true⟩
        have hlen := paired_len hpr
        rw [List.length_take] at hlen
        have many := row_many ss
        have s12 := t1.trans s2
        refine ⟨p, xs, v, rfl, rfl, (t1.trans s2) _ _ hpx, small1000 (by omega), _, rfl, ⟨n + 1, some (.int ((at_ : Int) + 2 + (s.anchors.length : Int))), xs ++ [v], hlt, ?_, ?_, upd_same, ?_, ?_⟩, ?_⟩
        · rw [nx]
          rfl
        · exact Same.free_upd hp (sm.trans s12)
        · rw [take_more hs]
          refine paired_append (Paired.mapP hpr fun _ _ z => ?_) (.cons ?_ .nil)
          · exact z.frame fun b o ob q => ⟨ob, by rw [upd_ne ob.2]; exact s12 _ _ q⟩
          · have np : ∀ b, b = q1 ∨ (upd H' q1 (.lst (s.anchors.map nv))) b = none → H b = none ∧ b ≠ p := fun b hb => by
              have hb' : H' b = none := by
                rcases hb with e | e
                · rw [e]
                  exact n1
                · exact t1.free e
              exact ⟨sm.free hb', fun e => by rw [e, hpx] at hb'; cases hb'⟩
            exact hv.frame fun b o ob q => ⟨np b ob, by rw [upd_ne (np b ob).2]; exact q⟩
        · rw [take_more hs, List.all_append, hok, List.all_cons, good]
          rfl
        · show 2000 - ((at_ : Int) + 2 + (s.anchors.length : Int)).toNat < 2000 - ((at_ : Int)).toNat
          omega
      · rw [List.length_map] at c
        have hge : n = ss.length := by
          rcases Nat.lt_or_ge n ss.length with z | z
          · exact absurd (row_lt.mpr z) (by omega)
          · omega
        subst hge
        rw [List.take_length] at hok hpr
        exact ⟨_, rfl, q hok _ p sm ⟨xs, hp, hpx, Paired.mapP hpr fun _ _ z => z.frame fun _ _ o q => ⟨o.1, q⟩⟩⟩
    · rintro σ H' Q1 Q2 hq ⟨v1, h1, v2, h2, a, ys, e1, e2, i, j, e3, e4, k, e5, h3⟩
      exact ⟨v1, h1, v2, h2, a, ys, e1, e2, i, j, e3, e4, k, e5, hq _ _ h3⟩
end
end Sy

namespace Sy
open PySem PySem.Spec PyProof.Rows L2
/-! set_costs, set_texts -/
abbrev stSetC : Stmt := top 27
abbrev stSetT : Stmt := top 28
def spSetC (A : Ads) : Sp := fun vs H Q E => ∃ (y kc : Addr) (O : Addr → Prop) (g : Ut05.House) (c : Ut05.Costs), vs = [.ref y, .ref kc, nv c.share, nv c.weight, nv c.anchor] ∧ YardO A O H y g ∧ ¬ O kc ∧ H kc = some (.lst (c.kind.map nv)) ∧ c.kind.length = 6 ∧
  (Ut05.costsOk c = false → E (.ref A.CU) none H) ∧ (Ut05.costsOk c = true → ∀ H' p, YardO A (fun b => O b ∨ b = kc) H' y { g with costs := c } → Keep O H H' → (∀ o, H p = some o → O p) → H' p = some (.lst [.int 0]) → Q (.ref p) H')
def spSetT (A : Ads) : Sp := fun vs H Q E => ∃ (y ra : Addr) (O : Addr → Prop) (g : Ut05.House) (a b : List Ut05.Sent), vs = [.ref y, nv a.length, nv b.length, .ref ra] ∧ YardO A O H y g ∧ H ra = some (.lst ((rowOf (a ++ b)).map nv)) ∧ (rowOf (a ++ b)).length ≤ 1000 ∧
  (Ut05.textOk a = false ∨ Ut05.textOk b = false → ∀ H', Same H H' → E (.ref A.CU) none H') ∧
  (Ut05.textOk a = true → Ut05.textOk b = true → ∀ H' p, YardO A (fun b => O b ∨ H b = none) H' y { g with one := a, two := b, fixed := [] } → Keep O H H' → (∀ o, H p = some o → O p) → H' p = some (.lst [nv a.length, nv b.length]) → Q (.ref p) H')
section
variable (c : Ut05.Costs) (ak a1 a2 af : Addr)
theorem put_kind (p : Addr) : putF "kind_costs" (.ref p) (yF c ak a1 a2 af) = yF c p a1 a2 af := put_here
theorem put_share (n : Nat) : putF "share" (nv n) (yF c ak a1 a2 af) = yF { c with share := n } ak a1 a2 af := (put_past (by decide +kernel)).trans (congrArg _ put_here)
theorem put_weight (n : Nat) : putF "weight" (nv n) (yF c ak a1 a2 af) = yF { c with weight := n } ak a1 a2 af := (put_past (by decide +kernel)).trans (congrArg _ ((put_past (by decide +kernel)).trans (congrArg _ put_here)))
theorem put_anchor (n : Nat) : putF "anchor_price" (nv n) (yF c ak a1 a2 af) = yF { c with anchor := n } ak a1 a2 af := (put_past (by decide +kernel)).trans (congrArg _ ((put_past (by decide +kernel)).trans (congrArg _ ((put_past (by decide +kernel)).trans (congrArg _ put_here)))))
theorem put_first (p : Addr) : putF "first" (.ref p) (yF c ak a1 a2 af) = yF c ak p a2 af := (put_past (by decide +kernel)).trans (congrArg _ ((put_past (by decide +kernel)).trans (congrArg _ ((put_past (by decide +kernel)).trans (congrArg _ ((put_past (by decide +kernel)).trans (congrArg _ put_here)))))))
theorem put_second (p : Addr) : putF "second" (.ref p) (yF c ak a1 a2 af) = yF c ak a1 p af := (put_past (by decide +kernel)).trans (congrArg _ ((put_past (by decide +kernel)).trans (congrArg _ ((put_past (by decide +kernel)).trans (congrArg _ ((put_past (by decide +kernel)).trans (congrArg _ ((put_past (by decide +kernel)).trans (congrArg _ put_here)))))))))
theorem put_fixed (p : Addr) : putF "fixed" (.ref p) (yF c ak a1 a2 af) = yF c ak a1 a2 p := (put_past (by decide +kernel)).trans (congrArg _ ((put_past (by decide +kernel)).trans (congrArg _ ((put_past (by decide +kernel)).trans (congrArg _ ((put_past (by decide +kernel)).trans (congrArg _ ((put_past (by decide +kernel)).trans (congrArg _ ((put_past (by decide +kernel)).trans (congrArg _ put_here)))))))))))
end
theorem cut_to {xs : List V} {n : Nat} : cutV xs none (some (n : Int)) = xs.take n := by
  unfold cutV
  rw [HT.sIx_none, HT.sIx_nat, List.drop_zero, Nat.sub_zero]
  by_cases h : n ≤ xs.length
  · rw [Nat.min_eq_left h]
  · rw [Nat.min_eq_right (by omega), List.take_of_length_le (Nat.le_refl _), List.take_of_length_le (by omega)]
theorem cut_from {xs : List V} {n : Nat} : cutV xs (some (n : Int)) none = xs.drop n := by
  unfold cutV
  rw [HT.sIx_none, HT.sIx_nat]
  by_cases h : n ≤ xs.length
  · rw [Nat.min_eq_left h]
    exact List.take_of_length_le (by rw [List.length_drop]; omega)
  · rw [Nat.min_eq_right (a := n) (b := xs.length) (by omega), List.drop_length, List.drop_eq_nil_of_le (by omega), List.take_nil]
section
variable {P : Program} {w : World} {K : PySem.W.Frag} {mg : Str → Option Value} {base : Heap} {A : Ads}
theorem scSetC : FnScope ["yard", "kind_costs", "share", "weight", "anchor_price"] ["yard", "kind_costs", "share", "weight", "anchor_price"] (defScope stSetC) := ⟨rfl, rfl, rfl, by decide +kernel, rfl, by decide +kernel, by decide +kernel⟩
theorem ok_setc {f : Addr} {fd : FuncData} (F : Fun K "set_costs" "set_costs" stSetC f fd) (T : Txt K mg A) (N : Nums mg) :
    FnOk P w K mg base (L2.CX P w) 1 f fd ["yard", "kind_costs", "share", "weight", "anchor_price"] (spSetC A) := by
  refine F.okX scSetC (fun vs H Q E h => ?_) (fun cdv Ar outer s H vs Q E hr h => ⟨_, pss_cons (ps_if (pw_or (pt_cmpR op_gt (pe_callB (cr_max rfl) (by rfl) T.max (by decide +kernel) (pa_cons (pv 1) pa_nil)) (by exact pe_gint rfl N.mos) (nomark _))
        (pw_or (pt_cmpR op_lt (pv 2) pe_int (nomark _)) (pw_or1 (pt_cmpR op_gt (pv 2) (by exact pe_gint rfl N.mos) (nomark _))))).pt
      (pss_one (ps_raise rfl (takes_of rfl rfl rfl rfl) (pmk_own0 PySem.F.excBase_Exception T.eU.x T.eU.g T.eU.k (raises_own T.eU.b T.eU.t) (by exact rfl)))) pss_nil)
    (pss_cons (ps_if (pw_or (pt_cmpR op_gt (pv 3) (by exact pe_gint rfl N.wei) (nomark _)) (pw_or1 (pt_cmpR op_gt (pv 4) (by exact pe_gint rfl N.mos) (nomark _)))).pt
      (pss_one (ps_raise rfl (takes_of rfl rfl rfl rfl) (pmk_own0 PySem.F.excBase_Exception T.eU.x T.eU.g T.eU.k (raises_own T.eU.b T.eU.t) (by exact rfl)))) pss_nil)
    (pss_cons (ps_fld (pv 0) (pv 1) rfl) (pss_cons (ps_fld (pv 0) (pv 2) rfl) (pss_cons (ps_fld (pv 0) (pv 3) rfl) (pss_cons (ps_fld (pv 0) (pv 4) rfl) (pss_one (ps_ret (pe_lst (pa_cons pe_int pa_nil))))))))), ?_⟩)
  · obtain ⟨y, kc, O, g, c, rfl, _⟩ := h
    rfl
  · obtain ⟨y, kc, O, g, c, rfl, hY, ok, hkc, h6, qE, q⟩ := h
    have mapmap : c.kind.map nv = (c.kind.map fun n : Nat => (n : Int)).map V.int := by rw [List.map_map]; rfl
    refine ⟨_, rfl, kc, c.kind.map fun n : Nat => (n : Int), rfl, SqL.of (mapmap ▸ hkc), (by rw [List.length_map]; omega), fun m hm hle => ?_⟩
    obtain ⟨n, hn, rfl⟩ := List.mem_map.mp hm
    have le : ∀ x ∈ c.kind, x ≤ n := fun x hx => by
      have := hle (x : Int) (List.mem_map_of_mem hx)
      omega
    refine ⟨_, _, rfl, rfl, _, rfl, if_dec (fun b => iteT (qE ?_)) fun c1 => ⟨_, rfl, _, _, rfl, rfl, _, rfl, if_dec (fun b => iteT (qE ?_)) fun c2 => ⟨_, rfl, _, _, rfl, rfl, _, rfl, if_dec (fun b => qE ?_) fun c3 => ?_⟩⟩⟩
    · unfold Ut05.costsOk
      rw [List.all_eq_false.mpr ⟨n, hn, by simp; omega⟩, Bool.false_and, Bool.and_false]
    · unfold Ut05.costsOk
      rw [decide_eq_false (p := 1 ≤ c.share) (by omega), Bool.false_and, Bool.and_false, Bool.and_false]
    · unfold Ut05.costsOk
      rw [decide_eq_false (p := c.share ≤ 999) (by omega), Bool.false_and, Bool.and_false, Bool.and_false, Bool.and_false]
    refine ⟨_, rfl, _, _, rfl, rfl, _, rfl, if_dec (fun b => iteT (qE ?_)) fun c4 => ⟨_, rfl, _, _, rfl, rfl, _, rfl, if_dec (fun b => qE ?_) fun c5 => ?_⟩⟩
    · unfold Ut05.costsOk
      rw [decide_eq_false (p := c.weight ≤ 99) (by omega), Bool.false_and, Bool.and_false, Bool.and_false, Bool.and_false, Bool.and_false]
    · unfold Ut05.costsOk
      rw [decide_eq_false (p := c.anchor ≤ 999) (by omega), Bool.and_false, Bool.and_false, Bool.and_false, Bool.and_false, Bool.and_false]
    have good : Ut05.costsOk c = true := by
      unfold Ut05.costsOk
      rw [decide_eq_true h6, List.all_eq_true.mpr fun x hx => decide_eq_true (by have := le x hx; omega), decide_eq_true (p := 1 ≤ c.share) (by omega), decide_eq_true (p := c.share ≤ 999) (by omega), decide_eq_true (p := c.weight ≤ 99) (by omega), decide_eq_true (p := c.anchor ≤ 999) (by omega)]
      rfl
    obtain ⟨dx, ak, a1, a2, af, hX⟩ := hY
    have hy := hX.hy
    obtain ⟨vf, hf, pf⟩ := hX.fx
    refine ⟨_, rfl, _, rfl, y, A.CY, dx, _, rfl, hy, T.clY, T.yK, (by show 7 < 1000; decide), ?_⟩
    rw [put_kind]
    refine ⟨_, rfl, _, rfl, y, A.CY, dx, _, rfl, upd_same, T.clY, T.yS, (by show 7 < 1000; decide), ?_⟩
    rw [put_share, upd_upd]
    refine ⟨_, rfl, _, rfl, y, A.CY, dx, _, rfl, upd_same, T.clY, T.yW, (by show 7 < 1000; decide), ?_⟩
    rw [put_weight, upd_upd]
    refine ⟨_, rfl, _, rfl, y, A.CY, dx, _, rfl, upd_same, T.clY, T.yA, (by show 7 < 1000; decide), ?_⟩
    rw [put_anchor, upd_upd]
    refine ⟨(by show 1 ≤ sizeLine; decide), fun p hp => q good _ p ?_ ?_ (fun o e => Classical.byContradiction fun no => have ne : p ≠ y := fun z => no (by rw [z]; exact hX.oy); nomatch hp.symm.trans ((upd_ne ne).trans e)) upd_same⟩
    · have st := Same.upd (o := .lst [.int 0]) hp
      have other : ∀ b o, Part o → H b = some o → (upd (upd H y (.ins A.CY dx (yF c kc a1 a2 af))) p (.lst [.int 0])) b = some o := fun b o po e => st _ _ (by rw [upd_ne (ne_of e hy po.ne)]; exact e)
      have nk : Apart3 a1 a2 af kc := ⟨fun z => ok (z ▸ hX.o1), fun z => ok (z ▸ hX.o2), fun z => ok (z ▸ hX.of)⟩
      refine ⟨dx, kc, a1, a2, af, .inl hX.oy, .inr rfl, .inl hX.o1, .inl hX.o2, .inl hX.of, nk, hX.n12, hX.n1f, hX.n2f, st _ _ upd_same, other _ _ (.inl ⟨_, rfl⟩) hkc,
        hX.t1.parts (fun b o ob po e => ⟨⟨.inl ob.1, ob.2⟩, other b o po e⟩) fun vs e => other _ _ (.inl ⟨_, rfl⟩) e, hX.t2.parts (fun b o ob po e => ⟨⟨.inl ob.1, ob.2⟩, other b o po e⟩) fun vs e => other _ _ (.inl ⟨_, rfl⟩) e, vf, other _ _ (.inl ⟨_, rfl⟩) hf, Paired.mapP pf fun v z qz => ?_⟩
      obtain ⟨r, q1, q2⟩ := qz
      exact ⟨r, q1, st _ _ (by rw [upd_ne (ne_of q2 hy (fun z => nomatch z))]; exact q2)⟩
    · intro b o e no
      have ne : b ≠ y := fun z => no (by rw [z]; exact hX.oy)
      exact Same.upd hp _ _ (by rw [upd_ne ne]; exact e)
theorem scSetT : FnScope ["yard", "many", "others", "row", "sentences"] ["yard", "many", "others", "row"] (defScope stSetT) := ⟨rfl, rfl, rfl, by decide +kernel, rfl, by decide +kernel, by decide +kernel⟩
theorem ok_sett {f : Addr} {fd : FuncData} (F : Fun K "set_texts" "set_texts" stSetT f fd) (T : Txt K mg A) (N : Nums mg) (UR : Use P w K mg base (L2.CX P w) 4 "read_sentences" ["row"] (spRead A)) :
    FnOk P w K mg base (L2.CX P w) 5 f fd ["yard", "many", "others", "row"] (spSetT A) := by
  refine F.okX scSetT (fun vs H Q E h => ?_) (fun cdv Ar outer s H vs Q E hr h => ⟨_, pss_cons (ps_if (pw_or (pt_cmpR op_gt (pv 1) (by exact pe_gint rfl N.sen) (nomark _)) (pw_or1 (pt_cmpR op_gt (pv 2) (by exact pe_gint rfl N.sen) (nomark _)))).pt
      (pss_one (ps_raise rfl (takes_of rfl rfl rfl rfl) (pmk_own0 PySem.F.excBase_Exception T.eU.x T.eU.g T.eU.k (raises_own T.eU.b T.eU.t) (by exact rfl)))) pss_nil)
    (pss_cons (ps_set (i := 4) scSetT.nd rfl (.inl rfl) (pe_use UR hr rfl (passes_call (takes_of rfl rfl rfl rfl) (fun _ _ _ _ z => z)) (pa_cons (pv 3) pa_nil)))
    (pss_cons (ps_fld (pv 0) (pe_slice sl_list (pv 4) po_none (po_some (pv 1))) rfl) (pss_cons (ps_fld (pv 0) (pe_slice sl_list (pv 4) (po_some (pv 1)) po_none) rfl) (pss_cons (ps_fld (pv 0) (pe_lst pa_nil) rfl)
    (pss_one (ps_ret (pe_lst (pa_cons (pv 1) (pa_cons (pv 2) pa_nil))))))))), ?_⟩)
  · obtain ⟨y, ra, O, g, a, b, rfl, _⟩ := h
    rfl
  · obtain ⟨y, ra, O, g, a, b, rfl, hY, hra, hl, qE, q⟩ := h
    refine ⟨_, rfl, _, _, rfl, rfl, _, rfl, if_dec (fun c => iteT (qE (.inl ?_) _ (Same.refl H))) fun c1 => ⟨_, rfl, _, _, rfl, rfl, _, rfl, if_dec (fun c => qE (.inr ?_) _ (Same.refl H)) fun c2 => ?_⟩⟩
    · unfold Ut05.textOk
      rw [decide_eq_false (by omega), Bool.false_and]
    · unfold Ut05.textOk
      rw [decide_eq_false (by omega), Bool.false_and]
    refine ⟨_, rfl, ra, a ++ b, rfl, hra, hl, fun bad H' sm => qE ?_ H' sm, fun good H1 ps sm1 hS => ?_⟩
    · rw [List.all_append, Bool.and_eq_false_iff] at bad
      rcases bad with e | e
      · left
        unfold Ut05.textOk
        rw [e, Bool.and_false]
      · right
        unfold Ut05.textOk
        rw [e, Bool.and_false]
    rw [List.all_append, Bool.and_eq_true] at good
    have ga : Ut05.textOk a = true := by
      unfold Ut05.textOk
      rw [good.1, decide_eq_true (by omega)]
      rfl
    have gb : Ut05.textOk b = true := by
      unfold Ut05.textOk
      rw [good.2, decide_eq_true (by omega)]
      rfl
    obtain ⟨dx, ak, a1, a2, af, hX⟩ := hY.same sm1
    have hy := hX.hy
    obtain ⟨vs, nps, hps, pp⟩ := hS
    refine ⟨_, rfl, _, rfl, _, rfl, ps, vs, rfl, SqL.of hps, fun p1 n1 => ?_⟩
    rw [cut_to]
    have t1 := Same.upd (o := .lst (vs.take a.length)) n1
    refine ⟨_, rfl, y, A.CY, dx, _, rfl, t1 _ _ hy, T.clY, T.y1, (by show 7 < 1000; decide), ?_⟩
    rw [put_first]
    have ny1 : y ≠ p1 := ne_of_none hy n1
    have hps1 : (upd (upd H1 p1 (.lst (vs.take a.length))) y (.ins A.CY dx (yF g.costs ak p1 a2 af))) ps = some (.lst vs) := by
      rw [upd_ne (ne_of hps hy (fun z => nomatch z))]
      exact t1 _ _ hps
    refine ⟨_, rfl, _, rfl, _, rfl, ps, vs, rfl, SqL.of hps1, fun p2 n2 => ?_⟩
    rw [cut_from]
    have t2 := Same.upd (o := .lst (vs.drop a.length)) n2
    refine ⟨_, rfl, y, A.CY, dx, _, rfl, t2 _ _ upd_same, T.clY, T.y2, (by show 7 < 1000; decide), ?_⟩
    rw [put_second]
    refine ⟨Nat.zero_le _, fun p3 n3 => ?_⟩
    have t3 := Same.upd (o := .lst []) n3
    refine ⟨_, rfl, y, A.CY, dx, _, rfl, t3 _ _ upd_same, T.clY, T.yX, (by show 7 < 1000; decide), ?_⟩
    rw [put_fixed]
    refine ⟨_, rfl, _, rfl, (by show 2 ≤ sizeLine; decide), fun p4 n4 => q ga gb _ p4 ?_ ?_ (fun o e => Classical.byContradiction fun no => have ne : p4 ≠ y := fun z => no (by rw [z]; exact hX.oy); nomatch n4.symm.trans ((upd_ne ne).trans (t3 _ _ ((upd_ne ne).trans (t2 _ _ ((upd_ne ne).trans (t1 _ _ (sm1 _ _ e)))))))) upd_same⟩
    · have t4 := Same.upd (o := .lst [nv a.length, nv b.length]) n4
      have b1 : But H1 (upd H1 p1 (.lst (vs.take a.length))) y := (But.refl H1 y).new n1
      have b2 := (b1.self (o := .ins A.CY dx (yF g.costs ak p1 a2 af))).new (o := .lst (vs.drop a.length)) n2
      have b3 := (b2.self (o := .ins A.CY dx (yF g.costs ak p1 p2 af))).new (o := .lst []) n3
      have b4 := (b3.self (o := .ins A.CY dx (yF g.costs ak p1 p2 p3))).new (o := .lst [nv a.length, nv b.length]) n4
      have q1 : H p1 = none := sm1.free n1
      have q2 : H p2 = none := sm1.free ((b1.self (o := .ins A.CY dx (yF g.costs ak p1 a2 af))).none upd_same n2)
      have q3 : H p3 = none := sm1.free ((b2.self (o := .ins A.CY dx (yF g.costs ak p1 p2 af))).none upd_same n3)
      have ny2 : p2 ≠ y := fun z => by rw [z, upd_same] at n2; cases n2
      have ny3 : p3 ≠ y := fun z => by rw [z, upd_same] at n3; cases n3
      have m2 : H1 p2 = none := (b1.self (o := .ins A.CY dx (yF g.costs ak p1 a2 af))).none upd_same n2
      have m3 : H1 p3 = none := (b2.self (o := .ins A.CY dx (yF g.costs ak p1 p2 af))).none upd_same n3
      have k1 : ∀ {b o}, H1 b = some o → Apart3 p1 p2 p3 b := fun e => ⟨ne_of_none e n1, ne_of_none e m2, ne_of_none e m3⟩
      have kp : ∀ q o, Part o → H1 q = some o → _ := fun q o po e => b4 _ _ e (ne_of e hy po.ne)
      have e1 := t4 _ _ (show _ = _ from (upd_ne (Ne.symm ny1)).trans (t3 _ _ ((upd_ne (Ne.symm ny1)).trans (t2 _ _ ((upd_ne (Ne.symm ny1)).trans (upd_same (H := H1) (a := p1) (o := .lst (vs.take a.length))))))))
      have e2 := t4 _ _ (show _ = _ from (upd_ne ny2).trans (t3 _ _ ((upd_ne ny2).trans (upd_same (a := p2) (o := .lst (vs.drop a.length))))))
      have e3 := t4 _ _ (show _ = _ from (upd_ne ny3).trans (upd_same (a := p3) (o := .lst [])))
      have w1 := (upd_ne (o := .ins A.CY dx (yF g.costs ak p1 a2 af)) (Ne.symm ny1)).trans (upd_same (H := H1) (a := p1) (o := .lst (vs.take a.length)))
      have w2 := (upd_ne (o := .ins A.CY dx (yF g.costs ak p1 p2 af)) ny2).trans (upd_same (H := upd (upd H1 p1 (.lst (vs.take a.length))) y (.ins A.CY dx (yF g.costs ak p1 a2 af))) (a := p2) (o := .lst (vs.drop a.length)))
      refine ⟨dx, ak, p1, p2, p3, .inl hX.oy, .inl hX.ok, .inr q1, .inr q2, .inr q3, k1 hX.hk, ne_of_none w1 n2, ne_of_none ((upd_ne (Ne.symm ny1)).trans (t2 _ _ w1)) n3, ne_of_none w2 n3, t4 _ _ upd_same, kp _ _ (.inl ⟨_, rfl⟩) hX.hk, ⟨_, e1, ?_⟩, ⟨_, e2, ?_⟩, ⟨[], e3, .nil⟩⟩
      · have := paired_take a.length pp
        rw [List.take_left] at this
        exact Paired.mapP this fun _ _ z => z.parts fun q o oq po e => ⟨⟨.inr oq, k1 e⟩, kp q o po e⟩
      · have := paired_drop a.length pp
        rw [List.drop_left] at this
        exact Paired.mapP this fun _ _ z => z.parts fun q o oq po e => ⟨⟨.inr oq, k1 e⟩, kp q o po e⟩
    · intro q o e no
      have ne : q ≠ y := fun z => no (by rw [z]; exact hX.oy)
      have t4 := Same.upd (o := .lst [nv a.length, nv b.length]) n4
      exact t4 _ _ ((upd_ne ne).trans (t3 _ _ ((upd_ne ne).trans (t2 _ _ ((upd_ne ne).trans (t1 _ _ (sm1 _ _ e)))))))
end
end Sy

namespace Sy
open PySem PySem.Spec PyProof.Rows L2
/-! laying_told, how_laid -/
abbrev stLT : Stmt := top 35
abbrev stHow : Stmt := top 34
def spLT (A : Ads) : Sp := fun vs H Q E => ∃ (y fa : Addr) (own : List Addr) (g : Ut05.House) (fx : List (Nat × Nat)), vs = [.ref y, .ref fa] ∧ YardAt A H y own g ∧ Good g ∧ PrsAt H fa fx ∧
  (best g.costs fx g.one g.two 0 0 = none → ∀ H', Same H H' → E (.ref A.CL) none H') ∧ (∀ r, best g.costs fx g.one g.two 0 0 = some r → ∀ H' v, Same H H' → WayAt H' v (some r) → Q v H')
/-- how it's laid, by the best way -/
theorem told_none {g : Ut05.House} (h : best g.costs g.fixed g.one g.two 0 0 = none) : Ut05.told g = [-6] := by
  unfold Ut05.told
  rw [least_best, h]
  rfl
theorem told_some {g : Ut05.House} {r : Nat × List Nat} (h : best g.costs g.fixed g.one g.two 0 0 = some r) : Ut05.told g = (r.1 :: r.2.length :: sizesOf r.2).map fun n : Nat => (n : Int) := by
  unfold Ut05.told
  rw [least_best, lay_best, h]
  have ew : way g.costs g.fixed g.one g.two 0 0 = r.2.map bd := by
    unfold way
    rw [h]
  rw [ew]
  show Ut05.ints ([r.1, (r.2.map bd).length] ++ (r.2.map bd).flatMap fun x => [x.1, x.2]) = _
  rw [List.length_map, List.flatMap_map]
  rfl
def spHow (A : Ads) : Sp := fun vs H Q E => ∃ (y : Addr) (own : List Addr) (g : Ut05.House), vs = [.ref y] ∧ YardAt A H y own g ∧ Good g ∧ ∀ H', Same H H' → (Ut05.told g = [-6] → E (.ref A.CL) none H') ∧ ∀ p, H p = none → H' p = some (.lst ((Ut05.told g).map V.int)) → Q (.ref p) H'
section
variable {P : Program} {w : World} {K : PySem.W.Frag} {mg : Str → Option Value} {base : Heap} {A : Ads}
theorem scLT : FnScope ["yard", "fixed", "laying"] ["yard", "fixed"] (defScope stLT) := ⟨rfl, rfl, rfl, by decide +kernel, rfl, by decide +kernel, by decide +kernel⟩
theorem ok_lt {f : Addr} {fd : FuncData} (F : Fun K "laying_told" "laying_told" stLT f fd) (T : Txt K mg A) (UT : UseM P w K mg base CX0 4 A.CY "told" ["self", "fixed"] (spTold A)) : FnOk P w K mg base (L2.CX P w) 5 f fd ["yard", "fixed"] (spLT A) := by
  refine F.okX scLT (fun vs H Q E h => ?_) (fun cdv Ar outer s H vs Q E hr h => ⟨_, pss_cons (ps_set (i := 2) scLT.nd rfl (.inl rfl) (pe_useM (pv 0) T.clY UT hr pass0 (pa_cons (pv 1) pa_nil)))
    (pss_cons (ps_if (pt_cmp (pc_isN (pv 2))) (pss_one (ps_raise rfl (takes_of rfl rfl rfl rfl) (pmk_own0 PySem.F.excBase_Exception T.eL.x T.eL.g T.eL.k (raises_own T.eL.b T.eL.t) (by exact rfl)))) pss_nil)
    (pss_one (ps_ret (pv 2)))), ?_⟩)
  · obtain ⟨y, fa, own, g, fx, rfl, _⟩ := h
    rfl
  · obtain ⟨y, fa, own, g, fx, rfl, hY, hG, hF, qE, q⟩ := h
    obtain ⟨dx, ak, a1, a2, af, _, hy, _⟩ := id hY.ex
    refine ⟨_, rfl, y, dx, _, rfl, hy, yF_no _ _ _ _ _ (by decide +kernel), _, rfl, y, fa, own, g, fx, rfl, hY, hG, hF, fun H' v sm hw => ?_⟩
    cases eb : best g.costs fx g.one g.two 0 0 with
    | none =>
      rw [eb] at hw
      cases (show v = .non from hw)
      exact ⟨_, rfl, _, rfl, if_dec (fun _ => qE eb H' sm) fun c => absurd rfl c⟩
    | some r =>
      rw [eb] at hw
      have hw2 := hw
      obtain ⟨p, l, rfl, _⟩ := hw2
      exact ⟨_, rfl, _, rfl, if_dec (fun c => nomatch c) fun _ => ⟨_, rfl, q r eb H' _ sm hw⟩⟩
theorem scHow : FnScope ["yard", "much", "kinds"] ["yard"] (defScope stHow) := ⟨rfl, rfl, rfl, by decide +kernel, rfl, by decide +kernel, by decide +kernel⟩
theorem ok_how {f : Addr} {fd : FuncData} (F : Fun K "how_laid" "how_laid" stHow f fd) (T : Txt K mg A) (UL : Use P w K mg base (L2.CX P w) 5 "laying_told" ["yard", "fixed"] (spLT A)) (US : Use P w K mg base CX0 1 "sizes_of" ["kinds"] spSizes) :
    FnOk P w K mg base (L2.CX P w) 6 f fd ["yard"] (spHow A) := by
  refine F.okX scHow (fun vs H Q E h => ?_) (fun cdv Ar outer s H vs Q E hr h => ⟨_, pss_cons (ps_asg (pe_use UL hr rfl (passes_call (takes_of rfl rfl rfl rfl) (fun _ _ _ _ z => z)) (pa_cons (pv 0) (pa_cons (pe_fld (pv 0) rfl) pa_nil)))
      (pg_tup rfl (pgs_cons (pg_name (i := 1) scHow.nd rfl (.inl rfl)) (pgs_cons (pg_name (i := 2) scHow.nd rfl (.inl rfl)) pgs_nil))))
    (pss_one (ps_ret (pe_op op_cat (pe_lst (pa_cons (pv 1) (pa_cons (pe_callB call_len_seq (by rfl) T.len PySem.boot_len (pa_cons (pv 2) pa_nil)) pa_nil))) (pe_use US (hr.mono (by decide)) rfl pass0 (pa_cons (pv 2) pa_nil))))), ?_⟩)
  · obtain ⟨y, own, g, rfl, _⟩ := h
    rfl
  · obtain ⟨y, own, g, rfl, hY, hG, q⟩ := h
    obtain ⟨dx, ak, a1, a2, af, _, hy, _, _, _, hF⟩ := id hY.ex
    refine ⟨_, rfl, _, rfl, y, A.CY, dx, _, _, rfl, hy, T.clY, T.yX, yF_fixed .., y, af, own, g, g.fixed, rfl, hY, hG, hF, fun eb H' sm => (q H' sm).1 (told_none eb), fun r eb H' v sm hw => ?_⟩
    obtain ⟨p, l, rfl, hp, hl⟩ := hw
    have bl := best_len g.costs g.fixed g.one g.two _ 0 0 r (Nat.le_refl _) eb
    have g1 := hG.one
    have g2 := hG.two
    refine ⟨p, _, rfl, SqT.of hp, rfl, _, _, rfl, _, _, rfl, rfl, _, rfl, _, rfl, l, _, rfl, .inl (SqL.of hl), (by show 2 ≤ sizeLine; decide), fun p1 n1 => ?_⟩
    have t1 := Same.upd (o := .lst [nv r.1, .int ((r.2.map nv).length : Nat)]) n1
    refine ⟨_, rfl, l, r.2, rfl, t1 _ _ hl, bl.2, by omega, fun H2 p2 s2 n2 h2 => ?_⟩
    refine ⟨p1, p2, _, _, rfl, rfl, s2 _ _ upd_same, h2, ?_, fun p3 n3 => ?_⟩
    · simp only [List.length_map, sizes_len]
      exact Nat.le_trans (by show 2 + 2 * r.2.length ≤ 1000; omega) (by decide : 1000 ≤ sizeLine)
    · refine (q _ (((sm.trans t1).trans s2).trans (Same.upd n3))).2 p3 (((sm.trans t1).trans s2).free n3) ?_
      rw [upd_same, told_some eb, List.length_map, List.map_map]
      rfl
end
end Sy

namespace Sy
open PySem PySem.Spec PyProof.Rows L2
/-! fix_pair, free_pair -/
abbrev stFix : Stmt := top 31
abbrev stFree : Stmt := top 33
/-- what a call on the object comes to: the state behind it, and its answer or its error -/
def Ans (A : Ads) (O : Addr → Prop) (H : Hp) (y : Addr) (r : Ut05.St × List Int) (Q : VK) (E : XK) : Prop := ∀ H', YardO A (fun b => O b ∨ H b = none) H' y r.1 → Keep O H H' →
  (r.2 = [-1] → E (.ref A.CU) none H') ∧ (r.2 = [-2] → E (.ref A.CN) none H') ∧ (r.2 = [-4] → E (.ref A.CA) none H') ∧ (r.2 = [-6] → E (.ref A.CL) none H') ∧ (r.2 = [-5] → E (.ref A.CF) none H') ∧ ∀ p, (∀ o, H p = some o → O p) → H' p = some (.lst (r.2.map V.int)) → Q (.ref p) H'
theorem Keep.same {O : Addr → Prop} {H H' : Hp} (s : Same H H') : Keep O H H' := fun b o e _ => s b o e
theorem Keep.free {O : Addr → Prop} {H H1 : Hp} {p : Addr} (k : Keep O H H1) (n : H1 p = none) : ∀ o, H p = some o → O p := fun o e => Classical.byContradiction fun no => by
  have := k p o e no
  rw [n] at this
  cases this
theorem Keep.trans {O : Addr → Prop} {H H1 H2 : Hp} (a : Keep O H H1) (b : Keep O H1 H2) : Keep O H H2 := fun c o e n => b c o (a c o e n) n
theorem Ans.less {A : Ads} {O O2 : Addr → Prop} {H : Hp} {y : Addr} {r : Ut05.St × List Int} {Q : VK} {E : XK} (k : ∀ b, O b → O2 b) (q : Ans A O2 H y r Q E) : Ans A O H y r Q E := fun H' yd ke =>
  have z := q H' (yd.more fun b h => h.elim (fun h => .inl (k b h)) .inr) (fun b o e no => ke b o e fun h => no (k b h))
  ⟨z.1, z.2.1, z.2.2.1, z.2.2.2.1, z.2.2.2.2.1, fun p fr hp => z.2.2.2.2.2 p (fun o e => k _ (fr o e)) hp⟩
theorem hu65_of {Ar : Around} {k : Nat} (hr : Room k Ar) : Ar.units + 65 < cLine := by
  have := hr.un
  omega
def spFix (A : Ads) : Sp := fun vs H Q E => ∃ (y : Addr) (O : Addr → Prop) (g : Ut05.House) (i j : Nat), vs = [.ref y, nv i, nv j] ∧ YardO A O H y g ∧ Good g ∧ Ans A O H y (Ut05.step g (.fix i j)) Q E
def spFree (A : Ads) : Sp := fun vs H Q E => ∃ (y : Addr) (O : Addr → Prop) (g : Ut05.House) (i j : Nat), vs = [.ref y, nv i, nv j] ∧ YardO A O H y g ∧ Good g ∧ Ans A O H y (Ut05.step g (.free i j)) Q E
abbrev stRint : Stmt := top 32
def spRint (A : Ads) : Sp := fun vs H Q E => ∃ (y : Addr) (own : List Addr) (g : Ut05.House) (i j : Nat), vs = [.ref y, nv i, nv j] ∧ YardAt A H y own g ∧ ((g.one.length ≤ i ∨ g.two.length ≤ j) → E (.ref A.CN) none H) ∧ (¬ (g.one.length ≤ i ∨ g.two.length ≤ j) → Q .non H)
theorem prs_dp {K : PySem.W.Frag} {H : Hp} : ∀ {vs : List V} {fs : List (Nat × Nat)}, Paired (PrAt H) vs fs → DpAll K H vs (fs.map dPair)
  | _, _, .nil => .nil
  | _, _, .cons ⟨_, e, h⟩ t => .cons (e ▸ dp_pair (SqT.of h)) (prs_dp t)
theorem any_pair (fs : List (Nat × Nat)) (f : Nat × Nat) : ((fs.map dPair).any fun z => PyData.eqv z (dPair f)) = fs.contains f := by
  rw [List.any_map, List.contains_eq_any_beq]
  congr 1
  funext g
  show PyData.eqv (dPair g) (dPair f) = (f == g)
  rw [dPair_eqv, ← Bool.beq_eq_decide_eq]
  exact Bool.beq_comm
theorem nodup_lt : ∀ (n : Nat) (l : List Nat), l.Nodup → (∀ x ∈ l, x < n) → l.length ≤ n
  | 0, [], _, _ => Nat.le_refl _
  | 0, x :: _, _, h => absurd (h x (List.mem_cons_self ..)) (Nat.not_lt_zero x)
  | n + 1, l, hn, h => by
    by_cases c : n ∈ l
    · have ih := nodup_lt n (l.erase n) (hn.erase n) fun x hx => by
        have h1 := (hn.mem_erase_iff.mp hx)
        have := h x h1.2
        omega
      rw [List.length_erase_of_mem c] at ih
      omega
    · have ih := nodup_lt n l hn fun x hx => by
        have := h x hx
        have : x ≠ n := fun z => c (z ▸ hx)
        omega
      omega
theorem few_pairs {l : List (Nat × Nat)} (hn : l.Nodup) (h : ∀ f ∈ l, f.1 < 14 ∧ f.2 < 14) : l.length ≤ 196 := by
  have e := nodup_lt 196 (l.map fun f => f.1 * 14 + f.2) ?_ ?_
  · rwa [List.length_map] at e
  · refine List.pairwise_map.mpr (hn.imp_of_mem fun {a b} ha hb ne q => ne ?_)
    have h1 := h a ha
    have h2 := h b hb
    obtain ⟨a1, a2⟩ := a
    obtain ⟨b1, b2⟩ := b
    simp only at q h1 h2
    have : a1 = b1 := by omega
    subst this
    have : a2 = b2 := by omega
    subst this
    rfl
  · intro x hx
    obtain ⟨f, hf, rfl⟩ := List.mem_map.mp hx
    have := h f hf
    omega
theorem least_some {c : Ut05.Costs} {fx : List Ut05.Fixed} {a b : List Ut05.Sent} {r : Nat × List Nat} (h : best c fx a b 0 0 = some r) : Ut05.least c fx a b = some r.1 := by
  rw [least_best, h]
  rfl
theorem least_no {c : Ut05.Costs} {fx : List Ut05.Fixed} {a b : List Ut05.Sent} (h : best c fx a b 0 0 = none) : Ut05.least c fx a b = none := by
  rw [least_best, h]
  rfl
section
variable {g : Ut05.House} {i j : Nat}
theorem fix_out (h : g.one.length ≤ i ∨ g.two.length ≤ j) : Ut05.step g (.fix i j) = (g, [-2]) := if_pos h
theorem fix_there (h : ¬ (g.one.length ≤ i ∨ g.two.length ≤ j)) (h2 : g.fixed.contains (i, j) = true) : Ut05.step g (.fix i j) = (g, [-4]) := (if_neg h).trans (if_pos h2)
theorem fix_none (h : ¬ (g.one.length ≤ i ∨ g.two.length ≤ j)) (h2 : g.fixed.contains (i, j) = false) (h3 : best g.costs (g.fixed ++ [(i, j)]) g.one g.two 0 0 = none) : Ut05.step g (.fix i j) = (g, [-6]) := by
  refine (if_neg h).trans ((if_neg (by rw [h2]; exact Bool.false_ne_true)).trans ?_)
  show (match Ut05.least g.costs (g.fixed ++ [(i, j)]) g.one g.two with
    | none => (g, [-6])
    | some n => ({ g with fixed := g.fixed ++ [(i, j)] }, Ut05.ints [n])) = _
  rw [least_no h3]
theorem fix_some {r : Nat × List Nat} (h : ¬ (g.one.length ≤ i ∨ g.two.length ≤ j)) (h2 : g.fixed.contains (i, j) = false) (h3 : best g.costs (g.fixed ++ [(i, j)]) g.one g.two 0 0 = some r) : Ut05.step g (.fix i j) = ({ g with fixed := g.fixed ++ [(i, j)] }, [(r.1 : Int)]) := by
  refine (if_neg h).trans ((if_neg (by rw [h2]; exact Bool.false_ne_true)).trans ?_)
  show (match Ut05.least g.costs (g.fixed ++ [(i, j)]) g.one g.two with
    | none => (g, [-6])
    | some n => ({ g with fixed := g.fixed ++ [(i, j)] }, Ut05.ints [n])) = _
  rw [least_some h3]
  rfl
end
theorem PrsAt.but {H H1 : Hp} {vs : List V} {fs : List (Nat × Nat)} (h : Paired (PrAt H) vs fs) (k : ∀ b xs, H b = some (.tup xs) → H1 b = some (.tup xs)) : Paired (PrAt H1) vs fs := Paired.mapP h fun _ _ ⟨r, e, q⟩ => ⟨r, e, k _ _ q⟩
section
variable {P : Program} {w : World} {K : PySem.W.Frag} {mg : Str → Option Value} {base : Heap} {A : Ads}
theorem scRint : FnScope ["yard", "i", "j"] ["yard", "i", "j"] (defScope stRint) := ⟨rfl, rfl, rfl, by decide +kernel, rfl, by decide +kernel, by decide +kernel⟩
theorem ok_rint {f : Addr} {fd : FuncData} (F : Fun K "refuse_if_not_there" "refuse_if_not_there" stRint f fd) (T : Txt K mg A) : FnOk P w K mg base (L2.CX P w) 1 f fd ["yard", "i", "j"] (spRint A) := by
  refine F.okX scRint (fun vs H Q E h => ?_) (fun cdv Ar outer s H vs Q E hr h => ⟨_, pss_one (ps_if (pw_or (pt_cmpR op_ge (pv 1) (pe_callB call_len_seq (by rfl) T.len PySem.boot_len (pa_cons (by exact pe_fld (pv 0) rfl) pa_nil)) (nomark _))
        (pw_or1 (pt_cmpR op_ge (pv 2) (pe_callB call_len_seq (by rfl) T.len PySem.boot_len (pa_cons (by exact pe_fld (pv 0) rfl) pa_nil)) (nomark _)))).pt
      (pss_one (ps_raise rfl (takes_of rfl rfl rfl rfl) (pmk_own0 PySem.F.excBase_Exception T.eN.x T.eN.g T.eN.k (raises_own T.eN.b T.eN.t) (by exact rfl)))) pss_nil), ?_⟩)
  · obtain ⟨y, own, g, i, j, rfl, _⟩ := h
    rfl
  · obtain ⟨y, own, g, i, j, rfl, hY, qE, q⟩ := h
    obtain ⟨dx, ak, a1, a2, af, _, hy, _, ⟨v1, h1, p1⟩, ⟨v2, h2, p2⟩, _⟩ := id hY.ex
    have l1 := paired_len p1
    have l2 := paired_len p2
    refine ⟨_, rfl, _, rfl, y, A.CY, dx, _, _, rfl, hy, T.clY, T.y1, yF_first .., a1, _, rfl, .inl (SqL.of h1), _, _, rfl, rfl, _, rfl, if_dec (fun c => iteT ?_) fun c1 =>
      ⟨_, rfl, _, rfl, y, A.CY, dx, _, _, rfl, hy, T.clY, T.y2, yF_second .., a2, _, rfl, .inl (SqL.of h2), _, _, rfl, rfl, _, rfl, if_dec (fun c => ?_) fun c2 => ?_⟩⟩
    · exact qE (.inl (by omega))
    · exact qE (.inr (by omega))
    · exact q (by omega)
theorem scFix : FnScope ["yard", "i", "j", "fixed", "laying"] ["yard", "i", "j"] (defScope stFix) := ⟨rfl, rfl, rfl, by decide +kernel, rfl, by decide +kernel, by decide +kernel⟩
theorem ok_fix {f : Addr} {fd : FuncData} (F : Fun K "fix_pair" "fix_pair" stFix f fd) (T : Txt K mg A) (UR : Use P w K mg base (L2.CX P w) 1 "refuse_if_not_there" ["yard", "i", "j"] (spRint A)) (UL : Use P w K mg base (L2.CX P w) 5 "laying_told" ["yard", "fixed"] (spLT A)) :
    FnOk P w K mg base (L2.CX P w) 6 f fd ["yard", "i", "j"] (spFix A) := by
  refine F.okX scFix (fun vs H Q E h => ?_) (fun cdv Ar outer s H vs Q E hr h => ⟨_, pss_cons (ps_expr (pe_use UR (hr.mono (by decide)) rfl (passes_call (takes_of rfl rfl rfl rfl) (fun _ _ _ _ z => z)) (pa_cons (pv 0) (pa_cons (pv 1) (pa_cons (pv 2) pa_nil)))))
    (pss_cons (ps_if (pt_cmpR (op_inD (hu65_of hr)) (pe_tup (pa_cons (pv 1) (pa_cons (pv 2) pa_nil))) (pe_fld (pv 0) rfl) rfl)
      (pss_one (ps_raise rfl (takes_of rfl rfl rfl rfl) (pmk_own0 PySem.F.excBase_Exception T.eA.x T.eA.g T.eA.k (raises_own T.eA.b T.eA.t) (by exact rfl)))) pss_nil)
    (pss_cons (ps_set (i := 3) scFix.nd rfl (.inl rfl) (pe_op op_cat (pe_fld (pv 0) rfl) (pe_lst (pa_cons (pe_tup (pa_cons (pv 1) (pa_cons (pv 2) pa_nil))) pa_nil))))
    (pss_cons (ps_set (i := 4) scFix.nd rfl (.inl rfl) (pe_use UL hr rfl (passes_call (takes_of rfl rfl rfl rfl) (fun _ _ _ _ z => z)) (pa_cons (pv 0) (pa_cons (pv 3) pa_nil))))
    (pss_cons (ps_fld (pv 0) (pv 3) rfl)
    (pss_one (ps_ret (pe_lst (pa_cons (pe_ix ix_tup (pv 4) pe_int (fun _ _ => rfl)) pa_nil)))))))), ?_⟩)
  · obtain ⟨y, O, g, i, j, rfl, _⟩ := h
    rfl
  · obtain ⟨y, O, g, i, j, rfl, hY, hG, q⟩ := h
    obtain ⟨dx, ak, a1, a2, af, hX⟩ := id hY
    have hy := hX.hy
    obtain ⟨v1, h1, p1⟩ := hX.t1
    obtain ⟨v2, h2, p2⟩ := hX.t2
    obtain ⟨vf, hf, pf⟩ := hX.fx
    have same : ∀ {H'}, Same H H' → YardO A (fun b => O b ∨ H b = none) H' y g ∧ Keep O H H' := fun s => ⟨(hY.same s).more fun _ => .inl, Keep.same s⟩
    have l1 := paired_len p1
    have l2 := paired_len p2
    obtain ⟨own, hYa⟩ := hY.at_
    refine ⟨_, rfl, _, rfl, _, rfl, y, own, g, i, j, rfl, hYa, fun c => ?_, fun hin => ?_⟩
    · have := same (Same.refl H)
      rw [fix_out c] at q
      exact (q H this.1 this.2).2.1 rfl
    refine ⟨_, rfl, _, rfl, (by show 2 ≤ sizeLine; decide), fun p0 n0 => ?_⟩
    have t0 := Same.upd (o := .tup [nv i, nv j]) n0
    refine ⟨_, rfl, y, A.CY, dx, _, _, rfl, t0 _ _ hy, T.clY, T.yX, yF_fixed .., _, _, dp_pair (f := (i, j)) (SqT.of upd_same), .lst (SqL.of (t0 _ _ hf)) (prs_dp (PrsAt.but pf fun _ _ z => t0 _ _ z)), dPair_shaped _, dPairs_shaped _, _, rfl, ?_⟩
    rw [any_pair]
    refine if_bool (fun c => ?_) fun c3 => ?_
    · have := same t0
      rw [fix_there hin c] at q
      exact (q _ this.1 this.2).2.2.1 rfl
    refine ⟨_, rfl, y, A.CY, dx, _, _, rfl, t0 _ _ hy, T.clY, T.yX, yF_fixed .., _, rfl, _, rfl, (by show 2 ≤ sizeLine; decide), fun p3 n3 => ?_⟩
    have t3 := Same.upd (o := .tup [nv i, nv j]) n3
    refine ⟨(by show 1 ≤ sizeLine; decide), fun p4 n4 => ?_⟩
    have t4 := Same.upd (o := .lst [.ref p3]) n4
    have lenF := paired_len pf
    have few := few_pairs hG.nodup (fun f hf => ⟨by have := (hG.fixed f hf).1; have := hG.one; omega, by have := (hG.fixed f hf).2; have := hG.two; omega⟩)
    refine ⟨af, p4, vf, _, rfl, rfl, ((t0.trans t3).trans t4) _ _ hf, upd_same, ?_, fun p5 n5 => ?_⟩
    · exact Nat.le_trans (by show vf.length + 1 ≤ 1000; omega) (by decide : 1000 ≤ sizeLine)
    have t5 := Same.upd (o := .lst (vf ++ [.ref p3])) n5
    have s5 := ((t0.trans t3).trans t4).trans t5
    have hp3 := (t4.trans t5) _ _ (upd_same (a := p3) (o := .tup [nv i, nv j]) (H := upd H p0 (.tup [nv i, nv j])))
    have hp5 : (upd (upd (upd (upd H p0 (.tup [nv i, nv j])) p3 (.tup [nv i, nv j])) p4 (.lst [.ref p3])) p5 (.lst (vf ++ [.ref p3]))) p5 = some (.lst (vf ++ [.ref p3])) := upd_same
    have n5H : H p5 = none := ((t0.trans t3).trans t4).free n5
    generalize upd (upd (upd (upd H p0 (.tup [nv i, nv j])) p3 (.tup [nv i, nv j])) p4 (.lst [.ref p3])) p5 (.lst (vf ++ [.ref p3])) = H5 at s5 hp3 hp5 ⊢
    have pf5 : Paired (PrAt H5) (vf ++ [.ref p3]) (g.fixed ++ [(i, j)]) := paired_append (PrsAt.but pf fun _ _ z => s5 _ _ z) (.cons ⟨p3, rfl, hp3⟩ .nil)
    refine ⟨_, rfl, _, rfl, y, p5, own, g, g.fixed ++ [(i, j)], rfl, hYa.same s5, hG, ⟨_, hp5, pf5⟩, fun eb H6 s6 => ?_, fun r eb H6 v s6 hw => ?_⟩
    · have := same (s5.trans s6)
      rw [fix_none hin c3 eb] at q
      exact (q _ this.1 this.2).2.2.2.1 rfl
    rw [fix_some hin c3 eb] at q
    have s56 := s5.trans s6
    refine ⟨_, rfl, _, rfl, y, A.CY, dx, _, rfl, s56 _ _ hy, T.clY, T.yX, (by show 7 < 1000; decide), ?_⟩
    rw [put_fixed]
    obtain ⟨pr, lr, rfl, hpr, hlr⟩ := hw
    have hpr2 : (upd H6 y (.ins A.CY dx (yF g.costs ak a1 a2 p5))) pr = some (.tup [nv r.1, .ref lr]) := by
      rw [upd_ne (ne_of hpr (s56 _ _ hy) (fun z => nomatch z))]
      exact hpr
    refine ⟨_, rfl, pr, _, _, _, rfl, rfl, SqT.of hpr2, atI_nat (j := 0) rfl, (by show 1 ≤ sizeLine; decide), fun p7 n7 => ?_⟩
    have t7 := Same.upd (o := .lst [nv r.1]) n7
    have kp : ∀ b o, Part o → H b = some o → (upd (upd H6 y (.ins A.CY dx (yF g.costs ak a1 a2 p5))) p7 (.lst [nv r.1])) b = some o := fun b o po e => t7 _ _ (by rw [upd_ne (ne_of (s56 _ _ e) (s56 _ _ hy) po.ne)]; exact s56 _ _ e)
    have far : ∀ {b o}, H b = some o → b ≠ p5 := fun e => ne_of_none e n5H
    refine (q _ ⟨dx, ak, a1, a2, p5, .inl hX.oy, .inl hX.ok, .inl hX.o1, .inl hX.o2, .inr n5H, ⟨hX.nk.1, hX.nk.2.1, far hX.hk⟩, hX.n12, far h1, far h2, t7 _ _ upd_same, kp _ _ (.inl ⟨_, rfl⟩) hX.hk, ?_, ?_, vf ++ [.ref p3], ?_, ?_⟩ ?_).2.2.2.2.2 p7 (fun o e => Classical.byContradiction fun no => have ne : p7 ≠ y := fun z => no (by rw [z]; exact hX.oy); nomatch n7.symm.trans ((upd_ne ne).trans (s56 _ _ e))) upd_same
    · exact hX.t1.parts (fun b o ob po e => ⟨⟨.inl ob.1, ob.2.1, ob.2.2.1, far e⟩, kp b o po e⟩) fun vs e => kp _ _ (.inl ⟨_, rfl⟩) e
    · exact hX.t2.parts (fun b o ob po e => ⟨⟨.inl ob.1, ob.2.1, ob.2.2.1, far e⟩, kp b o po e⟩) fun vs e => kp _ _ (.inl ⟨_, rfl⟩) e
    · refine t7 _ _ ?_
      rw [upd_ne (ne_of (s6 _ _ hp5) (s56 _ _ hy) (fun z => nomatch z))]
      exact s6 _ _ hp5
    · exact PrsAt.but pf5 fun b xs e => t7 _ _ (by rw [upd_ne (ne_of (s6 _ _ e) (s56 _ _ hy) (fun z => nomatch z))]; exact s6 _ _ e)
    · intro b o e no
      have ne : b ≠ y := fun z => no (by rw [z]; exact hX.oy)
      exact t7 _ _ (by rw [upd_ne ne]; exact s56 _ _ e)
end
end Sy

namespace Sy
open PySem PySem.Spec PyProof.Rows L2
theorem paired_erase {α β : Type} {F : α → β → Prop} : ∀ {xs : List α} {ys : List β} (n : Nat), Paired F xs ys → Paired F (xs.eraseIdx n) (ys.eraseIdx n)
  | _, _, _, .nil => .nil
  | _, _, 0, .cons _ r => r
  | _, _, n + 1, .cons q r => .cons q (paired_erase n r)
theorem filter_out {l : List (Nat × Nat)} {f : Nat × Nat} (h : f ∉ l) : l.filter (fun x => x != f) = l := List.filter_eq_self.mpr fun x hx => by
  rw [bne_iff_ne]
  rintro rfl
  exact h hx
theorem filter_erase {f : Nat × Nat} : ∀ {l : List (Nat × Nat)} {k : Nat}, l.Nodup → (l.findIdx? fun g => decide (g = f)) = some k → l.filter (fun x => x != f) = l.eraseIdx k
  | [], k, _, h => by simp at h
  | x :: l, k, hn, h => by
    rw [List.nodup_cons] at hn
    rw [List.findIdx?_cons] at h
    by_cases c : x = f
    · subst c
      rw [if_pos (decide_eq_true rfl)] at h
      cases h
      rw [List.filter_cons_of_neg (by simp), filter_out hn.1]
      rfl
    · rw [if_neg (by simpa using c)] at h
      obtain ⟨k', h1, h2⟩ := Option.map_eq_some_iff.mp h
      subst h2
      rw [List.filter_cons_of_pos (by simpa using c), filter_erase hn.2 h1]
      rfl
theorem find_there {f : Nat × Nat} : ∀ {l : List (Nat × Nat)}, l.contains f = true → ∃ k, (l.findIdx? fun g => decide (g = f)) = some k := fun {l} h => by
  cases e : l.findIdx? fun g => decide (g = f) with
  | some k => exact ⟨k, rfl⟩
  | none =>
    have hm : f ∈ l := by simpa using h
    have := List.findIdx?_eq_none_iff.mp e f hm
    simp at this
/-- the house with a pair less -/
def freed (g : Ut05.House) (i j : Nat) : Ut05.House := { g with fixed := g.fixed.filter fun f => f != (i, j) }
section
variable {g : Ut05.House} {i j : Nat}
theorem free_no (h : g.fixed.contains (i, j) = false) : Ut05.step g (.free i j) = (g, [-2]) := if_pos h
theorem free_none (h : g.fixed.contains (i, j) = true) (h3 : best g.costs (freed g i j).fixed g.one g.two 0 0 = none) : Ut05.step g (.free i j) = (freed g i j, [-6]) := by
  refine (if_neg (by rw [h]; decide)).trans ?_
  show (freed g i j, match Ut05.least g.costs (freed g i j).fixed g.one g.two with
    | none => [-6]
    | some n => Ut05.ints [n]) = _
  rw [least_no h3]
theorem free_some {r : Nat × List Nat} (h : g.fixed.contains (i, j) = true) (h3 : best g.costs (freed g i j).fixed g.one g.two 0 0 = some r) : Ut05.step g (.free i j) = (freed g i j, [(r.1 : Int)]) := by
  refine (if_neg (by rw [h]; decide)).trans ?_
  show (freed g i j, match Ut05.least g.costs (freed g i j).fixed g.one g.two with
    | none => [-6]
    | some n => Ut05.ints [n]) = _
  rw [least_some h3]
  rfl
theorem Good.freed (h : Good g) : Good (freed g i j) := ⟨h.k6, h.kind, h.share, h.weight, h.anchor, h.one, h.two, h.sens, fun f hf => h.fixed f (List.mem_filter.mp hf).1, h.nodup.filter _⟩
end
section
variable {P : Program} {w : World} {K : PySem.W.Frag} {mg : Str → Option Value} {base : Heap} {A : Ads}
theorem scFree : FnScope ["yard", "i", "j"] ["yard", "i", "j"] (defScope stFree) := ⟨rfl, rfl, rfl, by decide +kernel, rfl, by decide +kernel, by decide +kernel⟩
theorem ok_free {f : Addr} {fd : FuncData} (F : Fun K "free_pair" "free_pair" stFree f fd) (T : Txt K mg A) (UL : Use P w K mg base (L2.CX P w) 5 "laying_told" ["yard", "fixed"] (spLT A)) :
    FnOk P w K mg base (L2.CX P w) 6 f fd ["yard", "i", "j"] (spFree A) := by
  refine F.okX scFree (fun vs H Q E h => ?_) (fun cdv Ar outer s H vs Q E hr h => ⟨_, pss_cons (ps_if (pt_cmpR (op_notInD (hu65_of hr)) (pe_tup (pa_cons (pv 1) (pa_cons (pv 2) pa_nil))) (pe_fld (pv 0) rfl) rfl)
      (pss_one (ps_raise rfl (takes_of rfl rfl rfl rfl) (pmk_own0 PySem.F.excBase_Exception T.eN.x T.eN.g T.eN.k (raises_own T.eN.b T.eN.t) (by exact rfl)))) pss_nil)
    (pss_cons (ps_expr (pe_bm PySem.F.plainAttrs_list PySem.F.slot_list_remove PySem.F.type_list_remove (mt_removeD (hu65_of hr)) (pe_fld (pv 0) rfl) (pa_cons (pe_tup (pa_cons (pv 1) (pa_cons (pv 2) pa_nil))) pa_nil)))
    (pss_one (ps_ret (pe_lst (pa_cons (pe_ix ix_tup (pe_use UL hr rfl (passes_call (takes_of rfl rfl rfl rfl) (fun _ _ _ _ z => z)) (pa_cons (pv 0) (pa_cons (pe_fld (pv 0) rfl) pa_nil))) pe_int (fun _ _ => rfl)) pa_nil))))), ?_⟩)
  · obtain ⟨y, O, g, i, j, rfl, _⟩ := h
    rfl
  · obtain ⟨y, O, g, i, j, rfl, hY, hG, q⟩ := h
    obtain ⟨dx, ak, a1, a2, af, hX⟩ := id hY
    have hy := hX.hy
    obtain ⟨vf, hf, pf⟩ := hX.fx
    refine ⟨_, rfl, _, rfl, (by show 2 ≤ sizeLine; decide), fun p0 n0 => ?_⟩
    have t0 := Same.upd (o := .tup [nv i, nv j]) n0
    refine ⟨_, rfl, y, A.CY, dx, _, _, rfl, t0 _ _ hy, T.clY, T.yX, yF_fixed .., _, _, dp_pair (f := (i, j)) (SqT.of upd_same), .lst (SqL.of (t0 _ _ hf)) (prs_dp (PrsAt.but pf fun _ _ z => t0 _ _ z)), dPair_shaped _, dPairs_shaped _, _, rfl, ?_⟩
    rw [any_pair]
    refine if_bool (fun c => ?_) fun c => ?_
    · rw [Bool.not_eq_true'] at c
      rw [free_no c] at q
      exact (q _ ((hY.same t0).more fun _ => .inl) (Keep.same t0)).2.1 rfl
    rw [Bool.not_eq_false'] at c
    obtain ⟨k, hk⟩ := find_there c
    refine ⟨_, rfl, y, A.CY, dx, _, _, rfl, t0 _ _ hy, T.clY, T.yX, yF_fixed .., .inl ⟨rfl, _, SqL.of (t0 _ _ hf)⟩, _, rfl, _, rfl, (by show 2 ≤ sizeLine; decide), fun p1' n1 => ?_⟩
    have t1 := Same.upd (o := .tup [nv i, nv j]) n1
    have t01 := t0.trans t1
    have hp1 : (upd (upd H p0 (.tup [nv i, nv j])) p1' (.tup [nv i, nv j])) p1' = some (.tup [nv i, nv j]) := upd_same
    generalize upd (upd H p0 (.tup [nv i, nv j])) p1' (.tup [nv i, nv j]) = H1 at t01 hp1 ⊢
    refine ⟨af, _, vf, g.fixed, (i, j), k, rfl, rfl, t01 _ _ hf, prs_dp (PrsAt.but pf fun _ _ z => t01 _ _ z), dp_pair (f := (i, j)) (SqT.of hp1), hk, ?_⟩
    have ef : (freed g i j).fixed = g.fixed.eraseIdx k := filter_erase hG.nodup hk
    have pf2 : Paired (PrAt (upd H1 af (.lst (vf.eraseIdx k)))) (vf.eraseIdx k) (freed g i j).fixed := by
      rw [ef]
      exact paired_erase k (PrsAt.but pf fun b xs e => by rw [upd_ne (ne_of (t01 _ _ e) (t01 _ _ hf) (fun z => nomatch z))]; exact t01 _ _ e)
    have kp : ∀ b o, b ≠ af → H b = some o → (upd H1 af (.lst (vf.eraseIdx k))) b = some o := fun b o ne e => by
      rw [upd_ne ne]
      exact t01 _ _ e
    have hX2 : YardX A (fun b => O b ∨ H b = none) (upd H1 af (.lst (vf.eraseIdx k))) y (freed g i j) dx ak a1 a2 af :=
      ⟨.inl hX.oy, .inl hX.ok, .inl hX.o1, .inl hX.o2, .inl hX.of, hX.nk, hX.n12, hX.n1f, hX.n2f, kp _ _ (ne_of hy hf (fun z => nomatch z)) hy, kp _ _ hX.nk.2.2 hX.hk,
        hX.t1.parts (fun b o ob po e => ⟨⟨.inl ob.1, ob.2⟩, kp b o ob.2.2.2 e⟩) fun vs e => kp _ _ hX.n1f e, hX.t2.parts (fun b o ob po e => ⟨⟨.inl ob.1, ob.2⟩, kp b o ob.2.2.2 e⟩) fun vs e => kp _ _ hX.n2f e, _, upd_same, pf2⟩
    have ke : Keep O H (upd H1 af (.lst (vf.eraseIdx k))) := fun b o e no => kp b o (fun z => no (by rw [z]; exact hX.of)) e
    generalize upd H1 af (.lst (vf.eraseIdx k)) = H2 at hX2 ke ⊢
    refine ⟨_, rfl, _, rfl, y, A.CY, dx, _, _, rfl, hX2.hy, T.clY, T.yX, yF_fixed .., y, af, _, freed g i j, (freed g i j).fixed, rfl, hX2.at_, hG.freed, hX2.fx, fun eb H6 s6 => ?_, fun r eb H6 v s6 hw => ?_⟩
    · rw [free_none c eb] at q
      exact (q _ (YardO.same s6 ⟨_, _, _, _, _, hX2⟩) (ke.trans (Keep.same s6))).2.2.2.1 rfl
    · rw [free_some c eb] at q
      obtain ⟨pr, lr, rfl, hpr, hlr⟩ := hw
      refine ⟨pr, _, _, _, rfl, rfl, SqT.of hpr, atI_nat (j := 0) rfl, (by show 1 ≤ sizeLine; decide), fun p7 n7 => ?_⟩
      have s67 := s6.trans (Same.upd (o := .lst [nv r.1]) n7)
      exact (q _ (YardO.same s67 ⟨_, _, _, _, _, hX2⟩) (ke.trans (Keep.same s67))).2.2.2.2.2 p7 (Keep.free (ke.trans (Keep.same s6)) n7) upd_same
end
end Sy

/-! What a laying costs, bead by bead, and whether it keeps the fixed pairs. -/
namespace Sy
open Ut05
section
variable (c : Costs) (fx : List Fixed) (a b : List Sent)
/-- the running numbers of cost_of_beads -/
structure Run where
  much : Nat
  kept : Bool
  i : Nat
  j : Nat
def runStep (s : Run) (k : Nat) : Run := ⟨s.much + beadCost c a b k s.i s.j, s.kept && keeps fx s.i s.j (bd k), s.i + (bd k).1, s.j + (bd k).2⟩
def runAll (ks : List Nat) (s : Run) : Run := ks.foldl (runStep c fx a b) s
theorem runAll_more (ks : List Nat) (k : Nat) (s : Run) : runAll c fx a b (ks ++ [k]) s = runStep c fx a b (runAll c fx a b ks s) k := by
  unfold runAll
  rw [List.foldl_append]
  rfl
theorem sumOf_c (x : Nat) (l : List Nat) : sumOf (x :: l) = x + sumOf l := by
  have h : ∀ (l : List Nat) (z : Nat), l.foldl (fun s n => s + n) z = z + l.foldl (fun s n => s + n) 0 := by
    intro l
    induction l with
    | nil => intro z; rfl
    | cons y l ih =>
      intro z
      rw [List.foldl_cons, List.foldl_cons, ih (z + y), ih (0 + y)]
      omega
  show (x :: l).foldl (fun s n => s + n) 0 = x + l.foldl (fun s n => s + n) 0
  rw [List.foldl_cons, h]
  omega
abbrev sum1 (l : Laying) : Nat := sumOf (l.map fun x => x.1)
abbrev sum2 (l : Laying) : Nat := sumOf (l.map fun x => x.2)
theorem run_i : ∀ (ks : List Nat) (s : Run), (runAll c fx a b ks s).i = s.i + sum1 (ks.map bd) ∧ (runAll c fx a b ks s).j = s.j + sum2 (ks.map bd)
  | [], _ => ⟨rfl, rfl⟩
  | k :: ks, s => by
    have ih := run_i ks (runStep c fx a b s k)
    have e1 : sum1 ((k :: ks).map bd) = (bd k).1 + sum1 (ks.map bd) := sumOf_c _ _
    have e2 : sum2 ((k :: ks).map bd) = (bd k).2 + sum2 (ks.map bd) := sumOf_c _ _
    show (runAll c fx a b ks (runStep c fx a b s k)).i = _ ∧ (runAll c fx a b ks (runStep c fx a b s k)).j = _
    rw [ih.1, ih.2, e1, e2]
    show s.i + (bd k).1 + _ = _ ∧ s.j + (bd k).2 + _ = _
    omega
theorem run_much : ∀ (ks : List Nat) (s : Run), (∀ k ∈ ks, k ∈ ks6) → s.i + sum1 (ks.map bd) ≤ a.length → s.j + sum2 (ks.map bd) ≤ b.length →
    (runAll c fx a b ks s).much = s.much + total c (a.drop s.i) (b.drop s.j) (ks.map bd)
  | [], _, _, _, _ => rfl
  | k :: ks, s, hk, h1, h2 => by
    have e1 : sum1 ((k :: ks).map bd) = (bd k).1 + sum1 (ks.map bd) := sumOf_c _ _
    have e2 : sum2 ((k :: ks).map bd) = (bd k).2 + sum2 (ks.map bd) := sumOf_c _ _
    rw [e1] at h1
    rw [e2] at h2
    have ih := run_much ks (runStep c fx a b s k) (fun k' h => hk k' (List.mem_cons_of_mem _ h)) (by show s.i + (bd k).1 + _ ≤ _; omega) (by show s.j + (bd k).2 + _ ≤ _; omega)
    show (runAll c fx a b ks (runStep c fx a b s k)).much = s.much + (costOf c ((a.drop s.i).take (bd k).1) ((b.drop s.j).take (bd k).2) + total c ((a.drop s.i).drop (bd k).1) ((b.drop s.j).drop (bd k).2) (ks.map bd))
    rw [ih, beadCost_eq c a b (hk k (List.mem_cons_self ..)) (by omega) (by omega), List.drop_drop, List.drop_drop]
    show s.much + beadCost c a b k s.i s.j + total c (a.drop (s.i + (bd k).1)) (b.drop (s.j + (bd k).2)) _ = _
    omega
def keepF (f : Fixed) (i j k : Nat) : Bool := (decide (i ≤ f.1) && decide (f.1 < i + (bd k).1)) == (decide (j ≤ f.2) && decide (f.2 < j + (bd k).2))
def allF (f : Fixed) : Nat → Nat → List Nat → Bool
  | _, _, [] => true
  | i, j, k :: ks => keepF f i j k && allF f (i + (bd k).1) (j + (bd k).2) ks
theorem run_kept : ∀ (ks : List Nat) (s : Run), (runAll c fx a b ks s).kept = (s.kept && fx.all fun f => allF f s.i s.j ks)
  | [], s => by
    show s.kept = (s.kept && fx.all fun _ => true)
    have : (fx.all fun _ => true) = true := by simp
    rw [this, Bool.and_true]
  | k :: ks, s => by
    show (runAll c fx a b ks (runStep c fx a b s k)).kept = (s.kept && fx.all fun f => keepF f s.i s.j k && allF f (s.i + (bd k).1) (s.j + (bd k).2) ks)
    rw [run_kept ks]
    show ((s.kept && keeps fx s.i s.j (bd k)) && _) = _
    have e : (fx.all fun f => keepF f s.i s.j k && allF f (s.i + (bd k).1) (s.j + (bd k).2) ks) = ((fx.all fun f => keepF f s.i s.j k) && fx.all fun f => allF f (s.i + (bd k).1) (s.j + (bd k).2) ks) := by
      induction fx with
      | nil => rfl
      | cons f fs ih =>
        rw [List.all_cons, List.all_cons, List.all_cons, ih]
        cases keepF f s.i s.j k <;> cases allF f (s.i + (bd k).1) (s.j + (bd k).2) ks <;> simp
    rw [e, Bool.and_assoc]
    rfl
end
/-- behind a pair nothing parts it -/
theorem allF_behind (f : Fixed) : ∀ (ks : List Nat) (i j : Nat), f.1 < i → f.2 < j → allF f i j ks = true
  | [], _, _, _, _ => rfl
  | k :: ks, i, j, h1, h2 => by
    have ih := allF_behind f ks (i + (bd k).1) (j + (bd k).2) (by omega) (by omega)
    have e : keepF f i j k = true := by
      unfold keepF
      rw [decide_eq_false (by omega), decide_eq_false (p := j ≤ f.2) (by omega)]
      rfl
    show (keepF f i j k && allF f (i + (bd k).1) (j + (bd k).2) ks) = true
    rw [e, ih]
    rfl
/-- if one side of the pair is behind and the other ahead, some bead parts it -/
theorem allF_parted (f : Fixed) (m n : Nat) (h1 : f.1 < m) (h2 : f.2 < n) : ∀ (ks : List Nat) (i j : Nat), i + sum1 (ks.map bd) = m → j + sum2 (ks.map bd) = n → (f.1 < i ∧ j ≤ f.2) ∨ (i ≤ f.1 ∧ f.2 < j) → allF f i j ks = false
  | [], i, j, e1, e2, h => by
    have : i = m := e1
    have : j = n := e2
    omega
  | k :: ks, i, j, e1, e2, h => by
    have q1 : sum1 ((k :: ks).map bd) = (bd k).1 + sum1 (ks.map bd) := sumOf_c _ _
    have q2 : sum2 ((k :: ks).map bd) = (bd k).2 + sum2 (ks.map bd) := sumOf_c _ _
    show (keepF f i j k && allF f (i + (bd k).1) (j + (bd k).2) ks) = false
    rcases h with ⟨p1, p2⟩ | ⟨p1, p2⟩
    · by_cases c : f.2 < j + (bd k).2
      · have : keepF f i j k = false := by
          unfold keepF
          rw [decide_eq_false (p := i ≤ f.1) (by omega), decide_eq_true p2, decide_eq_true c]
          rfl
        rw [this, Bool.false_and]
      · rw [allF_parted f m n h1 h2 ks _ _ (by omega) (by omega) (.inl ⟨by omega, by omega⟩), Bool.and_false]
    · by_cases c : f.1 < i + (bd k).1
      · have : keepF f i j k = false := by
          unfold keepF
          rw [decide_eq_false (p := j ≤ f.2) (by omega), decide_eq_true p1, decide_eq_true c]
          rfl
        rw [this, Bool.false_and]
      · rw [allF_parted f m n h1 h2 ks _ _ (by omega) (by omega) (.inr ⟨by omega, by omega⟩), Bool.and_false]
theorem holds_all (f : Fixed) (m n : Nat) (h1 : f.1 < m) (h2 : f.2 < n) : ∀ (ks : List Nat) (i j : Nat), i + sum1 (ks.map bd) = m → j + sum2 (ks.map bd) = n → i ≤ f.1 → j ≤ f.2 → holds i j (ks.map bd) f = allF f i j ks
  | [], i, j, e1, _, p1, _ => by
    have : i = m := e1
    omega
  | k :: ks, i, j, e1, e2, p1, p2 => by
    have q1 : sum1 ((k :: ks).map bd) = (bd k).1 + sum1 (ks.map bd) := sumOf_c _ _
    have q2 : sum2 ((k :: ks).map bd) = (bd k).2 + sum2 (ks.map bd) := sumOf_c _ _
    show (if i + (bd k).1 ≤ f.1 then (if j + (bd k).2 ≤ f.2 then holds (i + (bd k).1) (j + (bd k).2) (ks.map bd) f else false) else decide (j ≤ f.2) && decide (f.2 < j + (bd k).2)) = (keepF f i j k && allF f (i + (bd k).1) (j + (bd k).2) ks)
    unfold keepF
    rw [decide_eq_true p1, decide_eq_true p2, Bool.true_and, Bool.true_and]
    by_cases c1 : i + (bd k).1 ≤ f.1
    · rw [if_pos c1, decide_eq_false (p := f.1 < i + (bd k).1) (by omega)]
      by_cases c2 : j + (bd k).2 ≤ f.2
      · rw [if_pos c2, decide_eq_false (p := f.2 < j + (bd k).2) (by omega), holds_all f m n h1 h2 ks _ _ (by omega) (by omega) c1 c2]
        rfl
      · rw [if_neg c2, decide_eq_true (p := f.2 < j + (bd k).2) (by omega)]
        rfl
    · rw [if_neg c1, decide_eq_true (p := f.1 < i + (bd k).1) (by omega)]
      by_cases c2 : f.2 < j + (bd k).2
      · rw [decide_eq_true c2, allF_behind f ks _ _ (by omega) c2]
        rfl
      · rw [decide_eq_false c2]
        rfl
/-- what the spec asks of a laying, by the running numbers -/
theorem cost_step {g : House} {l : Laying} {ks : List Nat} (hl : l = ks.map bd) (hk : ∀ k ∈ ks, k ∈ ks6) (h30 : l.length ≤ 30) (hf : ∀ f ∈ g.fixed, f.1 < g.one.length ∧ f.2 < g.two.length) :
    (Ut05.step g (.cost l)).2 = if (runAll g.costs g.fixed g.one g.two ks ⟨0, true, 0, 0⟩).i ≠ g.one.length ∨ (runAll g.costs g.fixed g.one g.two ks ⟨0, true, 0, 0⟩).j ≠ g.two.length then [-1] else
      if (runAll g.costs g.fixed g.one g.two ks ⟨0, true, 0, 0⟩).kept = false then [-4] else [((runAll g.costs g.fixed g.one g.two ks ⟨0, true, 0, 0⟩).much : Int)] := by
  subst hl
  have hi1 : (runAll g.costs g.fixed g.one g.two ks ⟨0, true, 0, 0⟩).i = sum1 (ks.map bd) := (run_i g.costs g.fixed g.one g.two ks ⟨0, true, 0, 0⟩).1.trans (Nat.zero_add _)
  have hi2 : (runAll g.costs g.fixed g.one g.two ks ⟨0, true, 0, 0⟩).j = sum2 (ks.map bd) := (run_i g.costs g.fixed g.one g.two ks ⟨0, true, 0, 0⟩).2.trans (Nat.zero_add _)
  rw [hi1, hi2]
  show (if 30 < (ks.map bd).length ∨ covers g.one.length g.two.length (ks.map bd) = false then [-1] else if (g.fixed.all fun f => holds 0 0 (ks.map bd) f) = false then [-4] else Ut05.ints [total g.costs g.one g.two (ks.map bd)]) = _
  have hc : (ks.map bd).all (fun x => kinds.contains x) = true := by
    rw [List.all_eq_true]
    intro x hx
    obtain ⟨k, h1, rfl⟩ := List.mem_map.mp hx
    simpa using bd_mem (hk k h1)
  have ecov : covers g.one.length g.two.length (ks.map bd) = ((sum1 (ks.map bd) == g.one.length) && (sum2 (ks.map bd) == g.two.length)) := by
    unfold covers
    rw [hc, Bool.and_true]
  by_cases q : sum1 (ks.map bd) = g.one.length ∧ sum2 (ks.map bd) = g.two.length
  · have hcov : covers g.one.length g.two.length (ks.map bd) = true := by
      rw [ecov, beq_iff_eq.mpr q.1, beq_iff_eq.mpr q.2]
      rfl
    rw [if_neg (by
      rw [hcov]
      rintro (z | z)
      · omega
      · cases z)]
    have hr : ¬ (sum1 (ks.map bd) ≠ g.one.length ∨ sum2 (ks.map bd) ≠ g.two.length) := by omega
    have hm : (runAll g.costs g.fixed g.one g.two ks ⟨0, true, 0, 0⟩).much = total g.costs g.one g.two (ks.map bd) :=
      (run_much g.costs g.fixed g.one g.two ks ⟨0, true, 0, 0⟩ hk (by show 0 + _ ≤ _; omega) (by show 0 + _ ≤ _; omega)).trans (Nat.zero_add _)
    have hkp : (runAll g.costs g.fixed g.one g.two ks ⟨0, true, 0, 0⟩).kept = g.fixed.all fun f => allF f 0 0 ks := (run_kept g.costs g.fixed g.one g.two ks ⟨0, true, 0, 0⟩).trans (Bool.true_and _)
    have eh : (g.fixed.all fun f => holds 0 0 (ks.map bd) f) = g.fixed.all fun f => allF f 0 0 ks := by
      have : ∀ l : List Fixed, (∀ f ∈ l, f ∈ g.fixed) → (l.all fun f => holds 0 0 (ks.map bd) f) = l.all fun f => allF f 0 0 ks := by
        intro l
        induction l with
        | nil => intro _; rfl
        | cons f l ih =>
          intro hl
          have r := hf f (hl f (List.mem_cons_self ..))
          rw [List.all_cons, List.all_cons, ih fun f' h' => hl f' (List.mem_cons_of_mem _ h'), holds_all f g.one.length g.two.length r.1 r.2 ks 0 0 (by omega) (by omega) (Nat.zero_le _) (Nat.zero_le _)]
      exact this g.fixed fun f h => h
    rw [hm, hkp, eh, if_neg hr]
    rfl
  · have hcov : covers g.one.length g.two.length (ks.map bd) = false := by
      rw [ecov, Bool.and_eq_false_iff]
      by_cases q1 : sum1 (ks.map bd) = g.one.length
      · exact .inr (beq_eq_false_iff_ne.mpr fun z => q ⟨q1, z⟩)
      · exact .inl (beq_eq_false_iff_ne.mpr q1)
    rw [if_pos (.inr hcov), if_pos (by omega)]
/-- a bead of no kind -/
theorem cost_bad {g : House} {l : Laying} {x : Bead} (hx : x ∈ l) (h : ∀ k ∈ ks6, bd k ≠ x) : (Ut05.step g (.cost l)).2 = [-1] := by
  refine if_pos (.inr ?_)
  unfold covers
  have : (l.all fun x => kinds.contains x) = false := by
    rw [List.all_eq_false]
    refine ⟨x, hx, fun q => ?_⟩
    have hm : x ∈ kinds := by simpa using q
    rw [kinds_bd] at hm
    obtain ⟨k, h1, h2⟩ := List.mem_map.mp hm
    exact h k h1 h2
  rw [this, Bool.and_false, Bool.and_false]
theorem cost_long {g : House} {l : Laying} (h : 30 < l.length) : (Ut05.step g (.cost l)).2 = [-1] := if_pos (.inl h)
theorem cost_state {g : House} {l : Laying} : (Ut05.step g (.cost l)).1 = g := rfl
end Sy

namespace Sy
open PySem PySem.Spec PyProof.Rows L2
/-! cost_of_beads -/
abbrev stCB : Stmt := top 36
def rowB (l : List (Nat × Nat)) : List Nat := l.flatMap fun x => [x.1, x.2]
def spCB (A : Ads) : Sp := fun vs H Q E => ∃ (y ra : Addr) (own : List Addr) (g : Ut05.House) (l : List (Nat × Nat)), vs = [.ref y, .ref ra] ∧ YardAt A H y own g ∧ Good g ∧ H ra = some (.lst ((rowB l).map nv)) ∧ l.length ≤ 100 ∧
  ∀ H', Same H H' → ((Ut05.step g (.cost l)).2 = [-1] → E (.ref A.CU) none H') ∧ ((Ut05.step g (.cost l)).2 = [-4] → E (.ref A.CA) none H') ∧ ∀ p, H p = none → H' p = some (.lst ((Ut05.step g (.cost l)).2.map V.int)) → Q (.ref p) H'
theorem rowB_len : ∀ l : List (Nat × Nat), (rowB l).length = 2 * l.length
  | [] => rfl
  | x :: l => by
    have ih := rowB_len l
    unfold rowB at ih ⊢
    rw [List.flatMap_cons, List.length_append, ih, List.length_cons]
    simp
    omega
theorem rowB_at : ∀ {l : List (Nat × Nat)} {n : Nat} {x : Nat × Nat}, l[n]? = some x → (rowB l)[2 * n]? = some x.1 ∧ (rowB l)[2 * n + 1]? = some x.2
  | [], n, x, h => by simp at h
  | y :: l, 0, x, h => by
    cases Option.some.inj h
    exact ⟨rfl, rfl⟩
  | y :: l, n + 1, x, h => by
    have ih := rowB_at (l := l) (n := n) (x := x) h
    have e1 : 2 * (n + 1) = 2 * n + 2 := by omega
    rw [e1]
    exact ih
theorem fits (x : Int) (h0 : 0 ≤ x) (h1 : x ≤ 10000) : (decide (-2 ^ 63 ≤ x) && decide (x < 2 ^ 63)) = true := by
  rw [decide_eq_true (by omega), decide_eq_true (by omega)]
  rfl
theorem range_two (n : Nat) (hn : n ≤ 1000) : RgC 0 ((2 * n : Nat) : Int) 2 n := by
  have e : Builtin.Range.rangeSize 0 ((2 * n : Nat) : Int) 2 = n := by
    unfold Builtin.Range.rangeSize
    rw [if_pos (by decide)]
    by_cases h : (0 : Int) < ((2 * n : Nat) : Int)
    · rw [if_pos h]
      omega
    · rw [if_neg h]
      omega
  refine ⟨by decide, by decide, ?_, e⟩
  unfold Builtin.Range.small
  rw [e]
  unfold Builtin.Range.rangeFitsLong
  rw [fits 0 (by omega) (by omega), fits ((2 * n : Nat) : Int) (by omega) (by omega), fits 2 (by omega) (by omega), fits (n : Int) (by omega) (by omega), if_pos (by decide), fits (((2 * n : Nat) : Int) + (2 - 1)) (by omega) (by omega), Bool.or_true]
  rfl
theorem kindOf_is {m o k : Nat} (h : kindOf m o = some k) : k ∈ ks6 ∧ bd k = (m, o) := by
  unfold kindOf at h
  exact ⟨List.mem_of_find?_eq_some h, by simpa using List.find?_some h⟩
theorem kindOf_not {m o : Nat} (h : kindOf m o = none) : ∀ k ∈ ks6, bd k ≠ (m, o) := by
  unfold kindOf at h
  rw [List.find?_eq_none] at h
  intro k hk e
  exact h k hk (by simpa using e)
section
variable {P : Program} {w : World} {K : PySem.W.Frag} {mg : Str → Option Value} {base : Heap} {A : Ads}
theorem scCB : FnScope ["yard", "row", "much", "kept", "i", "j", "at", "kind"] ["yard", "row"] (defScope stCB) := ⟨rfl, rfl, rfl, by decide +kernel, rfl, by decide +kernel, by decide +kernel⟩
theorem ok_cb {f : Addr} {fd : FuncData} (F : Fun K "cost_of_beads" "cost_of_beads" stCB f fd) (T : Txt K mg A) (N : Nums mg) (UO : Use P w K mg base CX0 1 "kind_of" ["many", "others"] spKind) (UC : UseM P w K mg base CX0 2 A.CY "bead_cost" ["self", "kind", "i", "j"] (spCost A)) (UK : Use P w K mg base CX0 1 "bead_keeps" ["fixed", "kind", "i", "j"] spKeeps) :
    FnOk P w K mg base (L2.CX P w) 3 f fd ["yard", "row"] (spCB A) := by
  refine F.okX scCB (fun vs H Q E h => ?_) (fun cdv Ar outer s H vs Q E hr h => ⟨_, pss_cons (ps_if (pt_cmpR op_gt (pe_callB call_len_seq (by rfl) T.len PySem.boot_len (pa_cons (pv 1) pa_nil)) (pe_op op_mul pe_int (by exact pe_gint rfl N.bea)) (nomark _))
      (pss_one (ps_raise rfl (takes_of rfl rfl rfl rfl) (pmk_own0 PySem.F.excBase_Exception T.eU.x T.eU.g T.eU.k (raises_own T.eU.b T.eU.t) (by exact rfl)))) pss_nil)
    (pss_cons (ps_set (i := 2) scCB.nd rfl (.inl rfl) pe_int) (pss_cons (ps_set (i := 3) scCB.nd rfl (.inl rfl) pe_bl) (pss_cons (ps_set (i := 4) scCB.nd rfl (.inl rfl) pe_int) (pss_cons (ps_set (i := 5) scCB.nd rfl (.inl rfl) pe_int)
    (pss_cons (ps_for (passes_of rfl) rfl (pi_range3 rfl T.range (pa_cons pe_int (pa_cons (pe_callB call_len_seq (by rfl) T.len PySem.boot_len (pa_cons (pv 1) pa_nil)) (pa_cons pe_int pa_nil)))) (pg_name (i := 6) scCB.nd rfl (.inl rfl))
      (pss_cons (ps_set (i := 7) scCB.nd rfl (.inl rfl) (pe_use UO (hr.mono (by decide)) rfl pass0 (pa_cons (pe_ix ix_list (pv 1) (pv 6) (fun _ _ => rfl)) (pa_cons (pe_ix ix_list (pv 1) (pe_op op_add (pv 6) pe_int) (fun _ _ => rfl)) pa_nil))))
      (pss_cons (ps_if (pt_cmp (pc_isN (pv 7))) (pss_one (ps_raise rfl (takes_of rfl rfl rfl rfl) (pmk_own0 PySem.F.excBase_Exception T.eU.x T.eU.g T.eU.k (raises_own T.eU.b T.eU.t) (by exact rfl)))) pss_nil)
      (pss_cons (ps_set (i := 2) scCB.nd rfl (.inl rfl) (pe_op op_add (pv 2) (pe_useM (pv 0) T.clY UC hr pass0 (pa_cons (pv 7) (pa_cons (pv 4) (pa_cons (pv 5) pa_nil))))))
      (pss_cons (ps_set (i := 3) scCB.nd rfl (.inl rfl) (pe_and (pv 3) (pe_one (pe_use UK (hr.mono (by decide)) rfl pass0 (pa_cons (pe_fld (pv 0) rfl) (pa_cons (pv 7) (pa_cons (pv 4) (pa_cons (pv 5) pa_nil))))))))
      (pss_cons (ps_set (i := 4) scCB.nd rfl (.inl rfl) (pe_op op_add (pv 4) (pe_ix ix_list (pv 1) (pv 6) (fun _ _ => rfl))))
      (pss_one (ps_set (i := 5) scCB.nd rfl (.inl rfl) (pe_op op_add (pv 5) (pe_ix ix_list (pv 1) (pe_op op_add (pv 6) pe_int) (fun _ _ => rfl)))))))))))
    (pss_cons (ps_if (pw_or (pt_cmpR op_ne (pv 4) (pe_callB call_len_seq (by rfl) T.len PySem.boot_len (pa_cons (by exact pe_fld (pv 0) rfl) pa_nil)) (nomark _)) (pw_or1 (pt_cmpR op_ne (pv 5) (pe_callB call_len_seq (by rfl) T.len PySem.boot_len (pa_cons (by exact pe_fld (pv 0) rfl) pa_nil)) (nomark _)))).pt
      (pss_one (ps_raise rfl (takes_of rfl rfl rfl rfl) (pmk_own0 PySem.F.excBase_Exception T.eU.x T.eU.g T.eU.k (raises_own T.eU.b T.eU.t) (by exact rfl)))) pss_nil)
    (pss_cons (ps_if (pt_not (pt_truth (pv 3) (fun _ => rfl))) (pss_one (ps_raise rfl (takes_of rfl rfl rfl rfl) (pmk_own0 PySem.F.excBase_Exception T.eA.x T.eA.g T.eA.k (raises_own T.eA.b T.eA.t) (by exact rfl)))) pss_nil)
    (pss_one (ps_ret (pe_lst (pa_cons (pv 2) pa_nil))))))))))), ?_⟩)
  · obtain ⟨y, ra, own, g, l, rfl, _⟩ := h
    rfl
  · obtain ⟨y, ra, own, g, l, rfl, hY, hG, hra, hl, q⟩ := h
    obtain ⟨dx, ak, a1, a2, af, _, hy, hak, ⟨v1, h1, p1⟩, ⟨v2, h2, p2⟩, hF⟩ := id hY.ex
    have l1 := paired_len p1
    have l2 := paired_len p2
    have rl := rowB_len l
    refine ⟨_, rfl, ra, _, rfl, .inl (SqL.of hra), _, _, rfl, rfl, .inl ⟨by decide, by decide⟩, _, _, rfl, rfl, _, rfl, if_dec (fun c => ?_) fun c => ?_⟩
    · rw [List.length_map, rl] at c
      exact (q H (Same.refl H)).1 (cost_long (by omega))
    rw [List.length_map, rl] at c
    have few : l.length ≤ 30 := by omega
    have rg : RgC 0 ((((rowB l).map nv).length : Nat) : Int) 2 l.length := by
      rw [List.length_map, rl]
      exact range_two _ (by omega)
    refine ⟨_, rfl, ra, _, rfl, .inl (SqL.of hra), _, _, _, _, rfl, rg, for_rangeC (fun n σ H' => Same H H' ∧ ∃ (ks : List Nat) (o6 o7 : Option V), l.take n = ks.map bd ∧ (∀ k ∈ ks, k ∈ ks6) ∧
      σ = [some (.ref y), some (.ref ra), some (nv (runAll g.costs g.fixed g.one g.two ks ⟨0, true, 0, 0⟩).much), some (.bl (runAll g.costs g.fixed g.one g.two ks ⟨0, true, 0, 0⟩).kept), some (nv (runAll g.costs g.fixed g.one g.two ks ⟨0, true, 0, 0⟩).i), some (nv (runAll g.costs g.fixed g.one g.two ks ⟨0, true, 0, 0⟩).j), o6, o7])
      ⟨Same.refl H, [], none, none, rfl, (fun k hk => by cases hk), rfl⟩ ?_ ?_⟩
    · rintro n σ H' hn ⟨sm, ks, o6, o7, hks, hk6, rfl⟩
      obtain ⟨x, hx⟩ : ∃ x, l[n]? = some x := ⟨_, List.getElem?_eq_getElem hn⟩
      obtain ⟨x1, x2⟩ := rowB_at hx
      have at1 : ((rowB l).map nv)[2 * n]? = some (nv x.1) := by rw [List.getElem?_map, x1]; rfl
      have at2 : ((rowB l).map nv)[2 * n + 1]? = some (nv x.2) := by rw [List.getElem?_map, x2]; rfl
      have e0 : (0 : Int) + (n : Int) * 2 = ((2 * n : Nat) : Int) := by omega
      rw [e0]
      have more := fun k => runAll_more g.costs g.fixed g.one g.two ks k ⟨0, true, 0, 0⟩
      generalize runAll g.costs g.fixed g.one g.two ks ⟨0, true, 0, 0⟩ = r at more ⊢
      have hra' := sm _ _ hra
      refine ⟨_, rfl, _, rfl, ra, _, _, _, rfl, rfl, SqL.of hra', atI_nat at1, _, rfl, _, rfl, _, _, rfl, rfl, ra, _, _, _, rfl, rfl, SqL.of hra', atI_nat (j := 2 * n + 1) at2, x.1, x.2, rfl, fun H1 s1 => ?_⟩
      have sm1 := sm.trans s1
      rcases hk : kindOf x.1 x.2 with _ | k
      · refine ⟨_, rfl, _, rfl, if_dec (fun _ => ?_) fun c => absurd rfl c⟩
        exact (q H1 sm1).1 (cost_bad (List.mem_of_getElem? hx) (kindOf_not hk))
      · have kk := kindOf_is hk
        have hY1 := hY.same sm1
        obtain ⟨dx', ak', a1', a2', af', _, hy', _, _, _, hF'⟩ := id hY1.ex
        refine ⟨_, rfl, _, rfl, if_dec (fun c => nomatch c) fun _ => ?_⟩
        refine ⟨_, rfl, _, rfl, y, dx', _, rfl, hy', yF_no _ _ _ _ _ (by decide +kernel), _, rfl, _, rfl, _, rfl, y, own, g, k, r.i, r.j, rfl, hY1, hG, kk.1, fun H2 s2 => ?_⟩
        have hY2 := hY1.same s2
        obtain ⟨dy, ak2, a12, a22, af2, _, hy2, _, _, _, hF2⟩ := id hY2.ex
        have hra2 := s2 _ _ (s1 _ _ hra')
        have fin : ∀ z : Bool, z = (r.kept && Ut05.keeps g.fixed r.i r.j (bd k)) → Same H H2 ∧ ∃ (ks' : List Nat) (o6 o7 : Option V), l.take (n + 1) = ks'.map bd ∧ (∀ k ∈ ks', k ∈ ks6) ∧
            [some (.ref y), some (.ref ra), some (nv (r.much + beadCost g.costs g.one g.two k r.i r.j)), some (.bl z), some (nv (r.i + x.1)), some (nv (r.j + x.2)), some (nv (2 * n)), some (nv k)] = [some (.ref y), some (.ref ra), some (nv (runAll g.costs g.fixed g.one g.two ks' ⟨0, true, 0, 0⟩).much), some (.bl (runAll g.costs g.fixed g.one g.two ks' ⟨0, true, 0, 0⟩).kept), some (nv (runAll g.costs g.fixed g.one g.two ks' ⟨0, true, 0, 0⟩).i), some (nv (runAll g.costs g.fixed g.one g.two ks' ⟨0, true, 0, 0⟩).j), o6, o7] := by
          intro z hz
          refine ⟨sm1.trans s2, ks ++ [k], some (nv (2 * n)), some (nv k), ?_, ?_, ?_⟩
          · rw [take_more hx, hks, List.map_append, List.map_cons, kk.2]
            rfl
          · intro k' hk'
            rcases List.mem_append.mp hk' with h | h
            · exact hk6 k' h
            · rw [List.mem_singleton.mp h]
              exact kk.1
          · rw [more k, hz]
            unfold runStep
            rw [kk.2]
        refine ⟨_, _, rfl, rfl, _, rfl, _, rfl, if_bool (fun kt => ?_) fun kf => ?_⟩
        · exact ⟨_, rfl, y, A.CY, dy, _, _, rfl, hy2, T.clY, T.yX, yF_fixed .., _, rfl, _, rfl, _, rfl, af2, g.fixed, k, r.i, r.j, rfl, hF2, kk.1,
            _, rfl, _, rfl, _, rfl, ra, _, _, _, rfl, rfl, SqL.of hra2, atI_nat at1, _, _, rfl, rfl,
            _, rfl, _, rfl, _, rfl, _, _, rfl, rfl, ra, _, _, _, rfl, rfl, SqL.of hra2, atI_nat (j := 2 * n + 1) at2, _, _, rfl, rfl, fin _ (by rw [kt, Bool.true_and])⟩
        · exact ⟨_, rfl, _, rfl, _, rfl, ra, _, _, _, rfl, rfl, SqL.of hra2, atI_nat at1, _, _, rfl, rfl,
            _, rfl, _, rfl, _, rfl, _, _, rfl, rfl, ra, _, _, _, rfl, rfl, SqL.of hra2, atI_nat (j := 2 * n + 1) at2, _, _, rfl, rfl, fin _ (by rw [kf, Bool.false_and])⟩
    · rintro σ H' ⟨sm, ks, o6, o7, hks, hk6, rfl⟩
      rw [List.take_length] at hks
      have cs := cost_step hks hk6 few hG.fixed
      generalize runAll g.costs g.fixed g.one g.two ks ⟨0, true, 0, 0⟩ = r at cs ⊢
      rw [cs] at q
      have hy' := sm _ _ hy
      refine ⟨_, rfl, _, rfl, y, A.CY, dx, _, _, rfl, hy', T.clY, T.y1, yF_first .., a1, _, rfl, .inl (SqL.of (sm _ _ h1)), rfl, _, rfl, if_bool (fun c1 => iteT ?_) fun c1 =>
        ⟨_, rfl, _, rfl, y, A.CY, dx, _, _, rfl, hy', T.clY, T.y2, yF_second .., a2, _, rfl, .inl (SqL.of (sm _ _ h2)), rfl, _, rfl, if_bool (fun c2 => ?_) fun c2 => ?_⟩⟩
      · refine (q H' sm).1 (if_pos (.inl fun z => ?_))
        rw [z, l1] at c1
        simp at c1
      · refine (q H' sm).1 (if_pos (.inr fun z => ?_))
        rw [z, l2] at c2
        simp at c2
      · have e1 : r.i = g.one.length := by
          have := of_decide_eq_true (by simpa using c1 : decide (nv r.i = V.int v1.length) = true)
          injection this with this
          omega
        have e2 : r.j = g.two.length := by
          have := of_decide_eq_true (by simpa using c2 : decide (nv r.j = V.int v2.length) = true)
          injection this with this
          omega
        rw [if_neg (by omega)] at q
        refine ⟨_, rfl, _, rfl, ?_⟩
        refine if_bool (fun c3 => ?_) fun c3 => ?_
        · refine (q H' sm).2.1 (if_pos (by simpa using c3))
        · have c4 : r.kept = true := by simpa using c3
          rw [if_neg (by rw [c4]; decide)] at q
          refine ⟨_, rfl, by show 1 ≤ sizeLine; decide, fun p np => (q _ (sm.trans (Same.upd np))).2.2 p (sm.free np) ?_⟩
          rw [upd_same]
          rfl
end
end Sy

/-! The calls of a request, one by one, in whole numbers. -/
namespace Sy
open Ut05
/-- a call's number, its plain numbers, its row -/
def numC : Call → Nat
  | .costs _ => 0
  | .texts _ _ => 1
  | .fix _ _ => 2
  | .free _ _ => 3
  | .lay => 4
  | .cost _ => 5
  | .pair _ _ => 6
  | .bead _ _ => 7
  | .put _ _ _ => 8
  | .take _ _ => 9
  | .shows => 10
def bitN (t : Bool) : Nat := if t = true then 1 else 0
def plainC : Call → List Nat
  | .costs c => c.kind ++ [c.share, c.weight, c.anchor]
  | .texts a b => [a.length, b.length]
  | .fix i j => [i, j]
  | .free i j => [i, j]
  | .lay => []
  | .cost _ => []
  | .pair i j => [i, j]
  | .bead t i => [t, i]
  | .put t p s => [bitN t, p, s.long]
  | .take t p => [bitN t, p]
  | .shows => []
def rowC : Call → Option (List Nat)
  | .texts a b => some (rowOf (a ++ b))
  | .cost l => some (rowB l)
  | .put _ _ s => some s.anchors
  | _ => none
def rowF : Option (List Nat) → List Nat
  | none => []
  | some r => r.length :: r
def flatC (c : Call) : List Nat := numC c :: (plainC c ++ rowF (rowC c))
def plains : List Nat := [9, 2, 2, 2, 0, 0, 2, 2, 3, 2, 0]
def hasRow : List Bool := [false, true, false, false, false, true, false, false, true, false, false]
/-- what of a call the document bounds -/
def OkC (c : Call) : Prop := (∀ k, c = .costs k → k.kind.length = 6) ∧ ∀ r, rowC c = some r → r.length ≤ 200
theorem numC_lt (c : Call) : numC c < 11 := by cases c <;> simp [numC]
theorem plainC_len {c : Call} (h : OkC c) : plains[numC c]? = some (plainC c).length := by
  cases c with
  | costs k => simp [numC, plainC, plains, h.1 k rfl]
  | _ => rfl
theorem hasRow_is (c : Call) : hasRow[numC c]? = some (rowC c).isSome := by cases c <;> rfl
def casts (l : List Nat) : List Int := l.map fun (n : Nat) => (n : Int)
theorem nats_of : ∀ {l : List Int}, l.all Ut05Neutral.nat = true → ∃ ns, l = casts ns ∧ l.map Int.toNat = ns
  | [], _ => ⟨[], rfl, rfl⟩
  | z :: l, h => by
    rw [List.all_cons, Bool.and_eq_true] at h
    obtain ⟨ns, h1, h2⟩ := nats_of h.2
    have hz : 0 ≤ z := by
      have := h.1
      unfold Ut05Neutral.nat at this
      rw [Bool.and_eq_true] at this
      exact of_decide_eq_true this.1
    refine ⟨z.toNat :: ns, ?_, ?_⟩
    · show z :: l = (z.toNat : Int) :: casts ns
      rw [← h1, Int.toNat_of_nonneg hz]
    · rw [List.map_cons, h2]
theorem callOf_some {l : List Int} {x : Call} (h : Ut05Neutral.callOf l = some x) : ∃ ns, l = casts ns ∧ Ut05Neutral.callIn ns = some x := by
  unfold Ut05Neutral.callOf at h
  by_cases c : l.all Ut05Neutral.nat = true
  · rw [if_neg (by rw [c]; decide)] at h
    obtain ⟨ns, h1, h2⟩ := nats_of c
    rw [h2] at h
    exact ⟨ns, h1, h⟩
  · rw [if_pos (by simpa using c)] at h
    cases h
theorem sentIn_some : ∀ {l : List Nat} {x : Sent × List Nat}, Ut05Neutral.sentIn l = some x → l = rowOf [x.1] ++ x.2
  | [], _, h => by cases h
  | [_], _, h => by cases h
  | n :: k :: l, x, h => by
    have h' : (if l.length < k then none else some ((⟨n, l.take k⟩, l.drop k) : Sent × List Nat)) = some x := h
    by_cases c : l.length < k
    · rw [if_pos c] at h'
      cases h'
    · rw [if_neg c] at h'
      cases Option.some.inj h'
      have e : (l.take k).length = k := by
        rw [List.length_take]
        omega
      show n :: k :: l = (n :: (l.take k).length :: l.take k) ++ [] ++ l.drop k
      rw [e, List.append_nil]
      show n :: k :: l = n :: k :: (l.take k ++ l.drop k)
      rw [List.take_append_drop]
theorem sentsIn_some : ∀ {k : Nat} {l : List Nat} {x : List Sent × List Nat}, Ut05Neutral.sentsIn k l = some x → x.1.length = k ∧ l = rowOf x.1 ++ x.2
  | 0, l, x, h => by
    cases Option.some.inj (show some (([], l) : List Sent × List Nat) = some x from h)
    exact ⟨rfl, rfl⟩
  | k + 1, l, x, h => by
    have h' : ((Ut05Neutral.sentIn l).bind fun x => (Ut05Neutral.sentsIn k x.2).map fun y => ((x.1 :: y.1, y.2) : List Sent × List Nat)) = some x := h
    obtain ⟨s, h1, h2⟩ := Option.bind_eq_some_iff.mp h'
    obtain ⟨y, h3, h4⟩ := Option.map_eq_some_iff.mp h2
    have e1 := sentIn_some h1
    obtain ⟨e2, e3⟩ := sentsIn_some h3
    subst h4
    refine ⟨by show y.1.length + 1 = k + 1; rw [e2], ?_⟩
    rw [e1, e3]
    show rowOf [s.1] ++ (rowOf y.1 ++ y.2) = rowOf (s.1 :: y.1) ++ y.2
    unfold rowOf
    rw [List.flatMap_cons, List.flatMap_cons, List.flatMap_nil, List.append_nil, List.append_assoc]
theorem pairsIn_some : ∀ {l : List Nat} {x : List (Nat × Nat)}, Ut05Neutral.pairsIn l = some x → l = rowB x
  | [], x, h => by
    cases Option.some.inj (show some ([] : List (Nat × Nat)) = some x from h)
    rfl
  | [_], _, h => by cases h
  | a :: b :: l, x, h => by
    obtain ⟨r, h1, h2⟩ := Option.map_eq_some_iff.mp (show (Ut05Neutral.pairsIn l).map (fun r => (a, b) :: r) = some x from h)
    subst h2
    have e := pairsIn_some h1
    show a :: b :: l = a :: b :: rowB r
    rw [← e]
theorem bit_some {n : Nat} {t : Bool} (h : Ut05Neutral.bit n = some t) : n = bitN t := by
  unfold Ut05Neutral.bit at h
  by_cases c : n = 0
  · rw [if_pos c] at h
    cases h
    exact c
  · rw [if_neg c] at h
    by_cases c1 : n = 1
    · rw [if_pos c1] at h
      cases h
      exact c1
    · rw [if_neg c1] at h
      cases h
theorem casts_cons {z : Int} {l : List Int} {ns : List Nat} (h : z :: l = casts ns) : ∃ n r, ns = n :: r ∧ z = (n : Int) ∧ l = casts r := by
  cases ns with
  | nil => cases h
  | cons n r =>
    injection h with h1 h2
    exact ⟨n, r, rfl, h1, h2⟩
theorem casts_nil {ns : List Nat} (h : [] = casts ns) : ns = [] := by
  cases ns with
  | nil => rfl
  | cons n r => cases h
theorem casts_len (r : List Nat) : (casts r).length = r.length := List.length_map ..
theorem shape_is {p : Int} {n k : Nat} (h : PyUt05.shape p = some (n, k)) : (p = 0 ∧ n = 9 ∧ k = 0) ∨ (p = 1 ∧ n = 2 ∧ k = 1) ∨ (p = 2 ∧ n = 2 ∧ k = 0) ∨ (p = 3 ∧ n = 2 ∧ k = 0) ∨ (p = 4 ∧ n = 0 ∧ k = 0) ∨ (p = 5 ∧ n = 0 ∧ k = 1) ∨ (p = 6 ∧ n = 2 ∧ k = 0) ∨ (p = 7 ∧ n = 2 ∧ k = 0) ∨ (p = 8 ∧ n = 3 ∧ k = 1) ∨ (p = 9 ∧ n = 2 ∧ k = 0) ∨ (p = 10 ∧ n = 0 ∧ k = 0) := by
  unfold PyUt05.shape at h
  repeat' split at h
  all_goals first
    | (cases h; done)
    | (cases h; simp_all)
theorem of_len0 {α : Type} {l : List α} (h : l.length = 0) : l = [] := List.eq_nil_of_length_eq_zero h
theorem of_len1 {α : Type} {l : List α} (h : l.length = 1) : ∃ a, l = [a] := List.length_eq_one_iff.mp h
theorem of_len2 {α : Type} {l : List α} (h : l.length = 2) : ∃ a b, l = [a, b] := by
  match l, h with
  | [a, b], _ => exact ⟨a, b, rfl⟩
theorem of_len3 {α : Type} {l : List α} (h : l.length = 3) : ∃ a b c, l = [a, b, c] := by
  match l, h with
  | [a, b, c], _ => exact ⟨a, b, c, rfl⟩
theorem of_len9 {α : Type} {l : List α} (h : l.length = 9) : ∃ a b c d e f g i j, l = [a, b, c, d, e, f, g, i, j] := by
  match l, h with
  | [a, b, c, d, e, f, g, i, j], _ => exact ⟨a, b, c, d, e, f, g, i, j, rfl⟩
/-- one call read -/
theorem call_read {c : List (List Int)} (h : PyFlat.okCall PyUt05.shape c) (hb : PyInside.call PyUt05.bound c = true) (ha : Ut05Neutral.asked1 ((PyUt05.whole c).headD []) = true) :
    ∃ x, Ut05Neutral.callOf ((PyUt05.whole c).headD []) = some x ∧ PyFlat.put1 c = casts (flatC x) ∧ OkC x := by
  obtain ⟨p, a, xs, rfl, hs⟩ := h
  obtain ⟨x, hx⟩ := Option.isSome_iff_exists.mp ha
  refine ⟨x, hx, ?_⟩
  obtain ⟨ns, e, hc⟩ := callOf_some hx
  rcases shape_is hs with ⟨rfl, h1, h2⟩ | ⟨rfl, h1, h2⟩ | ⟨rfl, h1, h2⟩ | ⟨rfl, h1, h2⟩ | ⟨rfl, h1, h2⟩ | ⟨rfl, h1, h2⟩ | ⟨rfl, h1, h2⟩ | ⟨rfl, h1, h2⟩ | ⟨rfl, h1, h2⟩ | ⟨rfl, h1, h2⟩ | ⟨rfl, h1, h2⟩
  · obtain ⟨k0, k1, k2, k3, k4, k5, s, w, k, rfl⟩ := of_len9 h1
    cases of_len0 h2
    obtain ⟨n0, r, rfl, z0, e1⟩ := casts_cons (show (0 : Int) :: [k0, k1, k2, k3, k4, k5, s, w, k] = casts ns from e)
    obtain ⟨m0, r, rfl, rfl, e2⟩ := casts_cons e1
    obtain ⟨m1, r, rfl, rfl, e3⟩ := casts_cons e2
    obtain ⟨m2, r, rfl, rfl, e4⟩ := casts_cons e3
    obtain ⟨m3, r, rfl, rfl, e5⟩ := casts_cons e4
    obtain ⟨m4, r, rfl, rfl, e6⟩ := casts_cons e5
    obtain ⟨m5, r, rfl, rfl, e7⟩ := casts_cons e6
    obtain ⟨m6, r, rfl, rfl, e8⟩ := casts_cons e7
    obtain ⟨m7, r, rfl, rfl, e9⟩ := casts_cons e8
    obtain ⟨m8, r, rfl, rfl, e10⟩ := casts_cons e9
    cases casts_nil e10
    have : n0 = 0 := by omega
    subst this
    cases Option.some.inj (show some (Call.costs ⟨[m0, m1, m2, m3, m4, m5], m6, m7, m8⟩) = some x from hc)
    exact ⟨rfl, fun k hk => by cases hk; rfl, fun r hr => by cases hr⟩
  · obtain ⟨m, n, rfl⟩ := of_len2 h1
    obtain ⟨r, rfl⟩ := of_len1 h2
    obtain ⟨n0, q, rfl, z0, e1⟩ := casts_cons (show (1 : Int) :: m :: n :: r = casts ns from e)
    obtain ⟨m', q, rfl, rfl, e2⟩ := casts_cons e1
    obtain ⟨n', q, rfl, rfl, e3⟩ := casts_cons e2
    subst e3
    have : n0 = 1 := by omega
    subst this
    have hc' : (if q.length < m' + n' then none else (Ut05Neutral.sentsIn m' q).bind fun x => (Ut05Neutral.sentsIn n' x.2).bind fun y => if y.2 = [] then some (Call.texts x.1 y.1) else none) = some x := hc
    by_cases c1 : q.length < m' + n'
    · rw [if_pos c1] at hc'
      cases hc'
    rw [if_neg c1] at hc'
    obtain ⟨xa, h3, h4⟩ := Option.bind_eq_some_iff.mp hc'
    obtain ⟨xb, h5, h6⟩ := Option.bind_eq_some_iff.mp h4
    by_cases c2 : xb.2 = []
    · rw [if_pos c2] at h6
      cases Option.some.inj h6
      obtain ⟨a1, a2⟩ := sentsIn_some h3
      obtain ⟨b1, b2⟩ := sentsIn_some h5
      have er : q = rowOf (xa.1 ++ xb.1) := by
        rw [a2, b2, c2, List.append_nil]
        unfold rowOf
        rw [List.flatMap_append]
      have hl : q.length ≤ 200 := by
        have hb' : (PyInside.each (PyUt05.bound 1).1 [(m' : Int), (n' : Int)] && (decide (0 ≤ (casts q).length) && decide ((casts q).length ≤ 200) && (casts q).all (PyInside.within 0 4294967295) && true)) = true := hb
        rw [Bool.and_eq_true, Bool.and_true, Bool.and_eq_true, Bool.and_eq_true] at hb'
        have := of_decide_eq_true hb'.2.1.2
        rwa [casts_len] at this
      subst er
      refine ⟨?_, fun k hk => by (cases hk), fun r hr => by cases hr; exact hl⟩
      show (1 : Int) :: (m' : Int) :: (n' : Int) :: (((casts (rowOf (xa.1 ++ xb.1))).length : Int) :: casts (rowOf (xa.1 ++ xb.1)) ++ []) = casts (1 :: xa.1.length :: xb.1.length :: (rowOf (xa.1 ++ xb.1)).length :: rowOf (xa.1 ++ xb.1))
      rw [a1, b1, casts_len, List.append_nil]
      rfl
    · rw [if_neg c2] at h6
      cases h6
  · obtain ⟨i, j, rfl⟩ := of_len2 h1
    cases of_len0 h2
    obtain ⟨n0, r, rfl, z0, e1⟩ := casts_cons (show (2 : Int) :: [i, j] = casts ns from e)
    obtain ⟨m0, r, rfl, rfl, e2⟩ := casts_cons e1
    obtain ⟨m1, r, rfl, rfl, e3⟩ := casts_cons e2
    cases casts_nil e3
    have : n0 = 2 := by omega
    subst this
    cases Option.some.inj (show some (Call.fix m0 m1) = some x from hc)
    exact ⟨rfl, fun k hk => by (cases hk), fun r hr => by cases hr⟩
  · obtain ⟨i, j, rfl⟩ := of_len2 h1
    cases of_len0 h2
    obtain ⟨n0, r, rfl, z0, e1⟩ := casts_cons (show (3 : Int) :: [i, j] = casts ns from e)
    obtain ⟨m0, r, rfl, rfl, e2⟩ := casts_cons e1
    obtain ⟨m1, r, rfl, rfl, e3⟩ := casts_cons e2
    cases casts_nil e3
    have : n0 = 3 := by omega
    subst this
    cases Option.some.inj (show some (Call.free m0 m1) = some x from hc)
    exact ⟨rfl, fun k hk => by (cases hk), fun r hr => by cases hr⟩
  · cases of_len0 h1
    cases of_len0 h2
    obtain ⟨n0, r, rfl, z0, e1⟩ := casts_cons (show (4 : Int) :: [] = casts ns from e)
    cases casts_nil e1
    have : n0 = 4 := by omega
    subst this
    cases Option.some.inj (show some Call.lay = some x from hc)
    exact ⟨rfl, fun k hk => by (cases hk), fun r hr => by cases hr⟩
  · cases of_len0 h1
    obtain ⟨r, rfl⟩ := of_len1 h2
    obtain ⟨n0, q, rfl, z0, e1⟩ := casts_cons (show (5 : Int) :: r = casts ns from e)
    subst e1
    have : n0 = 5 := by omega
    subst this
    obtain ⟨l, h3, h4⟩ := Option.map_eq_some_iff.mp (show (Ut05Neutral.pairsIn q).map Call.cost = some x from hc)
    subst h4
    have er := pairsIn_some h3
    have hl : q.length ≤ 200 := by
      have hb' : (decide (0 ≤ (casts q).length) && decide ((casts q).length ≤ 100) && (casts q).all (PyInside.within 0 4294967295) && true) = true := hb
      rw [Bool.and_true, Bool.and_eq_true, Bool.and_eq_true] at hb'
      have := of_decide_eq_true hb'.1.2
      rw [casts_len] at this
      omega
    subst er
    refine ⟨?_, fun k hk => by (cases hk), fun r hr => by cases hr; exact hl⟩
    show (5 : Int) :: (((casts (rowB l)).length : Int) :: casts (rowB l) ++ []) = casts (5 :: (rowB l).length :: rowB l)
    rw [casts_len, List.append_nil]
    rfl
  · obtain ⟨i, j, rfl⟩ := of_len2 h1
    cases of_len0 h2
    obtain ⟨n0, r, rfl, z0, e1⟩ := casts_cons (show (6 : Int) :: [i, j] = casts ns from e)
    obtain ⟨m0, r, rfl, rfl, e2⟩ := casts_cons e1
    obtain ⟨m1, r, rfl, rfl, e3⟩ := casts_cons e2
    cases casts_nil e3
    have : n0 = 6 := by omega
    subst this
    cases Option.some.inj (show some (Call.pair m0 m1) = some x from hc)
    exact ⟨rfl, fun k hk => by (cases hk), fun r hr => by cases hr⟩
  · obtain ⟨i, j, rfl⟩ := of_len2 h1
    cases of_len0 h2
    obtain ⟨n0, r, rfl, z0, e1⟩ := casts_cons (show (7 : Int) :: [i, j] = casts ns from e)
    obtain ⟨m0, r, rfl, rfl, e2⟩ := casts_cons e1
    obtain ⟨m1, r, rfl, rfl, e3⟩ := casts_cons e2
    cases casts_nil e3
    have : n0 = 7 := by omega
    subst this
    cases Option.some.inj (show some (Call.bead m0 m1) = some x from hc)
    exact ⟨rfl, fun k hk => by (cases hk), fun r hr => by cases hr⟩
  · obtain ⟨t, pp, ln, rfl⟩ := of_len3 h1
    obtain ⟨r, rfl⟩ := of_len1 h2
    obtain ⟨n0, q, rfl, z0, e1⟩ := casts_cons (show (8 : Int) :: t :: pp :: ln :: (r.length : Int) :: r = casts ns from e)
    obtain ⟨m0, q, rfl, rfl, e2⟩ := casts_cons e1
    obtain ⟨m1, q, rfl, rfl, e3⟩ := casts_cons e2
    obtain ⟨m2, q, rfl, rfl, e4⟩ := casts_cons e3
    obtain ⟨m3, q, rfl, z3, e5⟩ := casts_cons e4
    subst e5
    have : n0 = 8 := by omega
    subst this
    rw [casts_len] at z3
    have : m3 = q.length := by omega
    subst this
    obtain ⟨tb, h3, h4⟩ := Option.bind_eq_some_iff.mp (show ((Ut05Neutral.bit m0).bind fun t => (Ut05Neutral.sentIn (m2 :: q.length :: q)).bind fun x => if x.2 = [] then some (Call.put t m1 x.1) else none) = some x from hc)
    obtain ⟨s, h5, h6⟩ := Option.bind_eq_some_iff.mp h4
    have es : s = (⟨m2, q⟩, []) := by
      have h7 : (if q.length < q.length then none else some ((⟨m2, q.take q.length⟩, q.drop q.length) : Sent × List Nat)) = some s := h5
      rw [if_neg (Nat.lt_irrefl _), List.take_length, List.drop_length] at h7
      exact (Option.some.inj h7).symm
    subst es
    cases Option.some.inj (show some (Call.put tb m1 ⟨m2, q⟩) = some x from h6)
    have hl : q.length ≤ 200 := by
      have hb' : (PyInside.each (PyUt05.bound 8).1 [(m0 : Int), (m1 : Int), (m2 : Int)] && (decide (0 ≤ (casts q).length) && decide ((casts q).length ≤ 20) && (casts q).all (PyInside.within 0 4294967295) && true)) = true := hb
      rw [Bool.and_eq_true, Bool.and_true, Bool.and_eq_true, Bool.and_eq_true] at hb'
      have := of_decide_eq_true hb'.2.1.2
      rw [casts_len] at this
      omega
    refine ⟨?_, fun k hk => by (cases hk), fun r hr => by cases hr; exact hl⟩
    rw [bit_some h3]
    show (8 : Int) :: ((bitN tb : Nat) : Int) :: (m1 : Int) :: (m2 : Int) :: (((casts q).length : Int) :: casts q ++ []) = casts (8 :: bitN tb :: m1 :: m2 :: q.length :: q)
    rw [casts_len, List.append_nil]
    rfl
  · obtain ⟨i, j, rfl⟩ := of_len2 h1
    cases of_len0 h2
    obtain ⟨n0, r, rfl, z0, e1⟩ := casts_cons (show (9 : Int) :: [i, j] = casts ns from e)
    obtain ⟨m0, r, rfl, rfl, e2⟩ := casts_cons e1
    obtain ⟨m1, r, rfl, rfl, e3⟩ := casts_cons e2
    cases casts_nil e3
    have : n0 = 9 := by omega
    subst this
    obtain ⟨tb, h3, h4⟩ := Option.map_eq_some_iff.mp (show (Ut05Neutral.bit m0).map (fun t => Call.take t m1) = some x from hc)
    subst h4
    rw [bit_some h3]
    exact ⟨rfl, fun k hk => by (cases hk), fun r hr => by cases hr⟩
  · cases of_len0 h1
    cases of_len0 h2
    obtain ⟨n0, r, rfl, z0, e1⟩ := casts_cons (show (10 : Int) :: [] = casts ns from e)
    cases casts_nil e1
    have : n0 = 10 := by omega
    subst this
    cases Option.some.inj (show some Call.shows = some x from hc)
    exact ⟨rfl, fun k hk => by (cases hk), fun r hr => by cases hr⟩
/-- what the calls answer, one by one -/
def runs : St → List Call → List (List Int)
  | _, [] => []
  | g, c :: cs => (Ut05.step g c).2 :: runs (Ut05.step g c).1 cs
theorem calls_read : ∀ (raw : List (List (List Int))) (g : St), (∀ c ∈ raw, PyFlat.okCall PyUt05.shape c) → raw.all (PyInside.call PyUt05.bound) = true → ((raw.map PyUt05.whole).map fun c => c.headD []).all Ut05Neutral.asked1 = true →
    ∃ cs : List Call, cs.length = raw.length ∧ PyFlat.put raw = casts (cs.flatMap flatC) ∧ (∀ c ∈ cs, OkC c) ∧ PyFlat.played (fun s c => Ut05Neutral.step s (c.headD [])) g (raw.map PyUt05.whole) = runs g cs
  | [], g, _, _, _ => ⟨[], rfl, rfl, fun c h => by (cases h), rfl⟩
  | c :: raw, g, h1, h2, h3 => by
    rw [List.all_cons, Bool.and_eq_true] at h2
    rw [List.map_cons, List.map_cons, List.all_cons, Bool.and_eq_true] at h3
    obtain ⟨x, e1, e2, e3⟩ := call_read (h1 c (List.mem_cons_self ..)) h2.1 h3.1
    have es : Ut05Neutral.step g ((PyUt05.whole c).headD []) = Ut05.step g x := by
      unfold Ut05Neutral.step
      rw [e1]
    obtain ⟨cs, f1, f2, f3, f4⟩ := calls_read raw (Ut05.step g x).1 (fun c' h => h1 c' (List.mem_cons_of_mem _ h)) h2.2 h3.2
    refine ⟨x :: cs, by rw [List.length_cons, List.length_cons, f1], ?_, ?_, ?_⟩
    · show PyFlat.put1 c ++ PyFlat.put raw = casts (flatC x ++ cs.flatMap flatC)
      rw [e2, f2]
      unfold casts
      rw [List.map_append]
    · intro c' hc'
      rcases List.mem_cons.mp hc' with h | h
      · exact h ▸ e3
      · exact f3 c' h
    · show (Ut05Neutral.step g ((PyUt05.whole c).headD [])).2 :: PyFlat.played (fun s c => Ut05Neutral.step s (c.headD [])) (Ut05Neutral.step g ((PyUt05.whole c).headD [])).1 (raw.map PyUt05.whole) = (Ut05.step g x).2 :: runs (Ut05.step g x).1 cs
      rw [es, f4]
/-- what is asked, and what is due -/
theorem asked_read {l : List Int} (h : PyUt05.answers_asked l = true) : ∃ cs : List Call, l = casts (cs.flatMap flatC) ∧ cs ≠ [] ∧ cs.length ≤ 30 ∧ (∀ c ∈ cs, OkC c) ∧ PyUt05.answers l = PyFlat.told (runs Ut05.init cs) ∧ (PyUt05.answers l).length ≤ 10000000 := by
  unfold PyUt05.answers_asked at h
  cases e : PyFlat.calls PyUt05.shape l.length l with
  | none =>
    rw [e] at h
    cases h
  | some raw =>
    rw [e] at h
    have h' : (!raw.isEmpty && PyFlat.atMost 30 raw && PyInside.calls PyUt05.bound raw && Ut05Neutral.asked ((raw.map PyUt05.whole).map fun c => c.headD []) && PyFlat.short 10000000 (PyUt05.answers l)) = true := h
    rw [Bool.and_eq_true, Bool.and_eq_true, Bool.and_eq_true, Bool.and_eq_true] at h'
    obtain ⟨⟨⟨⟨h0, h1⟩, h2⟩, h3⟩, h4⟩ := h'
    obtain ⟨p1, p2⟩ := PyFlat.put_calls _ _ _ e
    unfold Ut05Neutral.asked at h3
    rw [Bool.and_eq_true] at h3
    obtain ⟨cs, f1, f2, f3, f4⟩ := calls_read raw Ut05.init p2 h2 h3.1
    refine ⟨cs, p1.trans f2, ?_, ?_, f3, ?_, of_decide_eq_true h4⟩
    · intro z
      rw [z] at f1
      have : raw = [] := of_len0 f1.symm
      rw [this] at h0
      cases h0
    · rw [f1]
      exact of_decide_eq_true h1
    · unfold PyUt05.answers PyUt05.calls
      rw [e]
      exact congrArg PyFlat.told f4
end Sy

/-! What holds of the state behind every call. -/
namespace Sy
open Ut05
theorem good_init : Good Ut05.init := by
  refine ⟨rfl, by decide, by decide, by decide, by decide, by decide, by decide, ?_, ?_, List.nodup_nil⟩
  · intro s h
    rcases h with h | h <;> cases h
  · intro f h
    cases h
theorem costs_good {c : Costs} (h : costsOk c = true) : c.kind.length = 6 ∧ (∀ n ∈ c.kind, n ≤ 999) ∧ 1 ≤ c.share ∧ c.share ≤ 999 ∧ c.weight ≤ 99 ∧ c.anchor ≤ 999 := by
  unfold costsOk at h
  simp only [Bool.and_eq_true, decide_eq_true_eq, List.all_eq_true] at h
  exact ⟨h.1, h.2.1, h.2.2.1, h.2.2.2.1, h.2.2.2.2.1, h.2.2.2.2.2⟩
theorem sent_good {s : Sent} (h : sentOk s = true) : s.long ≤ 999 ∧ s.anchors.length ≤ 4 ∧ ∀ n ∈ s.anchors, n ≤ 999 := by
  unfold sentOk at h
  simp only [Bool.and_eq_true, decide_eq_true_eq, List.all_eq_true] at h
  exact ⟨h.1, h.2.1, h.2.2⟩
theorem text_good {l : List Sent} (h : textOk l = true) : l.length ≤ 14 ∧ ∀ s ∈ l, sentOk s = true := by
  unfold textOk at h
  simp only [Bool.and_eq_true, decide_eq_true_eq, List.all_eq_true] at h
  exact h
theorem mem_ins {α : Type} {l : List α} {p : Nat} {s x : α} (h : x ∈ l.take p ++ (s :: l.drop p)) : x = s ∨ x ∈ l := by
  rcases List.mem_append.mp h with h | h
  · exact .inr (List.mem_of_mem_take h)
  · rcases List.mem_cons.mp h with h | h
    · exact .inl h
    · exact .inr (List.mem_of_mem_drop h)
theorem len_ins {α : Type} {l : List α} {p : Nat} {s : α} : (l.take p ++ (s :: l.drop p)).length = l.length + 1 := by
  rw [List.length_append, List.length_take, List.length_cons, List.length_drop]
  omega
theorem mem_del {α : Type} {l : List α} {p : Nat} {x : α} (h : x ∈ l.take p ++ l.drop (p + 1)) : x ∈ l := by
  rcases List.mem_append.mp h with h | h
  · exact List.mem_of_mem_take h
  · exact List.mem_of_mem_drop h
theorem len_del {α : Type} {l : List α} {p : Nat} (h : p < l.length) : (l.take p ++ l.drop (p + 1)).length = l.length - 1 := by
  rw [List.length_append, List.length_take, List.length_drop]
  omega
theorem upAt_inj {p a b : Nat} (h : upAt p a = upAt p b) : a = b := by
  unfold upAt at h
  split at h <;> split at h <;> omega
theorem downAt_inj {p a b : Nat} (ha : a ≠ p) (hb : b ≠ p) (h : downAt p a = downAt p b) : a = b := by
  unfold downAt at h
  split at h <;> split at h <;> omega
theorem upAt_le (p a : Nat) : upAt p a ≤ a + 1 := by
  unfold upAt
  split <;> omega
theorem nodup_map_on {α β : Type} {f : α → β} : ∀ {l : List α}, l.Nodup → (∀ a ∈ l, ∀ b ∈ l, f a = f b → a = b) → (l.map f).Nodup
  | [], _, _ => List.nodup_nil
  | x :: l, h, hf => by
    rw [List.nodup_cons] at h
    rw [List.map_cons, List.nodup_cons]
    refine ⟨fun q => ?_, nodup_map_on h.2 fun a ha b hb => hf a (List.mem_cons_of_mem _ ha) b (List.mem_cons_of_mem _ hb)⟩
    obtain ⟨y, hy, e⟩ := List.mem_map.mp q
    have := hf y (List.mem_cons_of_mem _ hy) x (List.mem_cons_self ..) e
    exact h.1 (this ▸ hy)
theorem good_costs {g : House} {c : Costs} (h : Good g) (q : costsOk c = true) : Good { g with costs := c } :=
  have ⟨a1, a2, _, a4, a5, a6⟩ := costs_good q
  ⟨a1, a2, a4, a5, a6, h.one, h.two, h.sens, h.fixed, h.nodup⟩
theorem good_texts {g : House} {a b : List Sent} (h : Good g) (qa : textOk a = true) (qb : textOk b = true) : Good { g with one := a, two := b, fixed := [] } :=
  ⟨h.k6, h.kind, h.share, h.weight, h.anchor, (text_good qa).1, (text_good qb).1, fun s hs => sent_good (hs.elim (fun z => (text_good qa).2 s z) fun z => (text_good qb).2 s z), fun f hf => by (cases hf), List.nodup_nil⟩
theorem good_fix {g : House} {i j : Nat} (h : Good g) (hi : i < g.one.length) (hj : j < g.two.length) (hn : g.fixed.contains (i, j) = false) : Good { g with fixed := g.fixed ++ [(i, j)] } := by
  refine ⟨h.k6, h.kind, h.share, h.weight, h.anchor, h.one, h.two, h.sens, fun f hf => ?_, ?_⟩
  · rcases List.mem_append.mp hf with z | z
    · exact h.fixed f z
    · cases List.mem_singleton.mp z
      exact ⟨hi, hj⟩
  · show (g.fixed ++ [(i, j)]).Nodup
    rw [List.nodup_append]
    refine ⟨h.nodup, by simp, fun a ha b hb => ?_⟩
    rw [List.mem_singleton.mp hb]
    intro z
    subst z
    have : g.fixed.contains (i, j) = true := by simpa using ha
    rw [hn] at this
    cases this
theorem good_put2 {g : House} {p : Nat} {s : Sent} (h : Good g) (qs : sentOk s = true) (hl : g.two.length < 14) : Good { g with two := g.two.take p ++ (s :: g.two.drop p), fixed := g.fixed.map fun f => (f.1, upAt p f.2) } := by
  refine ⟨h.k6, h.kind, h.share, h.weight, h.anchor, h.one, ?_, fun x hx => ?_, fun f hf => ?_, ?_⟩
  · show (g.two.take p ++ (s :: g.two.drop p)).length ≤ 14
    rw [len_ins]
    omega
  · rcases hx with z | z
    · exact h.sens x (.inl z)
    · rcases mem_ins z with z | z
      · exact z ▸ sent_good qs
      · exact h.sens x (.inr z)
  · obtain ⟨k, hk, rfl⟩ := List.mem_map.mp hf
    have := h.fixed k hk
    have u := upAt_le p k.2
    refine ⟨this.1, ?_⟩
    show upAt p k.2 < (g.two.take p ++ (s :: g.two.drop p)).length
    rw [len_ins]
    omega
  · refine nodup_map_on h.nodup fun a _ b _ e => ?_
    injection e with e1 e2
    exact Prod.ext e1 (upAt_inj e2)
theorem good_put1 {g : House} {p : Nat} {s : Sent} (h : Good g) (qs : sentOk s = true) (hl : g.one.length < 14) : Good { g with one := g.one.take p ++ (s :: g.one.drop p), fixed := g.fixed.map fun f => (upAt p f.1, f.2) } := by
  refine ⟨h.k6, h.kind, h.share, h.weight, h.anchor, ?_, h.two, fun x hx => ?_, fun f hf => ?_, ?_⟩
  · show (g.one.take p ++ (s :: g.one.drop p)).length ≤ 14
    rw [len_ins]
    omega
  · rcases hx with z | z
    · rcases mem_ins z with z | z
      · exact z ▸ sent_good qs
      · exact h.sens x (.inl z)
    · exact h.sens x (.inr z)
  · obtain ⟨k, hk, rfl⟩ := List.mem_map.mp hf
    have := h.fixed k hk
    have u := upAt_le p k.1
    refine ⟨?_, this.2⟩
    show upAt p k.1 < (g.one.take p ++ (s :: g.one.drop p)).length
    rw [len_ins]
    omega
  · refine nodup_map_on h.nodup fun a _ b _ e => ?_
    injection e with e1 e2
    exact Prod.ext (upAt_inj e1) e2
theorem good_take2 {g : House} {p : Nat} (h : Good g) (hp : p < g.two.length) : Good { g with two := g.two.take p ++ g.two.drop (p + 1), fixed := (g.fixed.filter fun f => f.2 != p).map fun f => (f.1, downAt p f.2) } := by
  have nep : ∀ k ∈ g.fixed.filter fun f => f.2 != p, k ∈ g.fixed ∧ k.2 ≠ p := fun k hk => by
    have z := List.mem_filter.mp hk
    exact ⟨z.1, by simpa using z.2⟩
  refine ⟨h.k6, h.kind, h.share, h.weight, h.anchor, h.one, ?_, fun x hx => ?_, fun f hf => ?_, ?_⟩
  · show (g.two.take p ++ g.two.drop (p + 1)).length ≤ 14
    rw [len_del hp]
    have := h.two
    omega
  · rcases hx with z | z
    · exact h.sens x (.inl z)
    · exact h.sens x (.inr (mem_del z))
  · obtain ⟨k, hk, rfl⟩ := List.mem_map.mp hf
    have hk2 := nep k hk
    have := h.fixed k hk2.1
    refine ⟨this.1, ?_⟩
    show downAt p k.2 < (g.two.take p ++ g.two.drop (p + 1)).length
    rw [len_del hp]
    unfold downAt
    split <;> omega
  · refine nodup_map_on (h.nodup.filter _) fun a ha b hb e => ?_
    injection e with e1 e2
    exact Prod.ext e1 (downAt_inj (nep a ha).2 (nep b hb).2 e2)
theorem good_take1 {g : House} {p : Nat} (h : Good g) (hp : p < g.one.length) : Good { g with one := g.one.take p ++ g.one.drop (p + 1), fixed := (g.fixed.filter fun f => f.1 != p).map fun f => (downAt p f.1, f.2) } := by
  have nep : ∀ k ∈ g.fixed.filter fun f => f.1 != p, k ∈ g.fixed ∧ k.1 ≠ p := fun k hk => by
    have z := List.mem_filter.mp hk
    exact ⟨z.1, by simpa using z.2⟩
  refine ⟨h.k6, h.kind, h.share, h.weight, h.anchor, ?_, h.two, fun x hx => ?_, fun f hf => ?_, ?_⟩
  · show (g.one.take p ++ g.one.drop (p + 1)).length ≤ 14
    rw [len_del hp]
    have := h.one
    omega
  · rcases hx with z | z
    · exact h.sens x (.inl (mem_del z))
    · exact h.sens x (.inr z)
  · obtain ⟨k, hk, rfl⟩ := List.mem_map.mp hf
    have hk2 := nep k hk
    have := h.fixed k hk2.1
    refine ⟨?_, this.2⟩
    show downAt p k.1 < (g.one.take p ++ g.one.drop (p + 1)).length
    rw [len_del hp]
    unfold downAt
    split <;> omega
  · refine nodup_map_on (h.nodup.filter _) fun a ha b hb e => ?_
    injection e with e1 e2
    exact Prod.ext (downAt_inj (nep a ha).2 (nep b hb).2 e1) e2
theorem good_step {g : House} (h : Good g) (c : Call) : Good (Ut05.step g c).1 := by
  cases c with
  | costs c =>
    simp only [Ut05.step]
    split
    · exact h
    · rename_i q
      exact good_costs h (by simpa using q)
  | texts a b =>
    simp only [Ut05.step]
    split
    · exact h
    · rename_i q
      simp only [not_or, Bool.not_eq_false] at q
      exact good_texts h q.1 q.2
  | fix i j =>
    by_cases c1 : g.one.length ≤ i ∨ g.two.length ≤ j
    · rw [fix_out c1]
      exact h
    · by_cases c2 : g.fixed.contains (i, j) = true
      · rw [fix_there c1 c2]
        exact h
      · have c3 : g.fixed.contains (i, j) = false := by simpa using c2
        cases e : best g.costs (g.fixed ++ [(i, j)]) g.one g.two 0 0 with
        | none =>
          rw [fix_none c1 c3 e]
          exact h
        | some r =>
          rw [fix_some c1 c3 e]
          exact good_fix h (by omega) (by omega) c3
  | free i j =>
    by_cases c1 : g.fixed.contains (i, j) = true
    · cases e : best g.costs (freed g i j).fixed g.one g.two 0 0 with
      | none =>
        rw [free_none c1 e]
        exact h.freed
      | some r =>
        rw [free_some c1 e]
        exact h.freed
    · rw [free_no (by simpa using c1)]
      exact h
  | lay => exact h
  | cost l => exact h
  | pair i j => exact h
  | bead t i => exact h
  | put t p s =>
    cases t with
    | true =>
      simp only [Ut05.step, ↓reduceIte, Bool.false_eq_true]
      split
      · exact h
      · rename_i q
        split
        · exact h
        · rename_i q2
          exact good_put2 h (by simpa using fun z => q (.inl z)) (by omega)
    | false =>
      simp only [Ut05.step, ↓reduceIte, Bool.false_eq_true]
      split
      · exact h
      · rename_i q
        split
        · exact h
        · rename_i q2
          exact good_put1 h (by simpa using fun z => q (.inl z)) (by omega)
  | take t p =>
    cases t with
    | true =>
      simp only [Ut05.step, ↓reduceIte, Bool.false_eq_true]
      split
      · exact h
      · rename_i q
        exact good_take2 h (by omega)
    | false =>
      simp only [Ut05.step, ↓reduceIte, Bool.false_eq_true]
      split
      · exact h
      · rename_i q
        exact good_take1 h (by omega)
  | shows => exact h
end Sy

namespace Sy
open PySem PySem.Spec PyProof.Rows L2
/-! answer_or_refusal -/
abbrev stRef : Stmt := top 25
def rowD (c : Ut05.Call) : List Nat := (rowC c).getD []
/-- what answer is handed, and what it answers -/
def spAnswer (A : Ads) : Sp := fun vs H Q E => ∃ (y pa ra : Addr) (O : Addr → Prop) (g : Ut05.House) (c : Ut05.Call), vs = [.ref y, nv (numC c), .ref pa, .ref ra] ∧ YardO A O H y g ∧ Good g ∧ OkC c ∧ ¬ O pa ∧ ¬ O ra ∧
  H pa = some (.lst ((plainC c).map nv)) ∧ H ra = some (.lst ((rowD c).map nv)) ∧ Ans A (fun b => O b ∨ b = ra) H y (Ut05.step g c) Q E
def spRef (A : Ads) : Sp := fun vs H Q _ => ∃ (y pa ra : Addr) (O : Addr → Prop) (g : Ut05.House) (c : Ut05.Call), vs = [.ref y, nv (numC c), .ref pa, .ref ra] ∧ YardO A O H y g ∧ Good g ∧ OkC c ∧ ¬ O pa ∧ ¬ O ra ∧
  H pa = some (.lst ((plainC c).map nv)) ∧ H ra = some (.lst ((rowD c).map nv)) ∧
  ∀ H' p, YardO A (fun b => (O b ∨ b = ra) ∨ H b = none) H' y (Ut05.step g c).1 → Keep (fun b => O b ∨ b = ra) H H' → (∀ o, H p = some o → O p ∨ p = ra) → H' p = some (.lst ((Ut05.step g c).2.map V.int)) → Q (.ref p) H'
/-- which error is caught by which clause -/
structure Exms (K : PySem.W.Frag) (A : Ads) : Prop where
  uu : PySem.W.exmOne K (.ref A.CU) (.ref A.CU) = some true
  nu : PySem.W.exmOne K (.ref A.CN) (.ref A.CU) = some false
  nn : PySem.W.exmOne K (.ref A.CN) (.ref A.CN) = some true
  au : PySem.W.exmOne K (.ref A.CA) (.ref A.CU) = some false
  an : PySem.W.exmOne K (.ref A.CA) (.ref A.CN) = some false
  aa : PySem.W.exmOne K (.ref A.CA) (.ref A.CA) = some true
  lu : PySem.W.exmOne K (.ref A.CL) (.ref A.CU) = some false
  ln : PySem.W.exmOne K (.ref A.CL) (.ref A.CN) = some false
  la : PySem.W.exmOne K (.ref A.CL) (.ref A.CA) = some false
  lf : PySem.W.exmOne K (.ref A.CL) (.ref A.CF) = some false
  ll : PySem.W.exmOne K (.ref A.CL) (.ref A.CL) = some true
  fu : PySem.W.exmOne K (.ref A.CF) (.ref A.CU) = some false
  fn : PySem.W.exmOne K (.ref A.CF) (.ref A.CN) = some false
  fa : PySem.W.exmOne K (.ref A.CF) (.ref A.CA) = some false
  ff : PySem.W.exmOne K (.ref A.CF) (.ref A.CF) = some true
theorem pe_useS {X : Cx} {k : Nat} {ps : List Str} {sp : Sp} {x : Str} {p pos : Pos} {e : Expr} {es : List Expr} {t : TA} {W : WX} (c : Use X.prog X.w X.K X.mg X.base (L2.CX X.prog X.w) k x ps sp) (hr : Room k X.A) (hg : Gl X x) (tk : Takes X W) (ha : PA X (e :: es) t) (hdb : (x == ("__debug__" : Str)) = false := by decide)
    (he : starEach (e :: es) X.env = (false, eval e X.env) :: starEach es X.env := by rfl) (hpl : (backTo pos (starEach es X.env)).any (·.1) = false := by rfl) : PE X (.Call (.Name x p) (e :: es) [] pos) (tCallS sp (WE W) t) := by
  obtain ⟨f, fd, F, hm, hk, hb⟩ := c.ex
  exact pe_callS F hr hg hm hk hb (fun σ => passAt tk σ) ha hdb he hpl
section
variable {P : Program} {w : World} {K : PySem.W.Frag} {mg : Str → Option Value} {base : Heap} {A : Ads}
theorem scRef : FnScope ["yard", "number", "plain", "row"] ["yard", "number", "plain", "row"] (defScope stRef) := ⟨rfl, rfl, rfl, by decide +kernel, rfl, by decide +kernel, by decide +kernel⟩
theorem ok_ref {f : Addr} {fd : FuncData} (F : Fun K "answer_or_refusal" "answer_or_refusal" stRef f fd) (T : Txt K mg A) (M : Exms K A) (UA : Use P w K mg base (L2.CX P w) 8 "answer" ["yard", "number", "plain", "row"] (spAnswer A)) :
    FnOk P w K mg base CX0 9 f fd ["yard", "number", "plain", "row"] (spRef A) := by
  refine F.ok scRef (fun vs H Q E h => ?_) (fun cdv Ar outer s H vs Q E hr h => ⟨_, pss_one (ps_try_many (Wout := fun _ _ _ _ => False) (l := [(.ref A.CU, fun _ _ _ => _), (.ref A.CN, fun _ _ _ => _), (.ref A.CA, fun _ _ _ => _), (.ref A.CF, fun _ _ _ => _), (.ref A.CL, fun _ _ _ => _)]) rfl rfl takes0
      (fun W pn xe tk _ => pss_one (ps_ret (by exact pe_useS UA hr rfl tk (by exact pa_cons (pv 0) (pa_cons (pv 1) (pa_cons (pv 2) (pa_cons (pv 3) pa_nil)))))))
      (.cons ⟨rfl, by decide, .inl T.eU.g⟩ (fun a oe cls d pn _ _ => pss_one (ps_ret (pe_lst (pa_cons (pe_un un_neg pe_int) pa_nil))))
      (.cons ⟨rfl, by decide, .inl T.eN.g⟩ (fun a oe cls d pn _ _ => pss_one (ps_ret (pe_lst (pa_cons (pe_un un_neg pe_int) pa_nil))))
      (.cons ⟨rfl, by decide, .inl T.eA.g⟩ (fun a oe cls d pn _ _ => pss_one (ps_ret (pe_lst (pa_cons (pe_un un_neg pe_int) pa_nil))))
      (.cons ⟨rfl, by decide, .inl T.eF.g⟩ (fun a oe cls d pn _ _ => pss_one (ps_ret (pe_lst (pa_cons (pe_un un_neg pe_int) pa_nil))))
      (.cons ⟨rfl, by decide, .inl T.eL.g⟩ (fun a oe cls d pn _ _ => pss_one (ps_ret (pe_lst (pa_cons (pe_un un_neg pe_int) pa_nil)))) .nil)))))), ?_⟩)
  · obtain ⟨y, pa, ra, O, g, c, rfl, _⟩ := h
    rfl
  · obtain ⟨y, pa, ra, O, g, c, rfl, hY, hG, hO, np, nr, hpa, hra, q⟩ := h
    have out : ∀ (n : Int) (H' : Hp), (Ut05.step g c).2 = [n] → YardO A (fun b => (O b ∨ b = ra) ∨ H b = none) H' y (Ut05.step g c).1 → Keep (fun b => O b ∨ b = ra) H H' → ∀ p, H' p = none → Q (.ref p) (upd H' p (.lst [.int n])) := fun n H' e yd ke p np =>
      q _ p (YardO.same (Same.upd np) yd) (ke.trans (Keep.same (Same.upd np))) (Keep.free ke np) (by rw [upd_same, e]; rfl)
    refine ⟨_, rfl, _, rfl, _, rfl, _, rfl, y, pa, ra, O, g, c, rfl, hY, hG, hO, np, nr, hpa, hra, fun H' yd ke => ⟨fun e => ?_, fun e => ?_, fun e => ?_, fun e => ?_, fun e => ?_, fun p fr hp => q H' p yd ke fr hp⟩⟩
    · exact ⟨true, M.uu, fun _ _ _ => ⟨_, rfl, by show 1 ≤ sizeLine; decide, fun p np => out (-1) H' e yd ke p np⟩, fun z => nomatch z⟩
    · exact ⟨false, M.nu, (fun z => nomatch z), fun _ => ⟨true, M.nn, fun _ _ _ => ⟨_, rfl, by show 1 ≤ sizeLine; decide, fun p np => out (-2) H' e yd ke p np⟩, fun z => nomatch z⟩⟩
    · exact ⟨false, M.au, (fun z => nomatch z), fun _ => ⟨false, M.an, (fun z => nomatch z), fun _ => ⟨true, M.aa, fun _ _ _ => ⟨_, rfl, by show 1 ≤ sizeLine; decide, fun p np => out (-4) H' e yd ke p np⟩, fun z => nomatch z⟩⟩⟩
    · exact ⟨false, M.lu, (fun z => nomatch z), fun _ => ⟨false, M.ln, (fun z => nomatch z), fun _ => ⟨false, M.la, (fun z => nomatch z), fun _ => ⟨false, M.lf, (fun z => nomatch z), fun _ => ⟨true, M.ll, fun _ _ _ => ⟨_, rfl, by show 1 ≤ sizeLine; decide, fun p np => out (-6) H' e yd ke p np⟩, fun z => nomatch z⟩⟩⟩⟩⟩
    · exact ⟨false, M.fu, (fun z => nomatch z), fun _ => ⟨false, M.fn, (fun z => nomatch z), fun _ => ⟨false, M.fa, (fun z => nomatch z), fun _ => ⟨true, M.ff, fun _ _ _ => ⟨_, rfl, by show 1 ≤ sizeLine; decide, fun p np => out (-5) H' e yd ke p np⟩, fun z => nomatch z⟩⟩⟩⟩
end
end Sy

/-! Where the calls stand in a request's list, and what has been answered so far. -/
namespace Sy
open Ut05
def after : St → List Call → St := fun g cs => cs.foldl (fun g c => (Ut05.step g c).1) g
theorem after_more (g : St) (cs : List Call) (c : Call) : after g (cs ++ [c]) = (Ut05.step (after g cs) c).1 := by
  unfold after
  rw [List.foldl_append]
  rfl
theorem good_after : ∀ (cs : List Call) {g : St}, Good g → Good (after g cs)
  | [], _, h => h
  | c :: cs, _, h => good_after cs (good_step h c)
theorem runs_more : ∀ (cs : List Call) (g : St) (c : Call), runs g (cs ++ [c]) = runs g cs ++ [(Ut05.step (after g cs) c).2]
  | [], _, _ => rfl
  | d :: cs, g, c => by
    show (Ut05.step g d).2 :: runs (Ut05.step g d).1 (cs ++ [c]) = (Ut05.step g d).2 :: runs (Ut05.step g d).1 cs ++ [(Ut05.step (after (Ut05.step g d).1 cs) c).2]
    rw [runs_more cs]
    rfl
theorem told_more (l : List (List Int)) (x : List Int) : PyFlat.told (l ++ [x]) = PyFlat.told l ++ ((x.length : Int) :: x) := by
  unfold PyFlat.told
  rw [List.flatMap_append, List.flatMap_cons, List.flatMap_nil, List.append_nil]
/-- answered so far -/
def saidTo (cs : List Call) : List Int := PyFlat.told (runs Ut05.init cs)
theorem said_more (cs : List Call) (c : Call) : saidTo (cs ++ [c]) = saidTo cs ++ [((Ut05.step (after Ut05.init cs) c).2.length : Int)] ++ (Ut05.step (after Ut05.init cs) c).2 := by
  unfold saidTo
  rw [runs_more, told_more, List.append_assoc]
  rfl
theorem runs_pre : ∀ (cs ds : List Call) (g : St), ∃ z, runs g (cs ++ ds) = runs g cs ++ z
  | [], ds, g => ⟨_, rfl⟩
  | c :: cs, ds, g => by
    obtain ⟨z, h⟩ := runs_pre cs ds (Ut05.step g c).1
    exact ⟨z, by show _ :: runs _ (cs ++ ds) = _ :: runs _ cs ++ z; rw [h]; rfl⟩
theorem said_le (cs ds : List Call) : (saidTo cs).length ≤ (saidTo (cs ++ ds)).length := by
  obtain ⟨z, h⟩ := runs_pre cs ds Ut05.init
  unfold saidTo PyFlat.told
  rw [h, List.flatMap_append, List.length_append]
  omega
theorem said_take {cs : List Call} {n : Nat} : (saidTo (cs.take n)).length ≤ (saidTo cs).length := by
  have := said_le (cs.take n) (cs.drop n)
  rwa [List.take_append_drop] at this
/-- the list of a request -/
def lineC (cs : List Call) : List Nat := cs.flatMap flatC
theorem line_split {cs : List Call} {n : Nat} {c : Call} (h : cs[n]? = some c) : lineC cs = lineC (cs.take n) ++ flatC c ++ lineC (cs.drop (n + 1)) := by
  have e : lineC cs = lineC (cs.take (n + 1)) ++ lineC (cs.drop (n + 1)) := by
    unfold lineC
    rw [← List.flatMap_append, List.take_append_drop]
  rw [e, take_more h]
  unfold lineC
  rw [List.flatMap_append]
  simp
theorem line_take {cs : List Call} {n : Nat} {c : Call} (h : cs[n]? = some c) : (lineC (cs.take (n + 1))).length = (lineC (cs.take n)).length + (flatC c).length := by
  rw [take_more h]
  unfold lineC
  rw [List.flatMap_append, List.length_append]
  simp
theorem line_drop {cs : List Call} {n : Nat} {c : Call} (h : cs[n]? = some c) : (lineC cs).drop (lineC (cs.take n)).length = flatC c ++ lineC (cs.drop (n + 1)) := by
  rw [line_split h, List.append_assoc, List.drop_left]
theorem line_lt {cs : List Call} {n : Nat} : (lineC (cs.take n)).length < (lineC cs).length ↔ n < cs.length := by
  constructor
  · intro h
    rcases Nat.lt_or_ge n cs.length with z | z
    · exact z
    · rw [List.take_of_length_le z] at h
      omega
  · intro h
    have hc : cs[n]? = some cs[n] := List.getElem?_eq_getElem h
    rw [line_split hc, List.length_append, List.length_append]
    have : 0 < (flatC cs[n]).length := Nat.succ_pos _
    omega
section
variable {l t : List Nat} {at_ : Nat} {c : Call}
theorem line_num (h : l.drop at_ = flatC c ++ t) : l[at_]? = some (numC c) := by
  have e : l[at_]? = (l.drop at_)[0]? := by rw [List.getElem?_drop]; rfl
  rw [e, h]
  rfl
theorem line_plain (h : l.drop at_ = flatC c ++ t) : (l.drop (at_ + 1)).take (plainC c).length = plainC c := by
  have e : l.drop (at_ + 1) = plainC c ++ (rowF (rowC c) ++ t) := by
    rw [← List.drop_drop, h]
    show plainC c ++ rowF (rowC c) ++ t = _
    rw [List.append_assoc]
  rw [e, List.take_left]
theorem line_rest (h : l.drop at_ = flatC c ++ t) : l.drop (at_ + 1 + (plainC c).length) = rowF (rowC c) ++ t := by
  have e : l.drop (at_ + 1) = plainC c ++ (rowF (rowC c) ++ t) := by
    rw [← List.drop_drop, h]
    show plainC c ++ rowF (rowC c) ++ t = _
    rw [List.append_assoc]
  rw [← List.drop_drop, e, List.drop_left]
theorem line_many (h : l.drop at_ = flatC c ++ t) {r : List Nat} (hr : rowC c = some r) : l[at_ + 1 + (plainC c).length]? = some r.length := by
  have e : l[at_ + 1 + (plainC c).length]? = (l.drop (at_ + 1 + (plainC c).length))[0]? := by rw [List.getElem?_drop]; rfl
  rw [e, line_rest h, hr]
  rfl
theorem line_row (h : l.drop at_ = flatC c ++ t) {r : List Nat} (hr : rowC c = some r) : (l.drop (at_ + 1 + (plainC c).length + 1)).take r.length = r := by
  have e : l.drop (at_ + 1 + (plainC c).length + 1) = r ++ t := by
    rw [← List.drop_drop, line_rest h, hr]
    rfl
  rw [e, List.take_left]
theorem flat_len0 (hr : rowC c = none) : (flatC c).length = 1 + (plainC c).length := by
  unfold flatC
  rw [hr, List.length_cons, List.length_append]
  show (plainC c).length + 0 + 1 = _
  omega
theorem flat_len1 {r : List Nat} (hr : rowC c = some r) : (flatC c).length = 1 + (plainC c).length + 1 + r.length := by
  unfold flatC
  rw [hr, List.length_cons, List.length_append]
  show (plainC c).length + (r.length + 1) + 1 = _
  omega
end
end Sy

/-! A pair more costs no less; what a laying covers; the bead that has a sentence. -/
namespace Sy
open Ut05
section
variable (c : Costs) (fx gx : List Fixed) (a b : List Sent)
theorem keeps_swap (f : Fixed) (i j : Nat) (x : Bead) : keeps (f :: fx) i j x = keeps (fx ++ [f]) i j x := by
  unfold keeps
  rw [List.all_append, List.all_cons, List.all_cons, List.all_nil, Bool.and_true, Bool.and_comm]
theorem bestF_keeps (h : ∀ i j x, keeps fx i j x = keeps gx i j x) : ∀ (f i j : Nat), bestF c fx a b f i j = bestF c gx a b f i j
  | 0, _, _ => rfl
  | f + 1, i, j => by
    have e : ks6.foldl (wayStep c fx a b (bestF c fx a b f) i j) none = ks6.foldl (wayStep c gx a b (bestF c gx a b f) i j) none := by
      refine foldl_congr _ _ fun m k _ => ?_
      unfold wayStep
      rw [bestF_keeps h f, h]
    show (if a.length < i ∨ b.length < j then none else if i = a.length ∧ j = b.length then some (0, []) else ks6.foldl (wayStep c fx a b (bestF c fx a b f) i j) none) = _
    rw [e]
    rfl
theorem best_keeps (h : ∀ i j x, keeps fx i j x = keeps gx i j x) (i j : Nat) : best c fx a b i j = best c gx a b i j := bestF_keeps c fx gx a b h _ i j
theorem best_swap (f : Fixed) (i j : Nat) : best c (f :: fx) a b i j = best c (fx ++ [f]) a b i j := best_keeps c _ _ a b (keeps_swap fx f) i j
/-- the less is fixed, the less it costs -/
theorem best_mono (h : ∀ i j x, keeps gx i j x = true → keeps fx i j x = true) : ∀ (d i j : Nat) (r : Nat × List Nat), (a.length - i) + (b.length - j) ≤ d → best c gx a b i j = some r → ∃ r', best c fx a b i j = some r' ∧ r'.1 ≤ r.1 := by
  intro d
  induction d with
  | zero =>
    intro i j r hd hr
    by_cases o : a.length < i ∨ b.length < j
    · rw [best_out c gx a b o] at hr
      cases hr
    · have e1 : i = a.length := by omega
      have e2 : j = b.length := by omega
      subst e1 e2
      exact ⟨_, best_end c fx a b, Nat.zero_le _⟩
  | succ d ih =>
    intro i j r hd hr
    by_cases o : a.length < i ∨ b.length < j
    · rw [best_out c gx a b o] at hr
      cases hr
    by_cases ce : i = a.length ∧ j = b.length
    · obtain ⟨e1, e2⟩ := ce
      subst e1 e2
      exact ⟨_, best_end c fx a b, Nat.zero_le _⟩
    rw [best_eq c gx a b (by omega) (by omega) ce] at hr
    have h2 : ks6.foldl (lessStep (cand c gx a b i j)) none = some r := by
      rw [← hr]
      exact foldl_congr _ _ fun m k _ => (wayStep_cand c gx a b i j m k).symm
    rcases less_some ks6 none h2 with ⟨q, _⟩ | ⟨k, hf, hk, _, _⟩
    · cases q
    have hmem : k ∈ ks6 := List.mem_of_find?_eq_some hf
    have hp := bd_pos hmem
    unfold cand at hk
    cases er : best c gx a b (i + (bd k).1) (j + (bd k).2) with
    | none =>
      rw [er] at hk
      cases hk
    | some w =>
      rw [er] at hk
      have hin : ¬ (a.length < i + (bd k).1 ∨ b.length < j + (bd k).2) := fun q => by
        rw [best_out c gx a b q] at er
        cases er
      obtain ⟨w', e1, e2⟩ := ih _ _ w (by omega) er
      by_cases ck : Ut05.keeps gx i j (bd k) = false
      · simp only [if_pos ck] at hk
        cases hk
      simp only [if_neg ck] at hk
      have ck2 : Ut05.keeps fx i j (bd k) = true := h _ _ _ (by simpa using ck)
      have hc : cand c fx a b i j k = some (beadCost c a b k i j + w'.1, k :: w'.2) := by
        unfold cand
        rw [e1]
        simp only [ck2, Bool.true_eq_false, if_false]
      have er2 : best c fx a b i j = ks6.foldl (lessStep (cand c fx a b i j)) none := by
        rw [best_eq c fx a b (by omega) (by omega) ce]
        exact foldl_congr _ _ fun m k _ => wayStep_cand c fx a b i j m k
      cases e3 : ks6.foldl (lessStep (cand c fx a b i j)) none with
      | none =>
        have := less_nil ks6 e3 k hmem
        rw [hc] at this
        cases this
      | some v =>
        refine ⟨v, er2.trans e3, ?_⟩
        have all : ∀ k ∈ ks6, ∀ w, cand c fx a b i j k = some w → v.1 ≤ w.1 := by
          rcases less_some ks6 none e3 with ⟨q, _⟩ | ⟨_, _, _, _, q⟩
          · cases q
          · exact q
        have := all k hmem _ hc
        rw [← Option.some.inj hk]
        show v.1 ≤ beadCost c a b k i j + w.1
        have : v.1 ≤ beadCost c a b k i j + w'.1 := this
        omega
theorem keeps_less (f : Fixed) (i j : Nat) (x : Bead) (h : keeps (fx ++ [f]) i j x = true) : keeps fx i j x = true := by
  unfold keeps at h ⊢
  rw [List.all_append, Bool.and_eq_true] at h
  exact h.1
/-- what is left is all that there is -/
theorem best_sum : ∀ (d i j : Nat) (r : Nat × List Nat), (a.length - i) + (b.length - j) ≤ d → best c fx a b i j = some r → i + sum1 (r.2.map bd) = a.length ∧ j + sum2 (r.2.map bd) = b.length := by
  intro d
  induction d with
  | zero =>
    intro i j r hd hr
    by_cases o : a.length < i ∨ b.length < j
    · rw [best_out c fx a b o] at hr
      cases hr
    · have e1 : i = a.length := by omega
      have e2 : j = b.length := by omega
      subst e1 e2
      rw [best_end] at hr
      cases hr
      exact ⟨rfl, rfl⟩
  | succ d ih =>
    intro i j r hd hr
    by_cases o : a.length < i ∨ b.length < j
    · rw [best_out c fx a b o] at hr
      cases hr
    by_cases ce : i = a.length ∧ j = b.length
    · obtain ⟨e1, e2⟩ := ce
      subst e1 e2
      rw [best_end] at hr
      cases hr
      exact ⟨rfl, rfl⟩
    rw [best_eq c fx a b (by omega) (by omega) ce] at hr
    have h2 : ks6.foldl (lessStep (cand c fx a b i j)) none = some r := by
      rw [← hr]
      exact foldl_congr _ _ fun m k _ => (wayStep_cand c fx a b i j m k).symm
    rcases less_some ks6 none h2 with ⟨q, _⟩ | ⟨k, hf, hk, _, _⟩
    · cases q
    have hmem : k ∈ ks6 := List.mem_of_find?_eq_some hf
    have hp := bd_pos hmem
    unfold cand at hk
    cases er : best c fx a b (i + (bd k).1) (j + (bd k).2) with
    | none =>
      rw [er] at hk
      cases hk
    | some w =>
      rw [er] at hk
      have hin : ¬ (a.length < i + (bd k).1 ∨ b.length < j + (bd k).2) := fun q => by
        rw [best_out c fx a b q] at er
        cases er
      have := ih _ _ w (by omega) er
      by_cases ck : Ut05.keeps fx i j (bd k) = false
      · simp only [if_pos ck] at hk
        cases hk
      simp only [if_neg ck] at hk
      rw [← Option.some.inj hk]
      have q1 : sum1 ((k :: w.2).map bd) = (bd k).1 + sum1 (w.2.map bd) := sumOf_c _ _
      have q2 : sum2 ((k :: w.2).map bd) = (bd k).2 + sum2 (w.2.map bd) := sumOf_c _ _
      show i + sum1 ((k :: w.2).map bd) = _ ∧ j + sum2 ((k :: w.2).map bd) = _
      omega
end
/-! ### pair -/
section
variable {g : House} {i j : Nat}
theorem pair_out (h : g.one.length ≤ i ∨ g.two.length ≤ j) : Ut05.step g (.pair i j) = (g, [-2]) := congrArg (Prod.mk g) (if_pos h)
theorem pair_none (h : ¬ (g.one.length ≤ i ∨ g.two.length ≤ j)) (h2 : best g.costs (g.fixed ++ [(i, j)]) g.one g.two 0 0 = none) : Ut05.step g (.pair i j) = (g, [-6]) := by
  refine congrArg (Prod.mk g) ((if_neg h).trans ?_)
  unfold withPair
  rw [least_best (g.costs) ((i, j) :: g.fixed), best_swap, h2]
  cases least g.costs g.fixed g.one g.two <;> rfl
theorem pair_some {r q : Nat × List Nat} (h : ¬ (g.one.length ≤ i ∨ g.two.length ≤ j)) (h1 : best g.costs g.fixed g.one g.two 0 0 = some r) (h2 : best g.costs (g.fixed ++ [(i, j)]) g.one g.two 0 0 = some q) :
    Ut05.step g (.pair i j) = (g, [(q.1 : Int), (q.1 : Int) - (r.1 : Int)]) := by
  obtain ⟨r', e1, e2⟩ := best_mono g.costs g.fixed (g.fixed ++ [(i, j)]) g.one g.two (keeps_less g.fixed (i, j)) _ 0 0 q (Nat.le_refl _) h2
  rw [h1] at e1
  cases e1
  refine congrArg (Prod.mk g) ((if_neg h).trans ?_)
  unfold withPair
  rw [least_best (g.costs) ((i, j) :: g.fixed), best_swap, h2, least_best, h1]
  show [((q.1 : Nat) : Int), ((q.1 - r.1 : Nat) : Int)] = _
  rw [Int.ofNat_sub e2]
theorem pair_least {q : Nat × List Nat} (h2 : best g.costs (g.fixed ++ [(i, j)]) g.one g.two 0 0 = some q) : ∃ r, best g.costs g.fixed g.one g.two 0 0 = some r := by
  obtain ⟨r', e1, _⟩ := best_mono g.costs g.fixed (g.fixed ++ [(i, j)]) g.one g.two (keeps_less g.fixed (i, j)) _ 0 0 q (Nat.le_refl _) h2
  exact ⟨r', e1⟩
end
/-! ### bead -/
/-- whether the k-th bead of a way has the sentence -/
def hasS (t : Nat) (x k i j : Nat) : Bool := if t = 1 then decide (x < j + (bd k).2) else decide (x < i + (bd k).1)
theorem bead_cons {t x k n i j : Nat} {ks : List Nat} : beadFrom (t == 1) x n i j ((k :: ks).map bd) = if hasS t x k i j = true then some [n, i, i + (bd k).1, j, j + (bd k).2] else beadFrom (t == 1) x (n + 1) (i + (bd k).1) (j + (bd k).2) (ks.map bd) := by
  unfold hasS
  by_cases h : t = 1
  · subst h
    show (if (if (1 == 1) = true then x < j + (bd k).2 else x < i + (bd k).1) then _ else _) = _
    by_cases q : x < j + (bd k).2
    · simp [q]
    · simp [q]
  · have e : (t == 1) = false := beq_eq_false_iff_ne.mpr h
    rw [e, if_neg h]
    show (if (if false = true then x < j + (bd k).2 else x < i + (bd k).1) then _ else _) = _
    by_cases q : x < i + (bd k).1
    · simp [q]
    · simp [q]
theorem bead_found {t x : Nat} : ∀ (ks : List Nat) (n i j : Nat), (if t = 1 then j ≤ x ∧ x < j + sum2 (ks.map bd) else i ≤ x ∧ x < i + sum1 (ks.map bd)) → ∃ r, beadFrom (t == 1) x n i j (ks.map bd) = some r
  | [], n, i, j, h => by
    have h1 : sum1 (([] : List Nat).map bd) = 0 := rfl
    have h2 : sum2 (([] : List Nat).map bd) = 0 := rfl
    rw [h1, h2] at h
    split at h <;> omega
  | k :: ks, n, i, j, h => by
    rw [bead_cons]
    by_cases q : hasS t x k i j = true
    · rw [if_pos q]
      exact ⟨_, rfl⟩
    · rw [if_neg q]
      refine bead_found ks _ _ _ ?_
      have q1 : sum1 ((k :: ks).map bd) = (bd k).1 + sum1 (ks.map bd) := sumOf_c _ _
      have q2 : sum2 ((k :: ks).map bd) = (bd k).2 + sum2 (ks.map bd) := sumOf_c _ _
      rw [q1, q2] at h
      unfold hasS at q
      by_cases e : t = 1
      · rw [if_pos e] at h q ⊢
        have := of_decide_eq_false (by simpa using q : decide (x < j + (bd k).2) = false)
        omega
      · rw [if_neg e] at h q ⊢
        have := of_decide_eq_false (by simpa using q : decide (x < i + (bd k).1) = false)
        omega
section
variable {g : House} {t x : Nat}
theorem bead_out (h : 1 < t ∨ (if t = 1 then g.two.length else g.one.length) ≤ x) : Ut05.step g (.bead t x) = (g, [-2]) := congrArg (Prod.mk g) (if_pos h)
theorem bead_none (h : ¬ (1 < t ∨ (if t = 1 then g.two.length else g.one.length) ≤ x)) (h1 : best g.costs g.fixed g.one g.two 0 0 = none) : Ut05.step g (.bead t x) = (g, [-6]) := by
  refine congrArg (Prod.mk g) ((if_neg h).trans ?_)
  rw [lay_best]
  unfold way
  rw [h1]
  rfl
theorem bead_some {r : Nat × List Nat} {l : List Nat} (h : ¬ (1 < t ∨ (if t = 1 then g.two.length else g.one.length) ≤ x)) (h1 : best g.costs g.fixed g.one g.two 0 0 = some r) (h2 : beadFrom (t == 1) x 0 0 0 (r.2.map bd) = some l) : Ut05.step g (.bead t x) = (g, Ut05.ints l) := by
  refine congrArg (Prod.mk g) ((if_neg h).trans ?_)
  rw [lay_best]
  unfold way
  rw [h1]
  show (match beadFrom (t == 1) x 0 0 0 (r.2.map bd) with
    | none => [-6]
    | some l => Ut05.ints l) = _
  rw [h2]
theorem bead_there {r : Nat × List Nat} (h : ¬ (1 < t ∨ (if t = 1 then g.two.length else g.one.length) ≤ x)) (h1 : best g.costs g.fixed g.one g.two 0 0 = some r) : ∃ l, beadFrom (t == 1) x 0 0 0 (r.2.map bd) = some l := by
  refine bead_found _ _ _ _ ?_
  have s := best_sum g.costs g.fixed g.one g.two _ 0 0 r (Nat.le_refl _) h1
  by_cases e : t = 1
  · rw [if_pos e] at h ⊢
    omega
  · rw [if_neg e] at h ⊢
    omega
end
end Sy

/-! put, take, shows: what each comes to. -/
namespace Sy
open Ut05
section
variable {g : House} {p : Nat} {s : Sent}
/-- the state behind put, behind take -/
def put1 (g : House) (p : Nat) (s : Sent) : House := ⟨g.costs, g.one.take p ++ s :: g.one.drop p, g.two, g.fixed.map fun f => (upAt p f.1, f.2)⟩
def put2 (g : House) (p : Nat) (s : Sent) : House := ⟨g.costs, g.one, g.two.take p ++ s :: g.two.drop p, g.fixed.map fun f => (f.1, upAt p f.2)⟩
def take1 (g : House) (p : Nat) : House := ⟨g.costs, g.one.take p ++ g.one.drop (p + 1), g.two, (g.fixed.filter fun f => f.1 != p).map fun f => (downAt p f.1, f.2)⟩
def take2 (g : House) (p : Nat) : House := ⟨g.costs, g.one, g.two.take p ++ g.two.drop (p + 1), (g.fixed.filter fun f => f.2 != p).map fun f => (f.1, downAt p f.2)⟩
theorem put_unfit1 (h : sentOk s = false ∨ g.one.length < p) : Ut05.step g (.put false p s) = (g, [-1]) := if_pos h
theorem put_unfit2 (h : sentOk s = false ∨ g.two.length < p) : Ut05.step g (.put true p s) = (g, [-1]) := if_pos h
theorem put_full1 (h : ¬ (sentOk s = false ∨ g.one.length < p)) (h2 : 14 ≤ g.one.length) : Ut05.step g (.put false p s) = (g, [-5]) := (if_neg h).trans (if_pos h2)
theorem put_full2 (h : ¬ (sentOk s = false ∨ g.two.length < p)) (h2 : 14 ≤ g.two.length) : Ut05.step g (.put true p s) = (g, [-5]) := (if_neg h).trans (if_pos h2)
theorem put_done1 (h : ¬ (sentOk s = false ∨ g.one.length < p)) (h2 : ¬ 14 ≤ g.one.length) : Ut05.step g (.put false p s) = (put1 g p s, told (put1 g p s)) := (if_neg h).trans (if_neg h2)
theorem put_done2 (h : ¬ (sentOk s = false ∨ g.two.length < p)) (h2 : ¬ 14 ≤ g.two.length) : Ut05.step g (.put true p s) = (put2 g p s, told (put2 g p s)) := (if_neg h).trans (if_neg h2)
theorem take_out1 (h : g.one.length ≤ p) : Ut05.step g (.take false p) = (g, [-2]) := if_pos h
theorem take_out2 (h : g.two.length ≤ p) : Ut05.step g (.take true p) = (g, [-2]) := if_pos h
theorem take_done1 (h : ¬ g.one.length ≤ p) : Ut05.step g (.take false p) = (take1 g p, told (take1 g p)) := if_neg h
theorem take_done2 (h : ¬ g.two.length ≤ p) : Ut05.step g (.take true p) = (take2 g p, told (take2 g p)) := if_neg h
theorem shows_is : Ut05.step g .shows = (g, casts (g.one.length :: g.two.length :: g.fixed.length :: rowB g.fixed)) := rfl
theorem put1_good (h : Good g) (qs : sentOk s = true) (hl : g.one.length < 14) : Good (put1 g p s) := good_put1 h qs hl
theorem put2_good (h : Good g) (qs : sentOk s = true) (hl : g.two.length < 14) : Good (put2 g p s) := good_put2 h qs hl
theorem take1_good (h : Good g) (hp : p < g.one.length) : Good (take1 g p) := good_take1 h hp
theorem take2_good (h : Good g) (hp : p < g.two.length) : Good (take2 g p) := good_take2 h hp
end
end Sy

namespace Sy
open PySem PySem.Spec PyProof.Rows L2
/-! moved, Yard.text_at -/
abbrev stMoved : Stmt := top 7
abbrev stTextAt : Stmt := inClass (top 3) 1
/-- the sentence of this side -/
def keyOf (t : Nat) (f : Nat × Nat) : Nat := if t = 0 then f.1 else f.2
def mvd (t p : Nat) (s : Int) (f : Nat × Nat) : Nat × Nat := if keyOf t f < p then f else if t = 0 then (((f.1 : Int) + s).toNat, f.2) else (f.1, ((f.2 : Int) + s).toNat)
def spMoved : Sp := fun vs H Q _ => ∃ (r : Addr) (f : Nat × Nat) (t p : Nat) (s : Int), vs = [.ref r, nv t, nv p, .int s] ∧ H r = some (.tup [nv f.1, nv f.2]) ∧ t < 2 ∧ (p ≤ keyOf t f → 0 ≤ (keyOf t f : Int) + s) ∧ ∀ H' v, Same H H' → PrAt H' v (mvd t p s f) → Q v H'
def spTextAt (A : Ads) : Sp := fun vs H Q _ => ∃ (y : Addr) (t : Nat) (dx : Addr) (c : Ut05.Costs) (ak a1 a2 af : Addr), vs = [.ref y, nv t] ∧ H y = some (.ins A.CY dx (yF c ak a1 a2 af)) ∧ Q (.ref (if t = 0 then a1 else a2)) H
section
variable {P : Program} {w : World} {K : PySem.W.Frag} {mg : Str → Option Value} {base : Heap} {A : Ads}
theorem scTextAt : FnScope ["self", "side"] ["self", "side"] (defScope stTextAt) := ⟨rfl, rfl, rfl, by decide +kernel, rfl, by decide +kernel, by decide +kernel⟩
theorem ok_textat {f : Addr} {fd : FuncData} (F : Fun K "text_at" "Yard.text_at" stTextAt f fd) (T : Txt K mg A) : FnOk P w K mg base CX0 1 f fd ["self", "side"] (spTextAt A) := by
  refine F.ok scTextAt (fun vs H Q E h => ?_) (fun cdv Ar outer s H vs Q E hr h => ⟨_, pss_cons (ps_if (pt_cmpR op_eq (pv 1) pe_int (nomark _)) (pss_one (ps_ret (pe_fld (pv 0) rfl))) pss_nil)
    (pss_one (ps_ret (pe_fld (pv 0) rfl))), ?_⟩)
  · obtain ⟨y, t, dx, c, ak, a1, a2, af, rfl, _⟩ := h
    rfl
  · obtain ⟨y, t, dx, c, ak, a1, a2, af, rfl, hy, q⟩ := h
    by_cases e : t = 0
    · subst e
      exact ⟨_, rfl, rfl, _, rfl, if_dec (fun _ => ⟨_, rfl, y, A.CY, dx, _, _, rfl, hy, T.clY, T.y1, yF_first .., q⟩) fun z => absurd rfl z⟩
    · rw [if_neg e] at q
      refine ⟨_, rfl, rfl, _, rfl, if_dec (fun z => ?_) fun _ => ⟨_, rfl, y, A.CY, dx, _, _, rfl, hy, T.clY, T.y2, yF_second .., q⟩⟩
      injection z with z
      exact absurd (Int.ofNat_inj.mp z) e
theorem scMoved : FnScope ["pair", "side", "place", "steps"] ["pair", "side", "place", "steps"] (defScope stMoved) := ⟨rfl, rfl, rfl, by decide +kernel, rfl, by decide +kernel, by decide +kernel⟩
theorem ok_moved {f : Addr} {fd : FuncData} (F : Fun K "moved" "moved" stMoved f fd) (T : Txt K mg A) : FnOk P w K mg base CX0 1 f fd ["pair", "side", "place", "steps"] spMoved := by
  refine F.ok scMoved (fun vs H Q E h => ?_) (fun cdv Ar outer s H vs Q E hr h => ⟨_, pss_cons (ps_if (pt_cmpR op_lt (pe_ix ix_tup (pv 0) (pv 1) (fun _ _ => rfl)) (pv 2) (nomark _)) (pss_one (ps_ret (pv 0))) pss_nil)
    (pss_cons (ps_if (pt_cmpR op_eq (pv 1) pe_int (nomark _)) (pss_one (ps_ret (pe_tup (pa_cons (pe_op op_add (pe_ix ix_tup (pv 0) pe_int (fun _ _ => rfl)) (pv 3)) (pa_cons (pe_ix ix_tup (pv 0) pe_int (fun _ _ => rfl)) pa_nil))))) pss_nil)
    (pss_one (ps_ret (pe_tup (pa_cons (pe_ix ix_tup (pv 0) pe_int (fun _ _ => rfl)) (pa_cons (pe_op op_add (pe_ix ix_tup (pv 0) pe_int (fun _ _ => rfl)) (pv 3)) pa_nil)))))), ?_⟩)
  · obtain ⟨r, f, t, p, s, rfl, _⟩ := h
    rfl
  · obtain ⟨r, f, t, p, s, rfl, hr', ht, hs, q⟩ := h
    have hq := SqT.of (K := K) hr'
    have e0 : atI [nv f.1, nv f.2] (t : Int) = some (nv (keyOf t f)) := by
      rcases (by omega : t = 0 ∨ t = 1) with e | e
      · subst e
        exact atI_nat (j := 0) rfl
      · subst e
        exact atI_nat (j := 1) rfl
    refine ⟨_, rfl, _, rfl, r, _, _, _, rfl, rfl, hq, e0, _, rfl, _, _, rfl, rfl, _, rfl, if_dec (fun c => ?_) fun c => ?_⟩
    · have lt : keyOf t f < p := by omega
      refine ⟨_, rfl, q H _ (Same.refl H) ⟨r, rfl, ?_⟩⟩
      unfold mvd
      rw [if_pos lt]
      exact hr'
    · have ge : p ≤ keyOf t f := by omega
      have hs := hs ge
      rcases (by omega : t = 0 ∨ t = 1) with e | e
      · subst e
        refine ⟨_, rfl, rfl, _, rfl, if_dec (fun _ => ?_) fun z => absurd rfl z⟩
        refine ⟨_, rfl, r, _, _, _, rfl, rfl, hq, atI_nat (j := 0) rfl, _, rfl, _, _, rfl, rfl, _, rfl, r, _, _, _, rfl, rfl, hq, atI_nat (j := 1) rfl, (by show 2 ≤ sizeLine; decide), fun p' np => ?_⟩
        refine q _ _ (Same.upd np) ⟨p', rfl, ?_⟩
        have e2 : (mvd 0 p s f) = (((f.1 : Int) + s).toNat, f.2) := by
          unfold mvd
          rw [if_neg (by omega), if_pos rfl]
        have e3 : ((((f.1 : Int) + s).toNat : Nat) : Int) = (f.1 : Int) + s := Int.toNat_of_nonneg hs
        rw [upd_same, e2]
        show some (HO.tup [.int ((f.1 : Int) + s), nv f.2]) = some (HO.tup [.int ((((f.1 : Int) + s).toNat : Nat) : Int), nv f.2])
        rw [e3]
      · subst e
        refine ⟨_, rfl, rfl, _, rfl, if_dec (fun z => absurd z (by intro z; injection z with z; exact absurd z (by decide))) fun _ => ?_⟩
        refine ⟨_, rfl, r, _, _, _, rfl, rfl, hq, atI_nat (j := 0) rfl, _, rfl, r, _, _, _, rfl, rfl, hq, atI_nat (j := 1) rfl, _, rfl, _, _, rfl, rfl, (by show 2 ≤ sizeLine; decide), fun p' np => ?_⟩
        refine q _ _ (Same.upd np) ⟨p', rfl, ?_⟩
        have e2 : (mvd 1 p s f) = (f.1, ((f.2 : Int) + s).toNat) := by
          unfold mvd
          rw [if_neg (by omega), if_neg (by decide)]
        have e3 : ((((f.2 : Int) + s).toNat : Nat) : Int) = (f.2 : Int) + s := Int.toNat_of_nonneg hs
        rw [upd_same, e2]
        show some (HO.tup [nv f.1, .int ((f.2 : Int) + s)]) = some (HO.tup [nv f.1, .int ((((f.2 : Int) + s).toNat : Nat) : Int)])
        rw [e3]
end
end Sy

/-! A list is made longer by a tuple; shown. -/
namespace Sy
open PySem PySem.Spec PyProof.Rows L2
theorem extend_tup (l : Addr) (items : Array Value) (n : Nat) (b : Addr) (od : Option Addr) (sl : Array (Option Value)) (items2 : Array Value) (n2 : Nat) (hs0 : ¬(!items.isEmpty && Builtin.List.listTooLong (items.size + items2.size)) = true) (hs1 : items.size ≤ sizeLine) (hs2 : items.size + items2.size ≤ sizeLine + 1) :
    Meets (Builtin.«list.extend» ⟨[.ref l, .ref b], []⟩) (fun _ R s => s.heap.get? l = some { cls := .type "list", dict := none, data := .seq items n, slots := #[] } ∧ s.heap.get? b = some { cls := .type "tuple", dict := od, data := .seq items2 n2, slots := sl } ∧ R (.ok (.ret Value.none)) { s with heap := s.heap.update l (Obj.mapSeq fun x => x ++ items2), toks := s.toks }) :=
  .of_wp fun prog w A R s h => by
    obtain ⟨hp, g, d, tk, os⟩ := s
    obtain ⟨hl, hb, h⟩ := h
    have f1 := AutoSeq1.idx_int
    have f2 := AutoSeq1.sub_tuple_tuple
    have f3 := AutoSeq1.sub_list_list
    have f4 := AutoSeq1.sub_tuple_list
    have f5 := AutoSeq1.sub_list_tuple
    have hz' : (items ++ items2).size ≤ sizeLine + 1 := by
      rw [Array.size_append]
      exact hs2
    wp_walk using (wpAny_updateSeq hl rfl (hz := hs1) (_hz' := hz')), AutoSeq1.wpAny_loadPart' hl, AutoSeq1.wpAny_loadPart' hb
    exact ⟨_, rfl, h⟩
def rExtendT (K : PySem.W.Frag) : V → List V → Hp → VK → Prop := fun x vs H Q => ∃ l b xs zs, x = .ref l ∧ vs = [.ref b] ∧ H l = some (.lst xs) ∧ SqT K H b zs ∧ xs.length + zs.length ≤ sizeLine ∧ Q .non (upd H l (.lst (xs ++ zs)))
theorem mt_extendT {X : Cx} : MtM X "list.extend" (rExtendT X.K) := by
  intro pins s σ H x vs v us Q I rx rv h
  obtain ⟨l, b, xs, zs, rfl, rfl, hH, hB, hz, q⟩ := h
  cases rx
  obtain ⟨u, rfl, ru⟩ := rv.one
  cases ru
  obtain ⟨z, its, n, r, hl, e⟩ := I.lstM hH
  obtain ⟨its2, r2, hp, _⟩ := I.tuple hB
  obtain ⟨⟨oc, od, odt, osl⟩, e2, hc, n2, hd⟩ := hp
  cases (show oc = .type "tuple" from hc)
  cases (show odt = .seq its2.toArray n2 from hd)
  have hl2 := r2.length
  have hsz : its.toArray.size + its2.toArray.size ≤ sizeLine := by rw [List.size_toArray, List.size_toArray]; omega
  have hlong : ¬ (!its.toArray.isEmpty && Builtin.List.listTooLong (its.toArray.size + its2.toArray.size)) = true := by
    rw [notLongL hsz, Bool.and_false]
    exact Bool.false_ne_true
  refine call_meets F.slot_list_extend ⟨_, e, rfl⟩ F.entry_list_extend (F.args_list_extend_2 _ _)
    (extend_tup l its.toArray n b od osl its2.toArray n2 hlong (by rw [List.size_toArray]; omega) (by omega)) ⟨e, e2, ?_⟩
  refine ⟨.non, _, I.lset (its' := its ++ its2) hH e (by simp) (r.append r2) ?_, rfl, q⟩
  rw [List.length_append]
  omega
abbrev stShown : Stmt := top 41
def spShown (A : Ads) : Sp := fun vs H Q _ => ∃ (y : Addr) (own : List Addr) (g : Ut05.House), vs = [.ref y] ∧ YardAt A H y own g ∧ Good g ∧ ∀ H' p, Same H H' → H p = none → H' p = some (.lst ((Ut05.step g .shows).2.map V.int)) → Q (.ref p) H'
theorem rowB_take {l : List (Nat × Nat)} {n : Nat} {f : Nat × Nat} (h : l[n]? = some f) : rowB (l.take (n + 1)) = rowB (l.take n) ++ [f.1, f.2] := by
  unfold rowB
  rw [take_more h, List.flatMap_append]
  simp
section
variable {P : Program} {w : World} {K : PySem.W.Frag} {mg : Str → Option Value} {base : Heap} {A : Ads}
theorem scShown : FnScope ["yard", "numbers", "pair"] ["yard"] (defScope stShown) := ⟨rfl, rfl, rfl, by decide +kernel, rfl, by decide +kernel, by decide +kernel⟩
theorem ok_shown {f : Addr} {fd : FuncData} (F : Fun K "shown" "shown" stShown f fd) (T : Txt K mg A) : FnOk P w K mg base CX0 1 f fd ["yard"] (spShown A) := by
  refine F.ok scShown (fun vs H Q E h => ?_) (fun cdv Ar outer s H vs Q E hr h => ⟨_, pss_cons (ps_set (i := 1) scShown.nd rfl (.inl rfl) (pe_lst (pa_cons (pe_callB call_len_seq (by rfl) T.len PySem.boot_len (pa_cons (by exact pe_fld (pv 0) rfl) pa_nil))
        (pa_cons (pe_callB call_len_seq (by rfl) T.len PySem.boot_len (pa_cons (by exact pe_fld (pv 0) rfl) pa_nil)) (pa_cons (pe_callB call_len_seq (by rfl) T.len PySem.boot_len (pa_cons (by exact pe_fld (pv 0) rfl) pa_nil)) pa_nil)))))
    (pss_cons (ps_for PassesOwn.never rfl (pi_list (pe_fld (pv 0) rfl)) (pg_name (i := 2) scShown.nd rfl (.inl rfl))
      (pss_one (ps_expr (pe_bm PySem.F.plainAttrs_list PySem.F.slot_list_extend PySem.F.type_list_extend mt_extendT (pv 1) (pa_cons (pv 2) pa_nil)))))
    (pss_one (ps_ret (pv 1)))), ?_⟩)
  · obtain ⟨y, own, g, rfl, _⟩ := h
    rfl
  · obtain ⟨y, own, g, rfl, hY, hG, q⟩ := h
    obtain ⟨dx, ak, a1, a2, af, _, hy, _, ⟨v1, h1, p1⟩, ⟨v2, h2, p2⟩, vf, hf, pf⟩ := id hY.ex
    have l1 := paired_len p1
    have l2 := paired_len p2
    have lf := paired_len pf
    have few := few_pairs hG.nodup (fun f hf => ⟨by have := (hG.fixed f hf).1; have := hG.one; omega, by have := (hG.fixed f hf).2; have := hG.two; omega⟩)
    refine ⟨_, rfl, y, A.CY, dx, _, _, rfl, hy, T.clY, T.y1, yF_first .., a1, _, rfl, .inl (SqL.of h1), _, rfl, y, A.CY, dx, _, _, rfl, hy, T.clY, T.y2, yF_second .., a2, _, rfl, .inl (SqL.of h2),
      _, rfl, y, A.CY, dx, _, _, rfl, hy, T.clY, T.yX, yF_fixed .., af, _, rfl, .inl (SqL.of hf), (by show 3 ≤ sizeLine; decide), fun p hp => ?_⟩
    have sm : ∀ o, Same H (upd H p o) := fun o => Same.upd hp
    have e0 : ([.int (v1.length : Nat), .int (v2.length : Nat), .int (vf.length : Nat)] : List V) = [nv g.one.length, nv g.two.length, nv g.fixed.length] := by
      rw [l1, l2, lf]
    rw [e0]
    refine ⟨_, rfl, y, A.CY, dx, _, _, rfl, sm _ _ _ hy, T.clY, T.yX, yF_fixed .., af, rfl, ⟨_, SqL.of (sm _ _ _ hf)⟩, for_list (xs := vf) (fun n σ H' => ∃ o2, σ = [some (.ref y), some (.ref p), o2] ∧ H' = upd H p (.lst ((g.one.length :: g.two.length :: g.fixed.length :: rowB (g.fixed.take n)).map nv))) ⟨_, rfl, rfl⟩
      (fun n σ H' _ ⟨_, _, e⟩ => by rw [e]; exact SqL.of (sm _ _ _ hf)) ?_ ?_⟩
    · rintro n v σ H' hv ⟨o2, rfl, rfl⟩
      obtain ⟨g', hg, r, rfl, hr⟩ := paired_at pf hv
      have hn : n < g.fixed.length := (List.getElem?_eq_some_iff.mp hg).1
      have rl := rowB_len (g.fixed.take n)
      rw [List.length_take] at rl
      refine ⟨_, rfl, .inl ⟨rfl, _, SqL.of upd_same⟩, _, rfl, p, r, _, _, rfl, rfl, upd_same, SqT.of (sm _ _ _ hr), ?_, _, rfl, ?_⟩
      · simp only [List.length_map, List.length_cons, List.length_nil]
        exact Nat.le_trans (by omega : _ ≤ 1000) (by decide : 1000 ≤ sizeLine)
      · rw [upd_upd, rowB_take hg]
        simp
    · rintro σ H' ⟨o2, rfl, rfl⟩
      rw [lf, List.take_length]
      refine ⟨_, rfl, q _ p (sm _) hp ?_⟩
      rw [upd_same, shows_is]
      unfold casts
      rw [List.map_map]
      rfl
end
end Sy

/-! try_pair -/
namespace Sy
open PySem PySem.Spec PyProof.Rows L2
abbrev stPair : Stmt := top 37
/-- a call that only tells -/
def Rep (A : Ads) (H : Hp) (r : List Int) (Q : VK) (E : XK) : Prop := ∀ H', Same H H' → (r = [-2] → E (.ref A.CN) none H') ∧ (r = [-6] → E (.ref A.CL) none H') ∧ ∀ p, H p = none → H' p = some (.lst (r.map V.int)) → Q (.ref p) H'
def spPair (A : Ads) : Sp := fun vs H Q E => ∃ (y : Addr) (own : List Addr) (g : Ut05.House) (i j : Nat), vs = [.ref y, nv i, nv j] ∧ YardAt A H y own g ∧ Good g ∧ Rep A H (Ut05.step g (.pair i j)).2 Q E
section
variable {P : Program} {w : World} {K : PySem.W.Frag} {mg : Str → Option Value} {base : Heap} {A : Ads}
theorem scPair : FnScope ["yard", "i", "j", "now", "then"] ["yard", "i", "j"] (defScope stPair) := ⟨rfl, rfl, rfl, by decide +kernel, rfl, by decide +kernel, by decide +kernel⟩
theorem ok_pair {f : Addr} {fd : FuncData} (F : Fun K "try_pair" "try_pair" stPair f fd) (T : Txt K mg A) (UR : Use P w K mg base (L2.CX P w) 1 "refuse_if_not_there" ["yard", "i", "j"] (spRint A)) (UL : Use P w K mg base (L2.CX P w) 5 "laying_told" ["yard", "fixed"] (spLT A)) :
    FnOk P w K mg base (L2.CX P w) 6 f fd ["yard", "i", "j"] (spPair A) := by
  refine F.okX scPair (fun vs H Q E h => ?_) (fun cdv Ar outer s H vs Q E hr h => ⟨_, pss_cons (ps_expr (pe_use UR (hr.mono (by decide)) rfl (passes_call (takes_of rfl rfl rfl rfl) (fun _ _ _ _ z => z)) (pa_cons (pv 0) (pa_cons (pv 1) (pa_cons (pv 2) pa_nil)))))
    (pss_cons (ps_set (i := 3) scPair.nd rfl (.inl rfl) (pe_ix ix_tup (pe_use UL hr rfl (passes_call (takes_of rfl rfl rfl rfl) (fun _ _ _ _ z => z)) (pa_cons (pv 0) (pa_cons (pe_fld (pv 0) rfl) pa_nil))) pe_int (fun _ _ => rfl)))
    (pss_cons (ps_set (i := 4) scPair.nd rfl (.inl rfl) (pe_ix ix_tup (pe_use UL hr rfl (passes_call (takes_of rfl rfl rfl rfl) (fun _ _ _ _ z => z)) (pa_cons (pv 0) (pa_cons (pe_op op_cat (pe_fld (pv 0) rfl) (pe_lst (pa_cons (pe_tup (pa_cons (pv 1) (pa_cons (pv 2) pa_nil))) pa_nil))) pa_nil))) pe_int (fun _ _ => rfl)))
    (pss_one (ps_ret (pe_lst (pa_cons (pv 4) (pa_cons (pe_op op_sub (pv 4) (pv 3)) pa_nil))))))), ?_⟩)
  · obtain ⟨y, own, g, i, j, rfl, _⟩ := h
    rfl
  · obtain ⟨y, own, g, i, j, rfl, hY, hG, q⟩ := h
    obtain ⟨dx, ak, a1, a2, af, _, hy, _, _, _, hF⟩ := id hY.ex
    obtain ⟨vf, hf, pf⟩ := id hF
    refine ⟨_, rfl, _, rfl, _, rfl, y, own, g, i, j, rfl, hY, fun c => ?_, fun hin => ?_⟩
    · rw [pair_out c] at q
      exact (q H (Same.refl H)).1 rfl
    refine ⟨_, rfl, _, rfl, y, A.CY, dx, _, _, rfl, hy, T.clY, T.yX, yF_fixed .., y, af, own, g, g.fixed, rfl, hY, hG, hF, fun eb H6 s6 => ?_, fun r eb H6 v s6 hw => ?_⟩
    · cases e2 : best g.costs (g.fixed ++ [(i, j)]) g.one g.two 0 0 with
      | none =>
        rw [pair_none hin e2] at q
        exact (q _ s6).2.1 rfl
      | some q2 =>
        obtain ⟨r, hr2⟩ := pair_least e2
        rw [eb] at hr2
        cases hr2
    obtain ⟨pr, lr, rfl, hpr, hlr⟩ := hw
    refine ⟨pr, _, _, _, rfl, rfl, SqT.of hpr, atI_nat (j := 0) rfl, ?_⟩
    refine ⟨_, rfl, _, rfl, y, A.CY, dx, _, _, rfl, s6 _ _ hy, T.clY, T.yX, yF_fixed .., _, rfl, _, rfl, (by show 2 ≤ sizeLine; decide), fun p3 n3 => ?_⟩
    have t3 := Same.upd (o := .tup [nv i, nv j]) n3
    refine ⟨(by show 1 ≤ sizeLine; decide), fun p4 n4 => ?_⟩
    have t4 := Same.upd (o := .lst [.ref p3]) n4
    have lenF := paired_len pf
    have few := few_pairs hG.nodup (fun f hf => ⟨by have := (hG.fixed f hf).1; have := hG.one; omega, by have := (hG.fixed f hf).2; have := hG.two; omega⟩)
    refine ⟨af, p4, vf, _, rfl, rfl, ((s6.trans t3).trans t4) _ _ hf, upd_same, ?_, fun p5 n5 => ?_⟩
    · exact Nat.le_trans (by show vf.length + 1 ≤ 1000; omega) (by decide : 1000 ≤ sizeLine)
    have t5 := Same.upd (o := .lst (vf ++ [.ref p3])) n5
    have s5 := ((s6.trans t3).trans t4).trans t5
    have hp3 := (t4.trans t5) _ _ (upd_same (a := p3) (o := .tup [nv i, nv j]) (H := H6))
    have hp5 : (upd (upd (upd H6 p3 (.tup [nv i, nv j])) p4 (.lst [.ref p3])) p5 (.lst (vf ++ [.ref p3]))) p5 = some (.lst (vf ++ [.ref p3])) := upd_same
    generalize upd (upd (upd H6 p3 (.tup [nv i, nv j])) p4 (.lst [.ref p3])) p5 (.lst (vf ++ [.ref p3])) = H5 at s5 hp3 hp5 ⊢
    have pf5 : Paired (PrAt H5) (vf ++ [.ref p3]) (g.fixed ++ [(i, j)]) := paired_append (PrsAt.but pf fun _ _ z => s5 _ _ z) (.cons ⟨p3, rfl, hp3⟩ .nil)
    refine ⟨y, p5, own, g, g.fixed ++ [(i, j)], rfl, hY.same s5, hG, ⟨_, hp5, pf5⟩, fun e2 H7 s7 => ?_, fun r2 e2 H7 v s7 hw => ?_⟩
    · rw [pair_none hin e2] at q
      exact (q _ (s5.trans s7)).2.1 rfl
    rw [pair_some hin eb e2] at q
    obtain ⟨pq, lq, rfl, hpq, hlq⟩ := hw
    refine ⟨pq, _, _, _, rfl, rfl, SqT.of hpq, atI_nat (j := 0) rfl, ?_⟩
    refine ⟨_, rfl, _, rfl, _, rfl, _, _, rfl, rfl, (by show 2 ≤ sizeLine; decide), fun p7 n7 => ?_⟩
    exact (q _ ((s5.trans s7).trans (Same.upd n7))).2.2 p7 ((s5.trans s7).free n7) upd_same
end
end Sy

/-! spans_of, bead_of -/
namespace Sy
open PySem PySem.Spec PyProof.Rows L2
abbrev stSpans : Stmt := top 10
abbrev stBead : Stmt := top 38
/-- from, to of the first text, of the second, bead by bead -/
def spansFrom : Nat → Nat → List Nat → List (List Nat)
  | _, _, [] => []
  | i, j, k :: ks => [i, i + (bd k).1, j, j + (bd k).2] :: spansFrom (i + (bd k).1) (j + (bd k).2) ks
theorem spans_len : ∀ (ks : List Nat) (i j : Nat), (spansFrom i j ks).length = ks.length
  | [], _, _ => rfl
  | k :: ks, i, j => congrArg (· + 1) (spans_len ks _ _)
theorem spans_more : ∀ (ks : List Nat) (k i j : Nat), spansFrom i j (ks ++ [k]) = spansFrom i j ks ++ [[i + sum1 (ks.map bd), i + sum1 (ks.map bd) + (bd k).1, j + sum2 (ks.map bd), j + sum2 (ks.map bd) + (bd k).2]]
  | [], _, _, _ => rfl
  | x :: ks, k, i, j => by
    have q1 : sum1 ((x :: ks).map bd) = (bd x).1 + sum1 (ks.map bd) := sumOf_c _ _
    have q2 : sum2 ((x :: ks).map bd) = (bd x).2 + sum2 (ks.map bd) := sumOf_c _ _
    show _ :: spansFrom _ _ (ks ++ [k]) = _ :: (spansFrom _ _ ks ++ _)
    rw [spans_more ks, q1, q2, Nat.add_assoc, Nat.add_assoc, Nat.add_assoc, Nat.add_assoc]
theorem sum1_more (ks : List Nat) (k : Nat) : sum1 ((ks ++ [k]).map bd) = sum1 (ks.map bd) + (bd k).1 := by
  induction ks with
  | nil =>
    have : sum1 (([] ++ [k]).map bd) = (bd k).1 + sum1 (([] : List Nat).map bd) := sumOf_c _ _
    rw [this]
    show _ + 0 = 0 + _
    omega
  | cons x ks ih =>
    have q1 : sum1 (((x :: ks) ++ [k]).map bd) = (bd x).1 + sum1 ((ks ++ [k]).map bd) := sumOf_c _ _
    have q2 : sum1 ((x :: ks).map bd) = (bd x).1 + sum1 (ks.map bd) := sumOf_c _ _
    omega
theorem sum2_more (ks : List Nat) (k : Nat) : sum2 ((ks ++ [k]).map bd) = sum2 (ks.map bd) + (bd k).2 := by
  induction ks with
  | nil =>
    have : sum2 (([] ++ [k]).map bd) = (bd k).2 + sum2 (([] : List Nat).map bd) := sumOf_c _ _
    rw [this]
    show _ + 0 = 0 + _
    omega
  | cons x ks ih =>
    have q1 : sum2 (((x :: ks) ++ [k]).map bd) = (bd x).2 + sum2 ((ks ++ [k]).map bd) := sumOf_c _ _
    have q2 : sum2 ((x :: ks).map bd) = (bd x).2 + sum2 (ks.map bd) := sumOf_c _ _
    omega
/-- a list of lists of numbers -/
def RowAt (H : Hp) (v : V) (l : List Nat) : Prop := ∃ r, v = .ref r ∧ H r = some (.lst (l.map nv))
def SpsAt (H : Hp) (p : Addr) (ls : List (List Nat)) : Prop := ∃ vs, H p = some (.lst vs) ∧ Paired (RowAt H) vs ls
theorem RowAt.keep {H H' : Hp} {v : V} {l : List Nat} (k : ∀ r, H r = some (.lst (l.map nv)) → H' r = some (.lst (l.map nv))) (h : RowAt H v l) : RowAt H' v l := by
  obtain ⟨r, h1, h2⟩ := h
  exact ⟨r, h1, k _ h2⟩
def spSpans : Sp := fun vs H Q _ => ∃ (a : Addr) (ks : List Nat), vs = [.ref a] ∧ H a = some (.lst (ks.map nv)) ∧ (∀ k ∈ ks, k ∈ ks6) ∧ ks.length ≤ 1000 ∧ ∀ H' p, Same H H' → SpsAt H' p (spansFrom 0 0 ks) → Q (.ref p) H'
def spBead (A : Ads) : Sp := fun vs H Q E => ∃ (y : Addr) (own : List Addr) (g : Ut05.House) (t x : Nat), vs = [.ref y, nv t, nv x] ∧ YardAt A H y own g ∧ Good g ∧ Rep A H (Ut05.step g (.bead t x)).2 Q E
section
variable {P : Program} {w : World} {K : PySem.W.Frag} {mg : Str → Option Value} {base : Heap} {A : Ads}
theorem scSpans : FnScope ["kinds", "spans", "i", "j", "kind", "behind_i", "behind_j"] ["kinds"] (defScope stSpans) := ⟨rfl, rfl, rfl, by decide +kernel, rfl, by decide +kernel, by decide +kernel⟩
theorem ok_spans {f : Addr} {fd : FuncData} (F : Fun K "spans_of" "spans_of" stSpans f fd) (T : Txt K mg A) : FnOk P w K mg base CX0 1 f fd ["kinds"] spSpans := by
  refine F.ok scSpans (fun vs H Q E h => ?_) (fun cdv Ar outer s H vs Q E hr h => ⟨_, pss_cons (ps_set (i := 1) scSpans.nd rfl (.inl rfl) (pe_lst pa_nil)) (pss_cons (ps_set (i := 2) scSpans.nd rfl (.inl rfl) pe_int) (pss_cons (ps_set (i := 3) scSpans.nd rfl (.inl rfl) pe_int)
    (pss_cons (ps_for PassesOwn.never rfl (pi_list (pv 0)) (pg_name (i := 4) scSpans.nd rfl (.inl rfl))
      (pss_cons (ps_set (i := 5) scSpans.nd rfl (.inl rfl) (pe_op op_add (pv 2) (pe_ix ix_tup (pe_ix ix_tup (pe_gref rfl T.gK) (pv 4) (fun _ _ => rfl)) pe_int (fun _ _ => rfl))))
      (pss_cons (ps_set (i := 6) scSpans.nd rfl (.inl rfl) (pe_op op_add (pv 3) (pe_ix ix_tup (pe_ix ix_tup (pe_gref rfl T.gK) (pv 4) (fun _ _ => rfl)) pe_int (fun _ _ => rfl))))
      (pss_cons (ps_expr (pe_bm PySem.F.plainAttrs_list PySem.F.slot_list_append PySem.F.type_list_append mt_append (pv 1) (pa_cons (pe_lst (pa_cons (pv 2) (pa_cons (pv 5) (pa_cons (pv 3) (pa_cons (pv 6) pa_nil))))) pa_nil)))
      (pss_cons (ps_set (i := 2) scSpans.nd rfl (.inl rfl) (pv 5))
      (pss_one (ps_set (i := 3) scSpans.nd rfl (.inl rfl) (pv 6))))))))
    (pss_one (ps_ret (pv 1)))))), ?_⟩)
  · obtain ⟨a, ks, rfl, _⟩ := h
    rfl
  · obtain ⟨a, ks, rfl, ha, hk, hl, q⟩ := h
    refine ⟨Nat.zero_le _, fun p hp => ?_⟩
    have nap : a ≠ p := fun z => by rw [z, hp] at ha; cases ha
    refine ⟨_, rfl, a, rfl, ⟨_, SqL.of (Same.upd hp _ _ ha)⟩, for_list (xs := ks.map nv) (fun n σ H' => Same H H' ∧ ∃ (o4 o5 o6 : Option V) (vs : List V), σ = [some (.ref a), some (.ref p), some (nv (sum1 ((ks.take n).map bd))), some (nv (sum2 ((ks.take n).map bd))), o4, o5, o6] ∧ H' p = some (.lst vs) ∧ vs.length = min n ks.length ∧
        Paired (fun v l => ∃ r, v = .ref r ∧ r ≠ p ∧ H' r = some (.lst (l.map nv))) vs (spansFrom 0 0 (ks.take n)))
      ⟨Same.upd hp, none, none, none, [], rfl, upd_same, (by simp), .nil⟩ (fun n σ H' _ ⟨sm, _⟩ => SqL.of (sm _ _ ha)) ?_ ?_⟩
    · rintro n v σ H' hv ⟨sm, o4, o5, o6, vs, rfl, hpv, lv, pv'⟩
      obtain ⟨k, hkn, rfl⟩ : ∃ k, ks[n]? = some k ∧ v = nv k := by
        rw [List.getElem?_map] at hv
        obtain ⟨x, h1, h2⟩ := Option.map_eq_some_iff.mp hv
        exact ⟨x, h1, h2.symm⟩
      have hm := hk k (List.mem_of_getElem? hkn)
      have hn : n < ks.length := (List.getElem?_eq_some_iff.mp hkn).1
      refine ⟨_, rfl, T.kind0 hm rfl ⟨_, _, rfl, rfl, ?_⟩⟩
      refine ⟨_, rfl, T.kind1 hm rfl ⟨_, _, rfl, rfl, ?_⟩⟩
      refine ⟨_, rfl, .inl ⟨rfl, _, SqL.of hpv⟩, _, rfl, _, rfl, _, rfl, _, rfl, (by show 4 ≤ sizeLine; decide), fun r nr => ?_⟩
      have tr := Same.upd (o := .lst ([nv (sum1 ((ks.take n).map bd)), V.int ((sum1 ((ks.take n).map bd) : Int) + ((bd k).1 : Int)), nv (sum2 ((ks.take n).map bd)), V.int ((sum2 ((ks.take n).map bd) : Int) + ((bd k).2 : Int))])) nr
      have ner : r ≠ p := fun z => by rw [z, hpv] at nr; cases nr
      refine ⟨p, vs, .ref r, rfl, rfl, tr _ _ hpv, small1000 (by omega), _, rfl, _, rfl, ⟨Same.free_upd hp (sm.trans tr), some (nv k), some (V.int ((sum1 ((ks.take n).map bd) : Int) + ((bd k).1 : Int))), some (V.int ((sum2 ((ks.take n).map bd) : Int) + ((bd k).2 : Int))), vs ++ [.ref r], ?_, upd_same, ?_, ?_⟩⟩
      · rw [take_more hkn, sum1_more, sum2_more]
        rfl
      · rw [List.length_append, lv, List.length_cons, List.length_nil]
        omega
      · rw [take_more hkn, spans_more, Nat.zero_add, Nat.zero_add]
        refine paired_append (Paired.mapP pv' fun v l z => ?_) (.cons ⟨r, rfl, ner, ?_⟩ .nil)
        · obtain ⟨r', z1, z2, z3⟩ := z
          exact ⟨r', z1, z2, by rw [upd_ne z2]; exact tr _ _ z3⟩
        · rw [upd_ne ner, upd_same]
          rfl
    · rintro σ H' ⟨sm, o4, o5, o6, vs, rfl, hpv, lv, pv'⟩
      rw [List.length_map, List.take_length] at pv'
      exact ⟨_, rfl, q _ p sm ⟨vs, hpv, Paired.mapP pv' fun v l z => by obtain ⟨r', z1, _, z3⟩ := z; exact ⟨r', z1, z3⟩⟩⟩
theorem drop_here {α : Type} : ∀ {l : List α} {n : Nat} {x : α} {r : List α}, l.drop n = x :: r → l[n]? = some x ∧ l.drop (n + 1) = r
  | [], n, _, _, h => by simp at h
  | a :: l, 0, x, r, h => by
    cases h
    exact ⟨rfl, rfl⟩
  | a :: l, n + 1, x, r, h => drop_here (l := l) (n := n) h
theorem scBead : FnScope ["yard", "side", "sentence", "spans", "which"] ["yard", "side", "sentence"] (defScope stBead) := ⟨rfl, rfl, rfl, by decide +kernel, rfl, by decide +kernel, by decide +kernel⟩
theorem ok_bead {f : Addr} {fd : FuncData} (F : Fun K "bead_of" "bead_of" stBead f fd) (T : Txt K mg A) (UA : UseM P w K mg base CX0 1 A.CY "text_at" ["self", "side"] (spTextAt A)) (US : Use P w K mg base CX0 1 "spans_of" ["kinds"] spSpans) (UL : Use P w K mg base (L2.CX P w) 5 "laying_told" ["yard", "fixed"] (spLT A)) :
    FnOk P w K mg base (L2.CX P w) 6 f fd ["yard", "side", "sentence"] (spBead A) := by
  refine F.okX scBead (fun vs H Q E h => ?_) (fun cdv Ar outer s H vs Q E hr h => ⟨_, pss_cons (ps_if (pw_or (pt_cmpR op_gt (pv 1) pe_int (nomark _))
        (pw_or1 (pt_cmpR op_ge (pv 2) (pe_callB call_len_seq (by rfl) T.len PySem.boot_len (pa_cons (by exact pe_useM (pv 0) T.clY UA (hr.mono (by decide)) pass0 (pa_cons (pv 1) pa_nil)) pa_nil)) (nomark _)))).pt
      (pss_one (ps_raise rfl (takes_of rfl rfl rfl rfl) (pmk_own0 PySem.F.excBase_Exception T.eN.x T.eN.g T.eN.k (raises_own T.eN.b T.eN.t) (by exact rfl)))) pss_nil)
    (pss_cons (ps_set (i := 3) scBead.nd rfl (.inl rfl) (pe_use US (hr.mono (by decide)) rfl pass0 (pa_cons (by exact pe_ix ix_tup (pe_use UL hr rfl (passes_call (takes_of rfl rfl rfl rfl) (fun _ _ _ _ z => z)) (pa_cons (pv 0) (pa_cons (pe_fld (pv 0) rfl) pa_nil))) pe_int (fun _ _ => rfl)) pa_nil)))
    (pss_cons (ps_set (i := 4) scBead.nd rfl (.inl rfl) pe_int)
    (pss_cons (ps_while (passes_of rfl) (pt_cmpR op_le (pe_ix ix_list (pe_ix ix_list (pv 3) (pv 4) (fun _ _ => rfl)) (pe_op op_add (pe_op op_mul pe_int (pv 1)) pe_int) (fun _ _ => rfl)) (pv 2) (nomark _))
      (pss_one (ps_set (i := 4) scBead.nd rfl (.inl rfl) (pe_op op_add (pv 4) pe_int))))
    (pss_one (ps_ret (pe_op op_cat (pe_lst (pa_cons (pv 4) pa_nil)) (pe_ix ix_list (pv 3) (pv 4) (fun _ _ => rfl)))))))), ?_⟩)
  · obtain ⟨y, own, g, t, x, rfl, _⟩ := h
    rfl
  · obtain ⟨y, own, g, t, x, rfl, hY, hG, q⟩ := h
    obtain ⟨dx, ak, a1, a2, af, _, hy, _, ⟨v1, h1, p1⟩, ⟨v2, h2, p2⟩, hF⟩ := id hY.ex
    have l1 := paired_len p1
    have l2 := paired_len p2
    refine ⟨_, rfl, _, _, rfl, rfl, _, rfl, if_dec (fun c => iteT ?_) fun c1 => ?_⟩
    · rw [bead_out (.inl (by omega))] at q
      exact (q H (Same.refl H)).1 rfl
    have t1 : t ≤ 1 := by omega
    obtain ⟨vt, ht, lt⟩ : ∃ vt, H (if t = 0 then a1 else a2) = some (.lst vt) ∧ vt.length = if t = 1 then g.two.length else g.one.length := by
      rcases (by omega : t = 0 ∨ t = 1) with e | e
      · subst e
        exact ⟨v1, h1, l1⟩
      · subst e
        exact ⟨v2, h2, l2⟩
    refine ⟨_, rfl, _, rfl, y, dx, _, rfl, hy, yF_no _ _ _ _ _ (by decide +kernel), _, rfl, y, t, dx, g.costs, ak, a1, a2, af, rfl, hy, _, _, rfl, .inl (SqL.of ht), _, _, rfl, rfl, _, rfl, if_dec (fun c => ?_) fun c2 => ?_⟩
    · rw [bead_out (.inr (by omega))] at q
      exact (q H (Same.refl H)).1 rfl
    have hin : ¬ (1 < t ∨ (if t = 1 then g.two.length else g.one.length) ≤ x) := by
      rw [← lt]
      omega
    refine ⟨_, rfl, _, rfl, y, A.CY, dx, _, _, rfl, hy, T.clY, T.yX, yF_fixed .., y, af, own, g, g.fixed, rfl, hY, hG, hF, fun eb H6 s6 => ?_, fun r eb H6 v s6 hw => ?_⟩
    · rw [bead_none hin eb] at q
      exact (q _ s6).2.1 rfl
    obtain ⟨pr, lr, rfl, hpr, hlr⟩ := hw
    have bl := best_len g.costs g.fixed g.one g.two _ 0 0 r (Nat.le_refl _) eb
    have g1 := hG.one
    have g2 := hG.two
    obtain ⟨l, hl⟩ := bead_there hin eb
    rw [bead_some hin eb hl] at q
    refine ⟨pr, _, _, _, rfl, rfl, SqT.of hpr, atI_nat (j := 1) rfl, lr, r.2, rfl, hlr, bl.2, by omega, fun H7 ps s7 hsp => ?_⟩
    obtain ⟨sv, hsv, psv⟩ := hsp
    have s67 := s6.trans s7
    refine while_by (fun σ H' => H' = H7 ∧ ∃ (n i j : Nat), σ = [some (.ref y), some (nv t), some (nv x), some (.ref ps), some (nv n)] ∧ n ≤ r.2.length ∧ Ut05.beadFrom (t == 1) x n i j ((r.2.drop n).map bd) = some l ∧ spansFrom i j (r.2.drop n) = (spansFrom 0 0 r.2).drop n)
      (fun σ _ => 2000 - slotN σ 4) ⟨rfl, 0, 0, 0, rfl, Nat.zero_le _, hl, rfl⟩ ?_ ?_
    · rintro σ H' ⟨rfl, n, i, j, rfl, hn, hb, hs⟩
      cases ed : r.2.drop n with
      | nil =>
        rw [ed] at hb
        cases hb
      | cons k rest =>
        rw [ed, bead_cons] at hb
        rw [ed] at hs
        have hs' : (spansFrom 0 0 r.2).drop n = [i, i + (bd k).1, j, j + (bd k).2] :: spansFrom (i + (bd k).1) (j + (bd k).2) rest := hs.symm
        obtain ⟨sn, sr⟩ := drop_here hs'
        obtain ⟨kn, kr⟩ := drop_here ed
        have hlt : n < r.2.length := (List.getElem?_eq_some_iff.mp kn).1
        obtain ⟨v, hv, rr, rfl, hrr⟩ := paired_at' psv sn
        have e0 : atI ([i, i + (bd k).1, j, j + (bd k).2].map nv) ((2 : Int) * (t : Int) + 1) = some (nv (if t = 1 then j + (bd k).2 else i + (bd k).1)) := by
          rcases (by omega : t = 0 ∨ t = 1) with e | e
          · subst e
            exact atI_nat (j := 1) rfl
          · subst e
            exact atI_nat (j := 3) rfl
        refine ⟨_, rfl, _, rfl, ps, _, _, _, rfl, rfl, SqL.of hsv, atI_nat hv, _, rfl, _, _, rfl, rfl, .inl ⟨by omega, by omega⟩, _, _, rfl, rfl, rr, _, _, _, rfl, rfl, SqL.of hrr, e0, _, rfl, _, _, rfl, rfl, _, rfl, if_dec (fun c => ?_) fun c => ?_⟩
        · have hno : hasS t x k i j = false := by
            unfold hasS
            by_cases e : t = 1
            · rw [if_pos e] at c ⊢
              exact decide_eq_false (by omega)
            · rw [if_neg e] at c ⊢
              exact decide_eq_false (by omega)
          rw [hno, if_neg Bool.false_ne_true] at hb
          refine ⟨_, rfl, _, _, rfl, rfl, ⟨rfl, n + 1, i + (bd k).1, j + (bd k).2, rfl, hlt, ?_, ?_⟩, ?_⟩
          · rw [kr]
            exact hb
          · rw [kr, sr]
          · show 2000 - ((n : Int) + 1).toNat < 2000 - ((n : Int)).toNat
            omega
        · have hyes : hasS t x k i j = true := by
            unfold hasS
            by_cases e : t = 1
            · rw [if_pos e] at c ⊢
              exact decide_eq_true (by omega)
            · rw [if_neg e] at c ⊢
              exact decide_eq_true (by omega)
          rw [hyes, if_pos rfl] at hb
          cases hb
          refine ⟨_, rfl, (by show 1 ≤ sizeLine; decide), fun p1 n1 => ?_⟩
          have tt1 := Same.upd (o := .lst [nv n]) n1
          refine ⟨_, rfl, _, rfl, ps, _, _, _, rfl, rfl, SqL.of (tt1 _ _ hsv), atI_nat hv, p1, rr, _, _, rfl, rfl, upd_same, tt1 _ _ hrr, (by show 5 ≤ sizeLine; decide), fun p3 n3 => ?_⟩
          exact (q _ ((s67.trans tt1).trans (Same.upd n3))).2.2 p3 ((s67.trans tt1).free n3) upd_same
    · rintro σ H' Q1 Q2 hq ⟨v3, h3, v4, h4, b1, b2, b3, b4, e1, e2, e3, e4, w1, w2, c1, c2, e5, e6, e7, d1, d2, e8, e9, f1, f2, f3, f4, e10, e11, e12, e13, x1, x2, i1, i2, e14, e15, k, e16, h9⟩
      exact ⟨v3, h3, v4, h4, b1, b2, b3, b4, e1, e2, e3, e4, w1, w2, c1, c2, e5, e6, e7, d1, d2, e8, e9, f1, f2, f3, f4, e10, e11, e12, e13, x1, x2, i1, i2, e14, e15, k, e16, hq _ _ h9⟩
end
end Sy

/-! Yard.put_in, Yard.take_out -/
namespace Sy
open PySem PySem.Spec PyProof.Rows L2
abbrev stPutIn : Stmt := inClass (top 3) 2
abbrev stTakeOut : Stmt := inClass (top 3) 3
/-- the state behind put, behind take, by the side -/
def putT (g : Ut05.House) (t p : Nat) (s : Ut05.Sent) : Ut05.House := if t = 0 then put1 g p s else put2 g p s
def takeT (g : Ut05.House) (t p : Nat) : Ut05.House := if t = 0 then take1 g p else take2 g p
def textT (g : Ut05.House) (t : Nat) : List Ut05.Sent := if t = 0 then g.one else g.two
theorem mvd0 (p : Nat) (s : Int) (f : Nat × Nat) : mvd 0 p s f = if f.1 < p then f else (((f.1 : Int) + s).toNat, f.2) := rfl
theorem mvd1 (p : Nat) (s : Int) (f : Nat × Nat) : mvd 1 p s f = if f.2 < p then f else (f.1, ((f.2 : Int) + s).toNat) := rfl
theorem mvd_up {p : Nat} (l : List (Nat × Nat)) : l.map (mvd 0 p 1) = l.map fun f => (Ut05.upAt p f.1, f.2) := List.map_congr_left fun f _ => by
  rw [mvd0]
  unfold Ut05.upAt
  by_cases c : f.1 < p
  · rw [if_pos c, if_neg (by omega)]
  · rw [if_neg c, if_pos (by omega)]
    refine Prod.ext ?_ rfl
    show ((f.1 : Int) + 1).toNat = f.1 + 1
    omega
theorem mvd_up2 {p : Nat} (l : List (Nat × Nat)) : l.map (mvd 1 p 1) = l.map fun f => (f.1, Ut05.upAt p f.2) := List.map_congr_left fun f _ => by
  rw [mvd1]
  unfold Ut05.upAt
  by_cases c : f.2 < p
  · rw [if_pos c, if_neg (by omega)]
  · rw [if_neg c, if_pos (by omega)]
    refine Prod.ext rfl ?_
    show ((f.2 : Int) + 1).toNat = f.2 + 1
    omega
theorem mvd_down {p : Nat} (l : List (Nat × Nat)) : (l.filter fun f => keyOf 0 f != p).map (mvd 0 p (-1)) = (l.filter fun f => f.1 != p).map fun f => (Ut05.downAt p f.1, f.2) := List.map_congr_left fun f hf => by
  have ne : f.1 ≠ p := by simpa [keyOf] using (List.mem_filter.mp hf).2
  rw [mvd0]
  unfold Ut05.downAt
  by_cases c : f.1 < p
  · rw [if_pos c, if_neg (by omega)]
  · rw [if_neg c, if_pos (by omega)]
    refine Prod.ext ?_ rfl
    show ((f.1 : Int) + -1).toNat = f.1 - 1
    omega
theorem mvd_down2 {p : Nat} (l : List (Nat × Nat)) : (l.filter fun f => keyOf 1 f != p).map (mvd 1 p (-1)) = (l.filter fun f => f.2 != p).map fun f => (f.1, Ut05.downAt p f.2) := List.map_congr_left fun f hf => by
  have ne : f.2 ≠ p := by simpa [keyOf] using (List.mem_filter.mp hf).2
  rw [mvd1]
  unfold Ut05.downAt
  by_cases c : f.2 < p
  · rw [if_pos c, if_neg (by omega)]
  · rw [if_neg c, if_pos (by omega)]
    refine Prod.ext rfl ?_
    show ((f.2 : Int) + -1).toNat = f.2 - 1
    omega
def spPutIn (A : Ads) : Sp := fun vs H Q _ => ∃ (y : Addr) (O N : Addr → Prop) (g : Ut05.House) (t p : Nat) (v : V) (s : Ut05.Sent), vs = [.ref y, nv t, nv p, v] ∧ t < 2 ∧ p ≤ 14 ∧ YardO A O H y g ∧ Good g ∧ SenO A.CS N H v s ∧ (∀ b, N b → ¬ O b) ∧
  ∀ H', YardO A (fun b => (O b ∨ N b) ∨ H b = none) H' y (putT g t p s) → Keep O H H' → Q .non H'
def spTakeOut (A : Ads) : Sp := fun vs H Q _ => ∃ (y : Addr) (O : Addr → Prop) (g : Ut05.House) (t p : Nat), vs = [.ref y, nv t, nv p] ∧ t < 2 ∧ p < (textT g t).length ∧ YardO A O H y g ∧ Good g ∧
  ∀ H', YardO A (fun b => O b ∨ H b = none) H' y (takeT g t p) → Keep O H H' → Q .non H'
/-- one text anew, the pairs in a new list -/
theorem yard_text {A : Ads} {O O' : Addr → Prop} {H H8 : Hp} {y : Addr} {g g' : Ut05.House} {t : Nat} {dx ak a1 a2 af D : Addr} {vn : List V} (ht : t < 2) (hX : YardX A O H y g dx ak a1 a2 af) (hO : ∀ b, O b → O' b) (oD : O' D) (far : ∀ b o, H b = some o → b ≠ D)
    (kp : ∀ b o, Part o → b ≠ (if t = 0 then a1 else a2) → H b = some o → H8 b = some o) (h8 : H8 y = some (.ins A.CY dx (yF g.costs ak a1 a2 D))) (hat : H8 (if t = 0 then a1 else a2) = some (.lst vn))
    (pn : Paired (SenO A.CS (fun b => O' b ∧ Apart3 a1 a2 D b) H8) vn (textT g' t)) (hc : g'.costs = g.costs) (ho : textT g' (1 - t) = textT g (1 - t)) (fx : PrsAt H8 D g'.fixed) : YardO A O' H8 y g' := by
  obtain ⟨v1, h1, _⟩ := hX.t1
  obtain ⟨v2, h2, _⟩ := hX.t2
  rcases (by omega : t = 0 ∨ t = 1) with e | e
  · subst e
    refine ⟨dx, ak, a1, a2, D, hO _ hX.oy, hO _ hX.ok, hO _ hX.o1, hO _ hX.o2, oD, ⟨hX.nk.1, hX.nk.2.1, far _ _ hX.hk⟩, hX.n12, far _ _ h1, far _ _ h2, ?_, ?_, ⟨vn, hat, pn⟩, ?_, fx⟩
    · rw [hc]
      exact h8
    · rw [hc]
      exact kp _ _ (.inl ⟨_, rfl⟩) hX.nk.1 hX.hk
    · rw [show g'.two = g.two from ho]
      exact hX.t2.parts (fun b o ob po e => ⟨⟨hO _ ob.1, ob.2.1, ob.2.2.1, far _ _ e⟩, kp b o po ob.2.1 e⟩) fun vs e => kp _ _ (.inl ⟨_, rfl⟩) (Ne.symm hX.n12) e
  · subst e
    refine ⟨dx, ak, a1, a2, D, hO _ hX.oy, hO _ hX.ok, hO _ hX.o1, hO _ hX.o2, oD, ⟨hX.nk.1, hX.nk.2.1, far _ _ hX.hk⟩, hX.n12, far _ _ h1, far _ _ h2, ?_, ?_, ?_, ⟨vn, hat, pn⟩, fx⟩
    · rw [hc]
      exact h8
    · rw [hc]
      exact kp _ _ (.inl ⟨_, rfl⟩) hX.nk.2.1 hX.hk
    · rw [show g'.one = g.one from ho]
      exact hX.t1.parts (fun b o ob po e => ⟨⟨hO _ ob.1, ob.2.1, ob.2.2.1, far _ _ e⟩, kp b o po ob.2.2.1 e⟩) fun vs e => kp _ _ (.inl ⟨_, rfl⟩) hX.n12 e
/-- the text of this side, as it lies -/
theorem text_at {A : Ads} {O : Addr → Prop} {H : Hp} {y : Addr} {g : Ut05.House} {t : Nat} {dx ak a1 a2 af : Addr} (ht : t < 2) (hX : YardX A O H y g dx ak a1 a2 af) : O (if t = 0 then a1 else a2) ∧ (if t = 0 then a1 else a2) ≠ af ∧ (∀ b, Apart3 a1 a2 af b → b ≠ (if t = 0 then a1 else a2)) ∧
    ∃ vt, H (if t = 0 then a1 else a2) = some (.lst vt) ∧ Paired (SenO A.CS (fun b => O b ∧ Apart3 a1 a2 af b) H) vt (textT g t) := by
  rcases (by omega : t = 0 ∨ t = 1) with e | e
  · subst e
    exact ⟨hX.o1, hX.n1f, fun b h => h.1, hX.t1⟩
  · subst e
    exact ⟨hX.o2, hX.n2f, fun b h => h.2.1, hX.t2⟩
theorem textT_put {g : Ut05.House} {t p : Nat} {s : Ut05.Sent} (ht : t < 2) : textT (putT g t p s) t = (textT g t).take p ++ [s] ++ (textT g t).drop p ∧ (putT g t p s).costs = g.costs ∧ textT (putT g t p s) (1 - t) = textT g (1 - t) ∧ (putT g t p s).fixed = g.fixed.map (mvd t p 1) := by
  rcases (by omega : t = 0 ∨ t = 1) with e | e
  · subst e
    exact ⟨by show g.one.take p ++ s :: g.one.drop p = g.one.take p ++ [s] ++ g.one.drop p; simp, rfl, rfl, (mvd_up g.fixed).symm⟩
  · subst e
    exact ⟨by show g.two.take p ++ s :: g.two.drop p = g.two.take p ++ [s] ++ g.two.drop p; simp, rfl, rfl, (mvd_up2 g.fixed).symm⟩
theorem textT_take {g : Ut05.House} {t p : Nat} (ht : t < 2) : textT (takeT g t p) t = (textT g t).eraseIdx p ∧ (takeT g t p).costs = g.costs ∧ textT (takeT g t p) (1 - t) = textT g (1 - t) ∧ (takeT g t p).fixed = (g.fixed.filter fun f => keyOf t f != p).map (mvd t p (-1)) := by
  rcases (by omega : t = 0 ∨ t = 1) with e | e
  · subst e
    exact ⟨(List.eraseIdx_eq_take_drop_succ ..).symm, rfl, rfl, (mvd_down g.fixed).symm⟩
  · subst e
    exact ⟨(List.eraseIdx_eq_take_drop_succ ..).symm, rfl, rfl, (mvd_down2 g.fixed).symm⟩
theorem ixN_nat {n j : Nat} (h : j < n) : seqIndex? (j : Int) n = some j := by
  have e : ixN n (j : Int) = some j := by
    unfold ixN
    rw [if_pos (by omega), if_pos (by omega)]
    simp
  exact (ixN_seq e).1
section
variable {P : Program} {w : World} {K : PySem.W.Frag} {mg : Str → Option Value} {base : Heap} {A : Ads}
theorem scPutIn : FnScope ["self", "side", "place", "sentence", "pair"] ["self", "side", "place", "sentence"] (defScope stPutIn) := ⟨rfl, rfl, rfl, by decide +kernel, rfl, by decide +kernel, by decide +kernel⟩
theorem ok_putin {f : Addr} {fd : FuncData} (F : Fun K "put_in" "Yard.put_in" stPutIn f fd) (T : Txt K mg A) (UA : UseM P w K mg base CX0 1 A.CY "text_at" ["self", "side"] (spTextAt A)) (UM : Use P w K mg base CX0 1 "moved" ["pair", "side", "place", "steps"] spMoved) :
    FnOk P w K mg base CX0 2 f fd ["self", "side", "place", "sentence"] (spPutIn A) := by
  refine F.ok scPutIn (fun vs H Q E h => ?_) (fun cdv Ar outer s H vs Q E hr h => ⟨_, pss_cons (ps_expr (pe_bm PySem.F.plainAttrs_list PySem.F.slot_list_insert PySem.F.type_list_insert mt_insert (by exact pe_useM (pv 0) T.clY UA (hr.mono (by decide)) pass0 (pa_cons (pv 1) pa_nil)) (pa_cons (pv 2) (pa_cons (pv 3) pa_nil))))
    (pss_one (ps_fld (pv 0) (pe_lc (own := [("pair", 4)]) (g := gName 4) (tt := tYes) (te := tUse spMoved (fun _ _ _ => False) (tCons (tVar 4) (tCons (tVar 1) (tCons (tVar 2) (tCons (tC (.int 1)) tNil))))) rfl scPutIn.nd (pi_list (pe_fld (pv 0) rfl)) (blkOk_by (N := ["self", "side", "place", "sentence", "pair"]) (sc := defScope stPutIn) (own := [("pair", 4)]) (by decide +kernel)) (fun _ _ _ _ _ => pg_name (i := 4) scPutIn.nd rfl (Or.inl rfl)) (fun _ _ _ _ _ => pts_nil)
      (fun _ _ _ _ _ => by exact pe_use UM (hr.mono (by decide)) rfl pass0 (pa_cons (pv 4) (pa_cons (pv 1) (pa_cons (pv 2) (pa_cons pe_int pa_nil)))))) rfl)), ?_⟩)
  · obtain ⟨y, O, N, g, t, p, v, s, rfl, _⟩ := h
    rfl
  · obtain ⟨y, O, N, g, t, p, v, s, rfl, ht, hp, hY, hG, hv, hN, q⟩ := h
    obtain ⟨dx, ak, a1, a2, af, hX⟩ := id hY
    have hy := hX.hy
    obtain ⟨vf, hf, pf⟩ := hX.fx
    have lf := paired_len pf
    have few := few_pairs hG.nodup (fun f hf => ⟨by have := (hG.fixed f hf).1; have := hG.one; omega, by have := (hG.fixed f hf).2; have := hG.two; omega⟩)
    obtain ⟨oat, naf, nat, vt, hvt, pt⟩ := text_at ht hX
    obtain ⟨w1, w2, w3, w4⟩ := textT_put (g := g) (p := p) (s := s) ht
    have lt := paired_len pt
    have l14 : (textT g t).length ≤ 14 := by
      unfold textT
      split
      · exact hG.one
      · exact hG.two
    refine ⟨_, rfl, y, dx, _, rfl, hy, yF_no _ _ _ _ _ (by decide +kernel), _, rfl, y, t, dx, g.costs, ak, a1, a2, af, rfl, hy, .inl ⟨rfl, _, SqL.of hvt⟩, _, rfl, _, rfl, _, vt, p, v, rfl, rfl, hvt, small1000 (by omega), by omega, by omega, ?_⟩
    rw [Int.toNat_natCast]
    obtain ⟨at_, eat⟩ : ∃ a, a = if t = 0 then a1 else a2 := ⟨_, rfl⟩
    rw [← eat] at oat naf nat hvt ⊢
    have nay : at_ ≠ y := ne_of hvt hy (fun z => nomatch z)
    have kb : ∀ b o, b ≠ at_ → H b = some o → (upd H at_ (.lst (vt.take p ++ [v] ++ vt.drop p))) b = some o := fun b o ne e => by
      rw [upd_ne ne]
      exact e
    have hb : (upd H at_ (.lst (vt.take p ++ [v] ++ vt.drop p))) at_ = some (.lst (vt.take p ++ [v] ++ vt.drop p)) := upd_same
    have nb : ∀ b, (upd H at_ (.lst (vt.take p ++ [v] ++ vt.drop p))) b = none → b ≠ at_ ∧ H b = none := fun b e => by
      have ne : b ≠ at_ := fun z => by rw [z, hb] at e; cases e
      rw [upd_ne ne] at e
      exact ⟨ne, e⟩
    generalize upd H at_ (.lst (vt.take p ++ [v] ++ vt.drop p)) = Hb at kb hb nb ⊢
    have hfb := kb _ _ (Ne.symm naf) hf
    have hyb := kb _ _ (Ne.symm nay) hy
    refine ⟨_, rfl, y, A.CY, dx, _, _, rfl, hyb, T.clY, T.yX, yF_fixed .., af, rfl, ⟨_, SqL.of hfb⟩, fun D hD => lc_list (xs := vf) (fun n H' => Same Hb H' ∧ ∃ acc, H' D = some (.lst acc) ∧ Paired (PrAt H') acc ((g.fixed.take n).map (mvd t p 1))) ⟨Same.upd hD, [], upd_same, .nil⟩ (fun n H' _ ⟨sm, _⟩ => SqL.of (sm _ _ hfb)) ?_ ?_⟩
    · rintro n v' H' hv' ⟨sm, acc, hacc, pacc⟩
      obtain ⟨fg, hfg, r, rfl, hr⟩ := paired_at pf hv'
      have hn : n < g.fixed.length := (List.getElem?_eq_some_iff.mp hfg).1
      have hrb : H' r = some (.tup [nv fg.1, nv fg.2]) := sm _ _ (kb _ _ (ne_of hr hvt (fun z => nomatch z)) hr)
      refine ⟨rfl, _, rfl, _, rfl, _, rfl, r, fg, t, p, 1, rfl, hrb, ht, fun _ => by omega, fun H2 v2 s2 hp2 => ⟨acc, s2 _ _ hacc, ?_, Same.free_upd hD (sm.trans s2), acc ++ [v2], upd_same, ?_⟩⟩
      · have := paired_len pacc
        rw [List.length_map, List.length_take] at this
        exact small1000 (by omega)
      · rw [take_more hfg, List.map_append]
        have up : ∀ {v f}, PrAt H2 v f → PrAt (upd H2 D (.lst (acc ++ [v2]))) v f := fun {v f} z => by
          obtain ⟨r', z1, z2⟩ := z
          exact ⟨r', z1, by rw [upd_ne (ne_of z2 (s2 _ _ hacc) (fun z => nomatch z))]; exact z2⟩
        exact paired_append (Paired.mapP pacc fun _ _ z => up (z.same s2)) (.cons (up hp2) .nil)
    · rintro H' ⟨sm, acc, hacc, pacc⟩
      rw [lf, List.take_length] at pacc
      refine ⟨_, rfl, y, A.CY, dx, _, rfl, sm _ _ hyb, T.clY, T.yX, (by show 7 < 1000; decide), ?_⟩
      rw [put_fixed]
      have hH : ∀ b o, b ≠ y → b ≠ at_ → H b = some o → (upd H' y (.ins A.CY dx (yF g.costs ak a1 a2 D))) b = some o := fun b o n1 n2 e => by
        rw [upd_ne n1]
        exact sm _ _ (kb _ _ n2 e)
      have kp : ∀ b o, Part o → b ≠ at_ → H b = some o → (upd H' y (.ins A.CY dx (yF g.costs ak a1 a2 D))) b = some o := fun b o po ne e => hH b o (ne_of e hy po.ne) ne e
      have far : ∀ b o, H b = some o → b ≠ D := fun b o e z => by
        rw [z, (nb _ hD).2] at e
        cases e
      refine q _ (yard_text (O' := fun b => (O b ∨ N b) ∨ H b = none) ht hX (fun b o => .inl (.inl o)) (.inr (nb _ hD).2) far (by rw [← eat]; exact kp) upd_same (vn := vt.take p ++ [v] ++ vt.drop p) (by rw [← eat, upd_ne nay]; exact sm _ _ hb) ?_ w2 w3 ?_) ?_
      · rw [w1]
        have old : ∀ {v s}, SenO A.CS (fun b => O b ∧ Apart3 a1 a2 af b) H v s → SenO A.CS (fun b => ((O b ∨ N b) ∨ H b = none) ∧ Apart3 a1 a2 D b) (upd H' y (.ins A.CY dx (yF g.costs ak a1 a2 D))) v s := fun z =>
          z.parts fun b o ob po e => ⟨⟨.inl (.inl ob.1), ob.2.1, ob.2.2.1, far _ _ e⟩, kp b o po (nat b ob.2) e⟩
        have nwv : SenO A.CS (fun b => ((O b ∨ N b) ∨ H b = none) ∧ Apart3 a1 a2 D b) (upd H' y (.ins A.CY dx (yF g.costs ak a1 a2 D))) v s :=
          hv.parts fun b o ob po e => ⟨⟨.inl (.inr ob), fun z => hN b ob (by rw [z]; exact hX.o1), fun z => hN b ob (by rw [z]; exact hX.o2), far _ _ e⟩, kp b o po (fun z => hN b ob (by rw [z]; exact oat)) e⟩
        have po := Paired.mapP pt fun _ _ z => old z
        exact paired_append (paired_append (paired_take p po) (.cons nwv .nil)) (paired_drop p po)
      · rw [w4]
        have yD : D ≠ y := fun z => far _ _ hy z.symm
        refine ⟨acc, by rw [upd_ne yD]; exact hacc, PrsAt.but pacc fun b xs e => ?_⟩
        rw [upd_ne (ne_of e (sm _ _ hyb) (fun z => nomatch z))]
        exact e
      · intro b o e no
        exact hH b o (fun z => no (by rw [z]; exact hX.oy)) (fun z => no (by rw [z]; exact oat)) e
theorem scTakeOut : FnScope ["self", "side", "place", "others", "pair"] ["self", "side", "place"] (defScope stTakeOut) := ⟨rfl, rfl, rfl, by decide +kernel, rfl, by decide +kernel, by decide +kernel⟩
theorem ok_takeout {f : Addr} {fd : FuncData} (F : Fun K "take_out" "Yard.take_out" stTakeOut f fd) (T : Txt K mg A) (UA : UseM P w K mg base CX0 1 A.CY "text_at" ["self", "side"] (spTextAt A)) (UM : Use P w K mg base CX0 1 "moved" ["pair", "side", "place", "steps"] spMoved) :
    FnOk P w K mg base CX0 2 f fd ["self", "side", "place"] (spTakeOut A) := by
  refine F.ok scTakeOut (fun vs H Q E h => ?_) (fun cdv Ar outer s H vs Q E hr h => ⟨_, pss_cons (ps_expr (pe_bm PySem.F.plainAttrs_list PySem.F.slot_list_pop PySem.F.type_list_pop mt_popAt (by exact pe_useM (pv 0) T.clY UA (hr.mono (by decide)) pass0 (pa_cons (pv 1) pa_nil)) (pa_cons (pv 2) pa_nil)))
    (pss_cons (ps_setLc (i := 3) (own := [("pair", 4)]) (g := gName 4) (tt := tTest (tOp rNe (tOp (rIxT K) (tVar 4) (tVar 1)) (tVar 2))) (te := tVar 4) rfl scTakeOut.nd rfl rfl (sw_true rfl rfl rfl (by decide +kernel)) (pi_list (pe_fld (pv 0) rfl)) (blkOk_by (N := ["self", "side", "place", "others", "pair"]) (sc := defScope stTakeOut) (own := [("pair", 4)]) (by decide +kernel)) (fun _ _ _ _ _ => pg_name (i := 4) scTakeOut.nd rfl (Or.inl rfl))
      (fun _ _ _ _ _ => pts_one (by exact pt_cmpR op_ne (pe_ix ix_tup (pv 4) (pv 1) (fun _ _ => rfl)) (pv 2) (nomark _))) (fun _ _ _ _ _ => by exact pv 4))
    (pss_one (ps_fld (pv 0) (pe_lc (own := [("pair", 4)]) (g := gName 4) (tt := tYes) (te := tUse spMoved (fun _ _ _ => False) (tCons (tVar 4) (tCons (tVar 1) (tCons (tVar 2) (tCons (tUn (rU fun i => V.int (-i)) (tC (V.int 1))) tNil))))) rfl scTakeOut.nd (pi_list (pv 3)) (blkOk_by (N := ["self", "side", "place", "others", "pair"]) (sc := defScope stTakeOut) (own := [("pair", 4)]) (by decide +kernel)) (fun _ _ _ _ _ => pg_name (i := 4) scTakeOut.nd rfl (Or.inl rfl)) (fun _ _ _ _ _ => pts_nil)
      (fun _ _ _ _ _ => by exact pe_use UM (hr.mono (by decide)) rfl pass0 (pa_cons (pv 4) (pa_cons (pv 1) (pa_cons (pv 2) (pa_cons (pe_un un_neg pe_int) pa_nil)))))) rfl))), ?_⟩)
  · obtain ⟨y, O, g, t, p, rfl, _⟩ := h
    rfl
  · obtain ⟨y, O, g, t, p, rfl, ht, hp, hY, hG, q⟩ := h
    obtain ⟨dx, ak, a1, a2, af, hX⟩ := id hY
    have hy := hX.hy
    obtain ⟨vf, hf, pf⟩ := hX.fx
    have lf := paired_len pf
    have few := few_pairs hG.nodup (fun f hf => ⟨by have := (hG.fixed f hf).1; have := hG.one; omega, by have := (hG.fixed f hf).2; have := hG.two; omega⟩)
    obtain ⟨oat, naf, nat, vt, hvt, pt⟩ := text_at ht hX
    obtain ⟨w1, w2, w3, w4⟩ := textT_take (g := g) (p := p) ht
    have lt := paired_len pt
    have l14 : (textT g t).length ≤ 14 := by
      unfold textT
      split
      · exact hG.one
      · exact hG.two
    have hpv : vt[p]? = some vt[p] := List.getElem?_eq_getElem (by omega)
    refine ⟨_, rfl, y, dx, _, rfl, hy, yF_no _ _ _ _ _ (by decide +kernel), _, rfl, y, t, dx, g.costs, ak, a1, a2, af, rfl, hy, .inl ⟨rfl, _, SqL.of hvt⟩, _, rfl, _, vt, p, p, _, rfl, rfl, hvt, by omega, by omega, ixN_nat (by omega), hpv, ?_⟩
    obtain ⟨at_, eat⟩ : ∃ a, a = if t = 0 then a1 else a2 := ⟨_, rfl⟩
    rw [← eat] at oat naf nat hvt ⊢
    have nay : at_ ≠ y := ne_of hvt hy (fun z => nomatch z)
    have kb : ∀ b o, b ≠ at_ → H b = some o → (upd H at_ (.lst (vt.eraseIdx p))) b = some o := fun b o ne e => by
      rw [upd_ne ne]
      exact e
    have hb : (upd H at_ (.lst (vt.eraseIdx p))) at_ = some (.lst (vt.eraseIdx p)) := upd_same
    have nb : ∀ b, (upd H at_ (.lst (vt.eraseIdx p))) b = none → b ≠ at_ ∧ H b = none := fun b e => by
      have ne : b ≠ at_ := fun z => by rw [z, hb] at e; cases e
      rw [upd_ne ne] at e
      exact ⟨ne, e⟩
    generalize upd H at_ (.lst (vt.eraseIdx p)) = Hb at kb hb nb ⊢
    have hfb := kb _ _ (Ne.symm naf) hf
    have hyb := kb _ _ (Ne.symm nay) hy
    have e0 : ∀ f : Nat × Nat, atI [nv f.1, nv f.2] (t : Int) = some (nv (keyOf t f)) := fun f => by
      rcases (by omega : t = 0 ∨ t = 1) with e | e
      · subst e
        exact atI_nat (j := 0) rfl
      · subst e
        exact atI_nat (j := 1) rfl
    refine ⟨_, rfl, y, A.CY, dx, _, _, rfl, hyb, T.clY, T.yX, yF_fixed .., af, rfl, ⟨_, SqL.of hfb⟩, fun D0 hD0 => lc_list (xs := vf) (fun n H' => Same Hb H' ∧ ∃ acc, H' D0 = some (.lst acc) ∧ Paired (PrAt H') acc ((g.fixed.take n).filter fun f => keyOf t f != p)) ⟨Same.upd hD0, [], upd_same, .nil⟩ (fun n H' _ ⟨sm, _⟩ => SqL.of (sm _ _ hfb)) ?_ ?_⟩
    · rintro n v' H' hv' ⟨sm, acc, hacc, pacc⟩
      obtain ⟨fg, hfg, r, rfl, hr⟩ := paired_at pf hv'
      have hn : n < g.fixed.length := (List.getElem?_eq_some_iff.mp hfg).1
      have hrb : H' r = some (.tup [nv fg.1, nv fg.2]) := sm _ _ (kb _ _ (ne_of hr hvt (fun z => nomatch z)) hr)
      refine ⟨rfl, _, rfl, _, rfl, r, _, _, _, rfl, rfl, SqT.of hrb, e0 fg, _, rfl, rfl, _, rfl, if_bool (fun c => ?_) fun c => ?_⟩
      · have ne : (keyOf t fg != p) = true := by
          rw [bne_iff_ne]
          rintro e
          rw [e] at c
          simp at c
        refine ⟨_, rfl, acc, hacc, ?_, Same.free_upd hD0 sm, acc ++ [.ref r], upd_same, ?_⟩
        · have := paired_len pacc
          have le := List.length_filter_le (fun f => keyOf t f != p) (g.fixed.take n)
          rw [List.length_take] at le
          exact small1000 (by omega)
        · rw [take_more hfg, List.filter_append, List.filter_cons_of_pos (p := fun f => keyOf t f != p) ne]
          have up : ∀ {v f}, PrAt H' v f → PrAt (upd H' D0 (.lst (acc ++ [.ref r]))) v f := fun {v f} z => by
            obtain ⟨r', z1, z2⟩ := z
            exact ⟨r', z1, by rw [upd_ne (ne_of z2 hacc (fun z => nomatch z))]; exact z2⟩
          exact paired_append (Paired.mapP pacc fun _ _ z => up z) (.cons (up ⟨r, rfl, hrb⟩) .nil)
      · have eq : ¬ (keyOf t fg != p) = true := by
          rw [bne_iff_ne]
          intro ne
          have : decide (nv (keyOf t fg) = nv p) = true := by simpa using c
          have := of_decide_eq_true this
          injection this with this
          exact ne (Int.ofNat_inj.mp this)
        refine ⟨sm, acc, hacc, ?_⟩
        rw [take_more hfg, List.filter_append, List.filter_cons_of_neg (p := fun f => keyOf t f != p) eq]
        simpa using pacc
    rintro Hc ⟨smc, fl, hfl, pfl⟩
    rw [lf, List.take_length] at pfl
    have lfl := paired_len pfl
    have le := List.length_filter_le (fun f => keyOf t f != p) g.fixed
    refine ⟨_, rfl, D0, rfl, ⟨_, SqL.of hfl⟩, fun D hD => lc_list (xs := fl) (fun n H' => Same Hc H' ∧ ∃ acc, H' D = some (.lst acc) ∧ Paired (PrAt H') acc (((g.fixed.filter fun f => keyOf t f != p).take n).map (mvd t p (-1)))) ⟨Same.upd hD, [], upd_same, .nil⟩ (fun n H' _ ⟨sm, _⟩ => SqL.of (sm _ _ hfl)) ?_ ?_⟩
    · rintro n v' H' hv' ⟨sm, acc, hacc, pacc⟩
      obtain ⟨fg, hfg, r, rfl, hr⟩ := paired_at pfl hv'
      have hn : n < (g.fixed.filter fun f => keyOf t f != p).length := (List.getElem?_eq_some_iff.mp hfg).1
      have hne : keyOf t fg ≠ p := by simpa using (List.mem_filter.mp (List.mem_of_getElem? hfg)).2
      refine ⟨rfl, _, rfl, _, rfl, _, rfl, _, rfl, r, fg, t, p, -1, rfl, sm _ _ hr, ht, fun _ => by omega, fun H2 v2 s2 hp2 => ⟨acc, s2 _ _ hacc, ?_, Same.free_upd hD (sm.trans s2), acc ++ [v2], upd_same, ?_⟩⟩
      · have := paired_len pacc
        rw [List.length_map, List.length_take] at this
        exact small1000 (by omega)
      · rw [take_more hfg, List.map_append]
        have up : ∀ {v f}, PrAt H2 v f → PrAt (upd H2 D (.lst (acc ++ [v2]))) v f := fun {v f} z => by
          obtain ⟨r', z1, z2⟩ := z
          exact ⟨r', z1, by rw [upd_ne (ne_of z2 (s2 _ _ hacc) (fun z => nomatch z))]; exact z2⟩
        exact paired_append (Paired.mapP pacc fun _ _ z => up (z.same s2)) (.cons (up hp2) .nil)
    · rintro H' ⟨sm, acc, hacc, pacc⟩
      rw [lfl, List.take_length] at pacc
      refine ⟨_, rfl, y, A.CY, dx, _, rfl, sm _ _ (smc _ _ hyb), T.clY, T.yX, (by show 7 < 1000; decide), ?_⟩
      rw [put_fixed]
      have hDb : Hb D = none := smc.free hD
      have hH : ∀ b o, b ≠ y → b ≠ at_ → H b = some o → (upd H' y (.ins A.CY dx (yF g.costs ak a1 a2 D))) b = some o := fun b o n1 n2 e => by
        rw [upd_ne n1]
        exact sm _ _ (smc _ _ (kb _ _ n2 e))
      have kp : ∀ b o, Part o → b ≠ at_ → H b = some o → (upd H' y (.ins A.CY dx (yF g.costs ak a1 a2 D))) b = some o := fun b o po ne e => hH b o (ne_of e hy po.ne) ne e
      have far : ∀ b o, H b = some o → b ≠ D := fun b o e z => by
        rw [z, (nb _ hDb).2] at e
        cases e
      refine q _ (yard_text (O' := fun b => O b ∨ H b = none) ht hX (fun b o => .inl o) (.inr (nb _ hDb).2) far (by rw [← eat]; exact kp) upd_same (vn := vt.eraseIdx p) (by rw [← eat, upd_ne nay]; exact sm _ _ (smc _ _ hb)) ?_ w2 w3 ?_) ?_
      · rw [w1]
        exact paired_erase p (Paired.mapP pt fun _ _ z => z.parts fun b o ob po e => ⟨⟨.inl ob.1, ob.2.1, ob.2.2.1, far _ _ e⟩, kp b o po (nat b ob.2) e⟩)
      · rw [w4]
        have yD : D ≠ y := fun z => far _ _ hy z.symm
        refine ⟨acc, by rw [upd_ne yD]; exact hacc, PrsAt.but pacc fun b xs e => ?_⟩
        rw [upd_ne (ne_of e (sm _ _ (smc _ _ hyb)) (fun z => nomatch z))]
        exact e
      · intro b o e no
        exact hH b o (fun z => no (by rw [z]; exact hX.oy)) (fun z => no (by rw [z]; exact oat)) e
end
end Sy

/-! put_sentence, take_sentence -/
namespace Sy
open PySem PySem.Spec PyProof.Rows L2
abbrev stPut : Stmt := top 39
abbrev stTake : Stmt := top 40
section
variable {g : Ut05.House} {t p : Nat} {s : Ut05.Sent}
theorem step_unfit (ht : t < 2) (h : Ut05.sentOk s = false ∨ (textT g t).length < p) : Ut05.step g (.put (t == 1) p s) = (g, [-1]) := by
  rcases (by omega : t = 0 ∨ t = 1) with e | e
  · subst e
    exact put_unfit1 h
  · subst e
    exact put_unfit2 h
theorem step_full (ht : t < 2) (h : ¬ (Ut05.sentOk s = false ∨ (textT g t).length < p)) (h2 : 14 ≤ (textT g t).length) : Ut05.step g (.put (t == 1) p s) = (g, [-5]) := by
  rcases (by omega : t = 0 ∨ t = 1) with e | e
  · subst e
    exact put_full1 h h2
  · subst e
    exact put_full2 h h2
theorem step_put (ht : t < 2) (h : ¬ (Ut05.sentOk s = false ∨ (textT g t).length < p)) (h2 : ¬ 14 ≤ (textT g t).length) : Ut05.step g (.put (t == 1) p s) = (putT g t p s, Ut05.told (putT g t p s)) := by
  rcases (by omega : t = 0 ∨ t = 1) with e | e
  · subst e
    exact put_done1 h h2
  · subst e
    exact put_done2 h h2
theorem step_gone (ht : t < 2) (h : (textT g t).length ≤ p) : Ut05.step g (.take (t == 1) p) = (g, [-2]) := by
  rcases (by omega : t = 0 ∨ t = 1) with e | e
  · subst e
    exact take_out1 h
  · subst e
    exact take_out2 h
theorem step_take (ht : t < 2) (h : ¬ (textT g t).length ≤ p) : Ut05.step g (.take (t == 1) p) = (takeT g t p, Ut05.told (takeT g t p)) := by
  rcases (by omega : t = 0 ∨ t = 1) with e | e
  · subst e
    exact take_done1 h
  · subst e
    exact take_done2 h
theorem putT_good (ht : t < 2) (h : Good g) (qs : Ut05.sentOk s = true) (hl : (textT g t).length < 14) : Good (putT g t p s) := by
  rcases (by omega : t = 0 ∨ t = 1) with e | e
  · subst e
    exact put1_good h qs hl
  · subst e
    exact put2_good h qs hl
theorem takeT_good (ht : t < 2) (h : Good g) (hp : p < (textT g t).length) : Good (takeT g t p) := by
  rcases (by omega : t = 0 ∨ t = 1) with e | e
  · subst e
    exact take1_good h hp
  · subst e
    exact take2_good h hp
end
def spPut (A : Ads) : Sp := fun vs H Q E => ∃ (y : Addr) (O : Addr → Prop) (g : Ut05.House) (t p : Nat) (s : Ut05.Sent) (la : Addr), vs = [.ref y, nv t, nv p, nv s.long, .ref la] ∧ t < 2 ∧ YardO A O H y g ∧ Good g ∧
  H la = some (.lst (s.anchors.map nv)) ∧ s.anchors.length ≤ 1000 ∧ ¬ O la ∧ Ans A (fun b => O b ∨ b = la) H y (Ut05.step g (.put (t == 1) p s)) Q E
def spTake (A : Ads) : Sp := fun vs H Q E => ∃ (y : Addr) (O : Addr → Prop) (g : Ut05.House) (t p : Nat), vs = [.ref y, nv t, nv p] ∧ t < 2 ∧ YardO A O H y g ∧ Good g ∧ Ans A O H y (Ut05.step g (.take (t == 1) p)) Q E
section
variable {P : Program} {w : World} {K : PySem.W.Frag} {mg : Str → Option Value} {base : Heap} {A : Ads}
theorem scPut : FnScope ["yard", "side", "place", "length", "anchors", "sentence", "many"] ["yard", "side", "place", "length", "anchors"] (defScope stPut) := ⟨rfl, rfl, rfl, by decide +kernel, rfl, by decide +kernel, by decide +kernel⟩
theorem ok_put {f : Addr} {fd : FuncData} (F : Fun K "put_sentence" "put_sentence" stPut f fd) (T : Txt K mg A) (N : Nums mg) (UF : Use P w K mg base (L2.CX P w) 3 "fit_sentence" ["length", "anchors"] (spFit A)) (UA : UseM P w K mg base CX0 1 A.CY "text_at" ["self", "side"] (spTextAt A))
    (UP : UseM P w K mg base CX0 2 A.CY "put_in" ["self", "side", "place", "sentence"] (spPutIn A)) (UH : Use P w K mg base (L2.CX P w) 6 "how_laid" ["yard"] (spHow A)) :
    FnOk P w K mg base (L2.CX P w) 7 f fd ["yard", "side", "place", "length", "anchors"] (spPut A) := by
  refine F.okX scPut (fun vs H Q E h => ?_) (fun cdv Ar outer s H vs Q E hr h => ⟨_, pss_cons (ps_set (i := 5) scPut.nd rfl (.inl rfl) (pe_use UF (hr.mono (by decide)) rfl (passes_call (takes_of rfl rfl rfl rfl) (fun _ _ _ _ z => z)) (pa_cons (pv 3) (pa_cons (pv 4) pa_nil))))
    (pss_cons (ps_set (i := 6) scPut.nd rfl (.inl rfl) (pe_callB call_len_seq (by rfl) T.len PySem.boot_len (pa_cons (by exact pe_useM (pv 0) T.clY UA (hr.mono (by decide)) pass0 (pa_cons (pv 1) pa_nil)) pa_nil)))
    (pss_cons (ps_if (pt_cmpR op_gt (pv 2) (pv 6) (nomark _)) (pss_one (ps_raise rfl (takes_of rfl rfl rfl rfl) (pmk_own0 PySem.F.excBase_Exception T.eU.x T.eU.g T.eU.k (raises_own T.eU.b T.eU.t) (by exact rfl)))) pss_nil)
    (pss_cons (ps_if (pt_cmpR op_eq (pv 6) (by exact pe_gint rfl N.sen) (nomark _)) (pss_one (ps_raise rfl (takes_of rfl rfl rfl rfl) (pmk_own0 PySem.F.excBase_Exception T.eF.x T.eF.g T.eF.k (raises_own T.eF.b T.eF.t) (by exact rfl)))) pss_nil)
    (pss_cons (ps_expr (pe_useM (pv 0) T.clY UP (hr.mono (by decide)) pass0 (pa_cons (pv 1) (pa_cons (pv 2) (pa_cons (pv 5) pa_nil)))))
    (pss_one (ps_ret (pe_use UH hr rfl (passes_call (takes_of rfl rfl rfl rfl) (fun _ _ _ _ z => z)) (pa_cons (pv 0) pa_nil)))))))), ?_⟩)
  · obtain ⟨y, O, g, t, p, s, la, rfl, _⟩ := h
    rfl
  · obtain ⟨y, O, g, t, p, s, la, rfl, ht, hY, hG, hla, ll, nla, q⟩ := h
    obtain ⟨dx, ak, a1, a2, af, hX⟩ := id hY
    have hy := hX.hy
    obtain ⟨oat, naf, nat, vt, hvt, pt⟩ := text_at ht hX
    have lt := paired_len pt
    have l14 : (textT g t).length ≤ 14 := by
      unfold textT
      split
      · exact hG.one
      · exact hG.two
    have same : ∀ {H'}, Same H H' → YardO A (fun b => (O b ∨ b = la) ∨ H b = none) H' y g ∧ Keep (fun b => O b ∨ b = la) H H' := fun s => ⟨(hY.same s).more fun _ z => .inl (.inl z), Keep.same s⟩
    refine ⟨_, rfl, _, rfl, la, s, rfl, hla, ll, fun bad => ?_, fun good H1 v s1 hv => ?_⟩
    · have := same (Same.refl H)
      rw [step_unfit ht (.inl bad)] at q
      exact (q H this.1 this.2).1 rfl
    have hy1 := s1 _ _ hy
    refine ⟨_, rfl, y, dx, _, rfl, hy1, yF_no _ _ _ _ _ (by decide +kernel), _, rfl, y, t, dx, g.costs, ak, a1, a2, af, rfl, hy1, _, _, rfl, .inl (SqL.of (s1 _ _ hvt)), _, rfl, _, rfl, _, _, rfl, rfl, _, rfl, if_dec (fun c => ?_) fun c => ?_⟩
    · have := same s1
      rw [step_unfit ht (.inr (by omega))] at q
      exact (q H1 this.1 this.2).1 rfl
    have fits : ¬ (Ut05.sentOk s = false ∨ (textT g t).length < p) := by
      rintro (z | z)
      · rw [good] at z
        cases z
      · omega
    refine ⟨_, rfl, rfl, _, rfl, if_dec (fun c2 => ?_) fun c2 => ?_⟩
    · have := same s1
      have e : 14 ≤ (textT g t).length := by
        injection c2 with c2
        omega
      rw [step_full ht fits e] at q
      exact (q H1 this.1 this.2).2.2.2.2.1 rfl
    have e : ¬ 14 ≤ (textT g t).length := fun z => c2 (by
      have : (vt.length : Int) = 14 := by omega
      exact congrArg V.int this)
    rw [step_put ht fits e] at q
    have nN : ∀ b, (b = la ∨ H b = none) → ¬ (O b ∧ H b ≠ none) := fun b z k => by
      rcases z with z | z
      · exact nla (z ▸ k.1)
      · exact k.2 z
    refine ⟨_, rfl, y, dx, _, rfl, hy1, yF_no _ _ _ _ _ (by decide +kernel), _, rfl, _, rfl, _, rfl, y, fun b => O b ∧ H b ≠ none, fun b => b = la ∨ H b = none, g, t, p, v, s, rfl, ht, by omega, YardO.same s1 hY.tight, hG, hv, nN, fun H2 yd2 ke2 => ?_⟩
    obtain ⟨own, hYa⟩ := yd2.at_
    have fin : ∀ {H3}, Same H2 H3 → YardO A (fun b => (O b ∨ b = la) ∨ H b = none) H3 y (putT g t p s) ∧ Keep (fun b => O b ∨ b = la) H H3 := fun s3 =>
      ⟨(YardO.same s3 yd2).more fun b z => by
        rcases z with (z | z | z) | z
        · exact .inl (.inl z.1)
        · exact .inl (.inr z)
        · exact .inr z
        · exact .inr (s1.free z), fun b o eb no => s3 _ _ (ke2 b o (s1 _ _ eb) fun z => no (.inl z.1))⟩
    refine ⟨_, rfl, y, own, putT g t p s, rfl, hYa, putT_good ht hG good (by omega), fun H3 s3 => ⟨fun e6 => (q H3 (fin s3).1 (fin s3).2).2.2.2.1 e6, fun r nr hr => (q H3 (fin s3).1 (fin s3).2).2.2.2.2.2 r (Keep.free (fin (Same.refl H2)).2 nr) hr⟩⟩
theorem scTake : FnScope ["yard", "side", "sentence"] ["yard", "side", "sentence"] (defScope stTake) := ⟨rfl, rfl, rfl, by decide +kernel, rfl, by decide +kernel, by decide +kernel⟩
theorem ok_take {f : Addr} {fd : FuncData} (F : Fun K "take_sentence" "take_sentence" stTake f fd) (T : Txt K mg A) (UA : UseM P w K mg base CX0 1 A.CY "text_at" ["self", "side"] (spTextAt A))
    (UP : UseM P w K mg base CX0 2 A.CY "take_out" ["self", "side", "place"] (spTakeOut A)) (UH : Use P w K mg base (L2.CX P w) 6 "how_laid" ["yard"] (spHow A)) :
    FnOk P w K mg base (L2.CX P w) 7 f fd ["yard", "side", "sentence"] (spTake A) := by
  refine F.okX scTake (fun vs H Q E h => ?_) (fun cdv Ar outer s H vs Q E hr h => ⟨_, pss_cons (ps_if (pt_cmpR op_ge (pv 2) (pe_callB call_len_seq (by rfl) T.len PySem.boot_len (pa_cons (by exact pe_useM (pv 0) T.clY UA (hr.mono (by decide)) pass0 (pa_cons (pv 1) pa_nil)) pa_nil)) (nomark _))
      (pss_one (ps_raise rfl (takes_of rfl rfl rfl rfl) (pmk_own0 PySem.F.excBase_Exception T.eN.x T.eN.g T.eN.k (raises_own T.eN.b T.eN.t) (by exact rfl)))) pss_nil)
    (pss_cons (ps_expr (pe_useM (pv 0) T.clY UP (hr.mono (by decide)) pass0 (pa_cons (pv 1) (pa_cons (pv 2) pa_nil))))
    (pss_one (ps_ret (pe_use UH hr rfl (passes_call (takes_of rfl rfl rfl rfl) (fun _ _ _ _ z => z)) (pa_cons (pv 0) pa_nil))))), ?_⟩)
  · obtain ⟨y, O, g, t, p, rfl, _⟩ := h
    rfl
  · obtain ⟨y, O, g, t, p, rfl, ht, hY, hG, q⟩ := h
    obtain ⟨dx, ak, a1, a2, af, hX⟩ := id hY
    have hy := hX.hy
    obtain ⟨oat, naf, nat, vt, hvt, pt⟩ := text_at ht hX
    have lt := paired_len pt
    refine ⟨_, rfl, _, rfl, y, dx, _, rfl, hy, yF_no _ _ _ _ _ (by decide +kernel), _, rfl, y, t, dx, g.costs, ak, a1, a2, af, rfl, hy, _, _, rfl, .inl (SqL.of hvt), _, _, rfl, rfl, _, rfl, if_dec (fun c => ?_) fun c => ?_⟩
    · rw [step_gone ht (by omega)] at q
      exact (q H (hY.more fun _ => .inl) (Keep.same (Same.refl H))).2.1 rfl
    have hp : ¬ (textT g t).length ≤ p := by omega
    rw [step_take ht hp] at q
    refine ⟨_, rfl, y, dx, _, rfl, hy, yF_no _ _ _ _ _ (by decide +kernel), _, rfl, _, rfl, y, O, g, t, p, rfl, ht, by omega, hY, hG, fun H2 yd2 ke2 => ?_⟩
    obtain ⟨own, hYa⟩ := yd2.at_
    have fin : ∀ {H3}, Same H2 H3 → YardO A (fun b => O b ∨ H b = none) H3 y (takeT g t p) ∧ Keep O H H3 := fun s3 => ⟨YardO.same s3 yd2, ke2.trans (Keep.same s3)⟩
    refine ⟨_, rfl, y, own, takeT g t p, rfl, hYa, takeT_good ht hG (by omega), fun H3 s3 => ⟨fun e6 => (q H3 (fin s3).1 (fin s3).2).2.2.2.1 e6, fun r nr hr => (q H3 (fin s3).1 (fin s3).2).2.2.2.2.2 r (Keep.free ke2 nr) hr⟩⟩
end
end Sy

namespace Sy
open PySem PySem.Spec PyProof.Rows L2
/-! answer -/
abbrev stAnswer : Stmt := top 26
theorem Keep.down {O : Addr → Prop} {H H1 H' : Hp} (s : Same H H1) (k : Keep (fun b => O b ∧ H b ≠ none) H1 H') : Keep O H H' := fun b o e no => k b o (s b o e) fun z => no z.1
theorem costs_no {g : Ut05.House} {c : Ut05.Costs} (h : Ut05.costsOk c = false) : Ut05.step g (.costs c) = (g, [-1]) := if_pos h
theorem costs_yes {g : Ut05.House} {c : Ut05.Costs} (h : Ut05.costsOk c = true) : Ut05.step g (.costs c) = ({ g with costs := c }, [0]) := if_neg (by rw [h]; decide)
theorem texts_no {g : Ut05.House} {a b : List Ut05.Sent} (h : Ut05.textOk a = false ∨ Ut05.textOk b = false) : Ut05.step g (.texts a b) = (g, [-1]) := if_pos h
theorem texts_yes {g : Ut05.House} {a b : List Ut05.Sent} (ha : Ut05.textOk a = true) (hb : Ut05.textOk b = true) : Ut05.step g (.texts a b) = ({ g with one := a, two := b, fixed := [] }, [(a.length : Int), (b.length : Int)]) := if_neg (by rw [ha, hb]; decide)
theorem nv_ne {n : Nat} {m : Int} (h : (n : Int) ≠ m) : nv n ≠ V.int m := fun z => by
  injection z with z
  exact h z
section
variable {P : Program} {w : World} {K : PySem.W.Frag} {mg : Str → Option Value} {base : Heap} {A : Ads}
theorem scAnswer : FnScope ["yard", "number", "plain", "row"] ["yard", "number", "plain", "row"] (defScope stAnswer) := ⟨rfl, rfl, rfl, by decide +kernel, rfl, by decide +kernel, by decide +kernel⟩
theorem ok_answer {f : Addr} {fd : FuncData} (F : Fun K "answer" "answer" stAnswer f fd) (T : Txt K mg A)
    (U0 : Use P w K mg base (L2.CX P w) 1 "set_costs" ["yard", "kind_costs", "share", "weight", "anchor_price"] (spSetC A)) (U1 : Use P w K mg base (L2.CX P w) 5 "set_texts" ["yard", "many", "others", "row"] (spSetT A))
    (U2 : Use P w K mg base (L2.CX P w) 6 "fix_pair" ["yard", "i", "j"] (spFix A)) (U3 : Use P w K mg base (L2.CX P w) 6 "free_pair" ["yard", "i", "j"] (spFree A))
    (U4 : Use P w K mg base (L2.CX P w) 6 "how_laid" ["yard"] (spHow A)) (U5 : Use P w K mg base (L2.CX P w) 3 "cost_of_beads" ["yard", "row"] (spCB A))
    (U6 : Use P w K mg base (L2.CX P w) 6 "try_pair" ["yard", "i", "j"] (spPair A)) (U7 : Use P w K mg base (L2.CX P w) 6 "bead_of" ["yard", "side", "sentence"] (spBead A))
    (U8 : Use P w K mg base (L2.CX P w) 7 "put_sentence" ["yard", "side", "place", "length", "anchors"] (spPut A)) (U9 : Use P w K mg base (L2.CX P w) 7 "take_sentence" ["yard", "side", "sentence"] (spTake A)) (UZ : Use P w K mg base CX0 1 "shown" ["yard"] (spShown A)) :
    FnOk P w K mg base (L2.CX P w) 8 f fd ["yard", "number", "plain", "row"] (spAnswer A) := by
  refine F.okX scAnswer (fun vs H Q E h => ?_) (fun cdv Ar outer s H vs Q E hr h => ⟨_, pss_cons (ps_if (pt_cmpR op_eq (pv 1) pe_int (nomark _)) (pss_one (ps_ret (pe_use U0 (hr.mono (by decide)) rfl (passes_call (takes_of rfl rfl rfl rfl) (fun _ _ _ _ z => z))
        (pa_cons (pv 0) (pa_cons (pe_slice sl_list (pv 2) po_none (po_some pe_int)) (pa_cons (pe_ix ix_list (pv 2) pe_int (fun _ _ => rfl)) (pa_cons (pe_ix ix_list (pv 2) pe_int (fun _ _ => rfl)) (pa_cons (pe_ix ix_list (pv 2) pe_int (fun _ _ => rfl)) pa_nil)))))))) pss_nil)
    (pss_cons (ps_if (pt_cmpR op_eq (pv 1) pe_int (nomark _)) (pss_one (ps_ret (pe_use U1 (hr.mono (by decide)) rfl (passes_call (takes_of rfl rfl rfl rfl) (fun _ _ _ _ z => z))
        (pa_cons (pv 0) (pa_cons (pe_ix ix_list (pv 2) pe_int (fun _ _ => rfl)) (pa_cons (pe_ix ix_list (pv 2) pe_int (fun _ _ => rfl)) (pa_cons (pv 3) pa_nil))))))) pss_nil)
    (pss_cons (ps_if (pt_cmpR op_eq (pv 1) pe_int (nomark _)) (pss_one (ps_ret (pe_use U2 (hr.mono (by decide)) rfl (passes_call (takes_of rfl rfl rfl rfl) (fun _ _ _ _ z => z))
        (pa_cons (pv 0) (pa_cons (pe_ix ix_list (pv 2) pe_int (fun _ _ => rfl)) (pa_cons (pe_ix ix_list (pv 2) pe_int (fun _ _ => rfl)) pa_nil)))))) pss_nil)
    (pss_cons (ps_if (pt_cmpR op_eq (pv 1) pe_int (nomark _)) (pss_one (ps_ret (pe_use U3 (hr.mono (by decide)) rfl (passes_call (takes_of rfl rfl rfl rfl) (fun _ _ _ _ z => z))
        (pa_cons (pv 0) (pa_cons (pe_ix ix_list (pv 2) pe_int (fun _ _ => rfl)) (pa_cons (pe_ix ix_list (pv 2) pe_int (fun _ _ => rfl)) pa_nil)))))) pss_nil)
    (pss_cons (ps_if (pt_cmpR op_eq (pv 1) pe_int (nomark _)) (pss_one (ps_ret (pe_use U4 (hr.mono (by decide)) rfl (passes_call (takes_of rfl rfl rfl rfl) (fun _ _ _ _ z => z)) (pa_cons (pv 0) pa_nil)))) pss_nil)
    (pss_cons (ps_if (pt_cmpR op_eq (pv 1) pe_int (nomark _)) (pss_one (ps_ret (pe_use U5 (hr.mono (by decide)) rfl (passes_call (takes_of rfl rfl rfl rfl) (fun _ _ _ _ z => z)) (pa_cons (pv 0) (pa_cons (pv 3) pa_nil))))) pss_nil)
    (pss_cons (ps_if (pt_cmpR op_eq (pv 1) pe_int (nomark _)) (pss_one (ps_ret (pe_use U6 (hr.mono (by decide)) rfl (passes_call (takes_of rfl rfl rfl rfl) (fun _ _ _ _ z => z)) (pa_cons (pv 0) (pa_cons (pe_ix ix_list (pv 2) pe_int (fun _ _ => rfl)) (pa_cons (pe_ix ix_list (pv 2) pe_int (fun _ _ => rfl)) pa_nil)))))) pss_nil)
    (pss_cons (ps_if (pt_cmpR op_eq (pv 1) pe_int (nomark _)) (pss_one (ps_ret (pe_use U7 (hr.mono (by decide)) rfl (passes_call (takes_of rfl rfl rfl rfl) (fun _ _ _ _ z => z)) (pa_cons (pv 0) (pa_cons (pe_ix ix_list (pv 2) pe_int (fun _ _ => rfl)) (pa_cons (pe_ix ix_list (pv 2) pe_int (fun _ _ => rfl)) pa_nil)))))) pss_nil)
    (pss_cons (ps_if (pt_cmpR op_eq (pv 1) pe_int (nomark _)) (pss_one (ps_ret (pe_use U8 (hr.mono (by decide)) rfl (passes_call (takes_of rfl rfl rfl rfl) (fun _ _ _ _ z => z)) (pa_cons (pv 0) (pa_cons (pe_ix ix_list (pv 2) pe_int (fun _ _ => rfl)) (pa_cons (pe_ix ix_list (pv 2) pe_int (fun _ _ => rfl)) (pa_cons (pe_ix ix_list (pv 2) pe_int (fun _ _ => rfl)) (pa_cons (pv 3) pa_nil)))))))) pss_nil)
    (pss_cons (ps_if (pt_cmpR op_eq (pv 1) pe_int (nomark _)) (pss_one (ps_ret (pe_use U9 (hr.mono (by decide)) rfl (passes_call (takes_of rfl rfl rfl rfl) (fun _ _ _ _ z => z)) (pa_cons (pv 0) (pa_cons (pe_ix ix_list (pv 2) pe_int (fun _ _ => rfl)) (pa_cons (pe_ix ix_list (pv 2) pe_int (fun _ _ => rfl)) pa_nil)))))) pss_nil)
    (pss_one (ps_ret (pe_use UZ (hr.mono (by decide)) rfl pass0 (pa_cons (pv 0) pa_nil))))))))))))), ?_⟩)
  · obtain ⟨y, pa, ra, O, g, c, rfl, _⟩ := h
    rfl
  · obtain ⟨y, pa, ra, O, g, c, rfl, hY, hG, hO, np, nr, hpa, hra, q0⟩ := h
    have q := Ans.less (O := O) (fun b => Or.inl) q0
    have same : ∀ {H'}, Same H H' → YardO A (fun b => O b ∨ H b = none) H' y g ∧ Keep O H H' := fun s => ⟨(hY.same s).more fun _ => .inl, Keep.same s⟩
    cases c with
    | costs c =>
      refine ⟨_, rfl, rfl, _, rfl, if_dec (fun _ => ?_) fun z => absurd rfl z⟩
      obtain ⟨kd, sh, we, an⟩ := c
      have h6' : kd.length = 6 := hO.1 _ rfl
      match kd, h6' with
      | [k0, k1, k2, k3, k4, k5], h6' =>
      refine ⟨_, rfl, _, rfl, _, rfl, pa, _, rfl, SqL.of hpa, fun p1 n1 => ?_⟩
      rw [show (6 : Int) = ((6 : Nat) : Int) from rfl, cut_to]
      have t1 := Same.upd (o := .lst (List.take 6 ((plainC (.costs ⟨[k0, k1, k2, k3, k4, k5], sh, we, an⟩)).map nv))) n1
      have hp1 : (upd H p1 (.lst (List.take 6 ((plainC (.costs ⟨[k0, k1, k2, k3, k4, k5], sh, we, an⟩)).map nv)))) p1 = some (.lst ([k0, k1, k2, k3, k4, k5].map nv)) := upd_same
      generalize upd H p1 (.lst (List.take 6 ((plainC (.costs ⟨[k0, k1, k2, k3, k4, k5], sh, we, an⟩)).map nv))) = H1 at t1 hp1 ⊢
      have hpa1 := t1 _ _ hpa
      refine ⟨_, rfl, pa, _, _, _, rfl, rfl, SqL.of hpa1, atI_nat (j := 6) rfl, _, rfl, pa, _, _, _, rfl, rfl, SqL.of hpa1, atI_nat (j := 7) rfl, _, rfl, pa, _, _, _, rfl, rfl, SqL.of hpa1, atI_nat (j := 8) rfl,
        y, p1, fun b => O b ∧ H b ≠ none, g, ⟨[k0, k1, k2, k3, k4, k5], sh, we, an⟩, rfl, YardO.same t1 hY.tight, fun z => z.2 n1, hp1, rfl, fun bad => ?_, fun ok H' p yd ke fr hp => ?_⟩
      · have := same t1
        rw [costs_no bad] at q
        exact (q H1 this.1 this.2).1 rfl
      · rw [costs_yes ok] at q
        refine (q H' (yd.more fun b z => ?_) (Keep.down t1 ke)).2.2.2.2.2 p (fun o e => (fr o (t1 _ _ e)).1) hp
        rcases z with z | z
        · exact .inl z.1
        · exact .inr (z ▸ n1)
    | texts a b =>
      refine ⟨_, rfl, rfl, _, rfl, if_dec (fun z => absurd z (nv_ne (n := 1) (m := 0) (by decide))) fun _ => ?_⟩
      refine ⟨_, rfl, rfl, _, rfl, if_dec (fun _ => ?_) fun z => absurd rfl z⟩
      refine ⟨_, rfl, _, rfl, pa, _, _, _, rfl, rfl, SqL.of hpa, atI_nat (j := 0) rfl, _, rfl, pa, _, _, _, rfl, rfl, SqL.of hpa, atI_nat (j := 1) rfl, _, rfl,
        y, ra, O, g, a, b, rfl, hY, hra, Nat.le_trans (hO.2 _ rfl) (by decide), fun bad H' sm => ?_, fun oa ob H' p yd ke fr hp => ?_⟩
      · have := same sm
        rw [texts_no bad] at q
        exact (q H' this.1 this.2).1 rfl
      · rw [texts_yes oa ob] at q
        exact (q H' yd ke).2.2.2.2.2 p fr hp
    | fix i j =>
      refine ⟨_, rfl, rfl, _, rfl, if_dec (fun z => absurd z (nv_ne (n := 2) (m := 0) (by decide))) fun _ => ?_⟩
      refine ⟨_, rfl, rfl, _, rfl, if_dec (fun z => absurd z (nv_ne (n := 2) (m := 1) (by decide))) fun _ => ?_⟩
      refine ⟨_, rfl, rfl, _, rfl, if_dec (fun _ => ?_) fun z => absurd rfl z⟩
      exact ⟨_, rfl, _, rfl, pa, _, _, _, rfl, rfl, SqL.of hpa, atI_nat (j := 0) rfl, _, rfl, pa, _, _, _, rfl, rfl, SqL.of hpa, atI_nat (j := 1) rfl, y, O, g, i, j, rfl, hY, hG, q⟩
    | free i j =>
      refine ⟨_, rfl, rfl, _, rfl, if_dec (fun z => absurd z (nv_ne (n := 3) (m := 0) (by decide))) fun _ => ?_⟩
      refine ⟨_, rfl, rfl, _, rfl, if_dec (fun z => absurd z (nv_ne (n := 3) (m := 1) (by decide))) fun _ => ?_⟩
      refine ⟨_, rfl, rfl, _, rfl, if_dec (fun z => absurd z (nv_ne (n := 3) (m := 2) (by decide))) fun _ => ?_⟩
      refine ⟨_, rfl, rfl, _, rfl, if_dec (fun _ => ?_) fun z => absurd rfl z⟩
      exact ⟨_, rfl, _, rfl, pa, _, _, _, rfl, rfl, SqL.of hpa, atI_nat (j := 0) rfl, _, rfl, pa, _, _, _, rfl, rfl, SqL.of hpa, atI_nat (j := 1) rfl, y, O, g, i, j, rfl, hY, hG, q⟩
    | lay =>
      refine ⟨_, rfl, rfl, _, rfl, if_dec (fun z => absurd z (nv_ne (n := 4) (m := 0) (by decide))) fun _ => ?_⟩
      refine ⟨_, rfl, rfl, _, rfl, if_dec (fun z => absurd z (nv_ne (n := 4) (m := 1) (by decide))) fun _ => ?_⟩
      refine ⟨_, rfl, rfl, _, rfl, if_dec (fun z => absurd z (nv_ne (n := 4) (m := 2) (by decide))) fun _ => ?_⟩
      refine ⟨_, rfl, rfl, _, rfl, if_dec (fun z => absurd z (nv_ne (n := 4) (m := 3) (by decide))) fun _ => ?_⟩
      refine ⟨_, rfl, rfl, _, rfl, if_dec (fun _ => ?_) fun z => absurd rfl z⟩
      obtain ⟨own, hYa⟩ := hY.at_
      exact ⟨_, rfl, y, own, g, rfl, hYa, hG, fun H' sm => ⟨fun e => (q H' (same sm).1 (same sm).2).2.2.2.1 e, fun p np hp => (q H' (same sm).1 (same sm).2).2.2.2.2.2 p (fun o e => nomatch np.symm.trans e) hp⟩⟩
    | cost l =>
      refine ⟨_, rfl, rfl, _, rfl, if_dec (fun z => absurd z (nv_ne (n := 5) (m := 0) (by decide))) fun _ => ?_⟩
      refine ⟨_, rfl, rfl, _, rfl, if_dec (fun z => absurd z (nv_ne (n := 5) (m := 1) (by decide))) fun _ => ?_⟩
      refine ⟨_, rfl, rfl, _, rfl, if_dec (fun z => absurd z (nv_ne (n := 5) (m := 2) (by decide))) fun _ => ?_⟩
      refine ⟨_, rfl, rfl, _, rfl, if_dec (fun z => absurd z (nv_ne (n := 5) (m := 3) (by decide))) fun _ => ?_⟩
      refine ⟨_, rfl, rfl, _, rfl, if_dec (fun z => absurd z (nv_ne (n := 5) (m := 4) (by decide))) fun _ => ?_⟩
      refine ⟨_, rfl, rfl, _, rfl, if_dec (fun _ => ?_) fun z => absurd rfl z⟩
      obtain ⟨own, hYa⟩ := hY.at_
      have ll : l.length ≤ 100 := by
        have := hO.2 _ rfl
        rw [rowB_len] at this
        omega
      exact ⟨_, rfl, _, rfl, y, ra, own, g, l, rfl, hYa, hG, hra, ll, fun H' sm => ⟨fun e => (q H' (same sm).1 (same sm).2).1 e, fun e => (q H' (same sm).1 (same sm).2).2.2.1 e, fun p np hp => (q H' (same sm).1 (same sm).2).2.2.2.2.2 p (fun o e => nomatch np.symm.trans e) hp⟩⟩
    | pair i j =>
      refine ⟨_, rfl, rfl, _, rfl, if_dec (fun z => absurd z (nv_ne (n := 6) (m := 0) (by decide))) fun _ => ?_⟩
      refine ⟨_, rfl, rfl, _, rfl, if_dec (fun z => absurd z (nv_ne (n := 6) (m := 1) (by decide))) fun _ => ?_⟩
      refine ⟨_, rfl, rfl, _, rfl, if_dec (fun z => absurd z (nv_ne (n := 6) (m := 2) (by decide))) fun _ => ?_⟩
      refine ⟨_, rfl, rfl, _, rfl, if_dec (fun z => absurd z (nv_ne (n := 6) (m := 3) (by decide))) fun _ => ?_⟩
      refine ⟨_, rfl, rfl, _, rfl, if_dec (fun z => absurd z (nv_ne (n := 6) (m := 4) (by decide))) fun _ => ?_⟩
      refine ⟨_, rfl, rfl, _, rfl, if_dec (fun z => absurd z (nv_ne (n := 6) (m := 5) (by decide))) fun _ => ?_⟩
      refine ⟨_, rfl, rfl, _, rfl, if_dec (fun _ => ?_) fun z => absurd rfl z⟩
      obtain ⟨own, hYa⟩ := hY.at_
      exact ⟨_, rfl, _, rfl, pa, _, _, _, rfl, rfl, SqL.of hpa, atI_nat (j := 0) rfl, _, rfl, pa, _, _, _, rfl, rfl, SqL.of hpa, atI_nat (j := 1) rfl, y, own, g, i, j, rfl, hYa, hG, fun H' sm => ⟨fun e => (q H' (same sm).1 (same sm).2).2.1 e, fun e => (q H' (same sm).1 (same sm).2).2.2.2.1 e, fun p np hp => (q H' (same sm).1 (same sm).2).2.2.2.2.2 p (fun o e => nomatch np.symm.trans e) hp⟩⟩
    | bead t i =>
      refine ⟨_, rfl, rfl, _, rfl, if_dec (fun z => absurd z (nv_ne (n := 7) (m := 0) (by decide))) fun _ => ?_⟩
      refine ⟨_, rfl, rfl, _, rfl, if_dec (fun z => absurd z (nv_ne (n := 7) (m := 1) (by decide))) fun _ => ?_⟩
      refine ⟨_, rfl, rfl, _, rfl, if_dec (fun z => absurd z (nv_ne (n := 7) (m := 2) (by decide))) fun _ => ?_⟩
      refine ⟨_, rfl, rfl, _, rfl, if_dec (fun z => absurd z (nv_ne (n := 7) (m := 3) (by decide))) fun _ => ?_⟩
      refine ⟨_, rfl, rfl, _, rfl, if_dec (fun z => absurd z (nv_ne (n := 7) (m := 4) (by decide))) fun _ => ?_⟩
      refine ⟨_, rfl, rfl, _, rfl, if_dec (fun z => absurd z (nv_ne (n := 7) (m := 5) (by decide))) fun _ => ?_⟩
      refine ⟨_, rfl, rfl, _, rfl, if_dec (fun z => absurd z (nv_ne (n := 7) (m := 6) (by decide))) fun _ => ?_⟩
      refine ⟨_, rfl, rfl, _, rfl, if_dec (fun _ => ?_) fun z => absurd rfl z⟩
      obtain ⟨own, hYa⟩ := hY.at_
      exact ⟨_, rfl, _, rfl, pa, _, _, _, rfl, rfl, SqL.of hpa, atI_nat (j := 0) rfl, _, rfl, pa, _, _, _, rfl, rfl, SqL.of hpa, atI_nat (j := 1) rfl, y, own, g, t, i, rfl, hYa, hG, fun H' sm => ⟨fun e => (q H' (same sm).1 (same sm).2).2.1 e, fun e => (q H' (same sm).1 (same sm).2).2.2.2.1 e, fun p np hp => (q H' (same sm).1 (same sm).2).2.2.2.2.2 p (fun o e => nomatch np.symm.trans e) hp⟩⟩
    | put t p s =>
      refine ⟨_, rfl, rfl, _, rfl, if_dec (fun z => absurd z (nv_ne (n := 8) (m := 0) (by decide))) fun _ => ?_⟩
      refine ⟨_, rfl, rfl, _, rfl, if_dec (fun z => absurd z (nv_ne (n := 8) (m := 1) (by decide))) fun _ => ?_⟩
      refine ⟨_, rfl, rfl, _, rfl, if_dec (fun z => absurd z (nv_ne (n := 8) (m := 2) (by decide))) fun _ => ?_⟩
      refine ⟨_, rfl, rfl, _, rfl, if_dec (fun z => absurd z (nv_ne (n := 8) (m := 3) (by decide))) fun _ => ?_⟩
      refine ⟨_, rfl, rfl, _, rfl, if_dec (fun z => absurd z (nv_ne (n := 8) (m := 4) (by decide))) fun _ => ?_⟩
      refine ⟨_, rfl, rfl, _, rfl, if_dec (fun z => absurd z (nv_ne (n := 8) (m := 5) (by decide))) fun _ => ?_⟩
      refine ⟨_, rfl, rfl, _, rfl, if_dec (fun z => absurd z (nv_ne (n := 8) (m := 6) (by decide))) fun _ => ?_⟩
      refine ⟨_, rfl, rfl, _, rfl, if_dec (fun z => absurd z (nv_ne (n := 8) (m := 7) (by decide))) fun _ => ?_⟩
      refine ⟨_, rfl, rfl, _, rfl, if_dec (fun _ => ?_) fun z => absurd rfl z⟩
      have sl : s.anchors.length ≤ 1000 := Nat.le_trans (hO.2 _ rfl) (by decide)
      refine ⟨_, rfl, _, rfl, pa, _, _, _, rfl, rfl, SqL.of hpa, atI_nat (j := 0) rfl, _, rfl, pa, _, _, _, rfl, rfl, SqL.of hpa, atI_nat (j := 1) rfl, _, rfl, pa, _, _, _, rfl, rfl, SqL.of hpa, atI_nat (j := 2) rfl, _, rfl, y, O, g, bitN t, p, s, ra, rfl, ?_, hY, hG, hra, sl, nr, ?_⟩
      · cases t <;> decide
      · cases t
        · exact q0
        · exact q0
    | take t p =>
      refine ⟨_, rfl, rfl, _, rfl, if_dec (fun z => absurd z (nv_ne (n := 9) (m := 0) (by decide))) fun _ => ?_⟩
      refine ⟨_, rfl, rfl, _, rfl, if_dec (fun z => absurd z (nv_ne (n := 9) (m := 1) (by decide))) fun _ => ?_⟩
      refine ⟨_, rfl, rfl, _, rfl, if_dec (fun z => absurd z (nv_ne (n := 9) (m := 2) (by decide))) fun _ => ?_⟩
      refine ⟨_, rfl, rfl, _, rfl, if_dec (fun z => absurd z (nv_ne (n := 9) (m := 3) (by decide))) fun _ => ?_⟩
      refine ⟨_, rfl, rfl, _, rfl, if_dec (fun z => absurd z (nv_ne (n := 9) (m := 4) (by decide))) fun _ => ?_⟩
      refine ⟨_, rfl, rfl, _, rfl, if_dec (fun z => absurd z (nv_ne (n := 9) (m := 5) (by decide))) fun _ => ?_⟩
      refine ⟨_, rfl, rfl, _, rfl, if_dec (fun z => absurd z (nv_ne (n := 9) (m := 6) (by decide))) fun _ => ?_⟩
      refine ⟨_, rfl, rfl, _, rfl, if_dec (fun z => absurd z (nv_ne (n := 9) (m := 7) (by decide))) fun _ => ?_⟩
      refine ⟨_, rfl, rfl, _, rfl, if_dec (fun z => absurd z (nv_ne (n := 9) (m := 8) (by decide))) fun _ => ?_⟩
      refine ⟨_, rfl, rfl, _, rfl, if_dec (fun _ => ?_) fun z => absurd rfl z⟩
      refine ⟨_, rfl, _, rfl, pa, _, _, _, rfl, rfl, SqL.of hpa, atI_nat (j := 0) rfl, _, rfl, pa, _, _, _, rfl, rfl, SqL.of hpa, atI_nat (j := 1) rfl, y, O, g, bitN t, p, rfl, ?_, hY, hG, ?_⟩
      · cases t <;> decide
      · cases t
        · exact q
        · exact q
    | shows =>
      refine ⟨_, rfl, rfl, _, rfl, if_dec (fun z => absurd z (nv_ne (n := 10) (m := 0) (by decide))) fun _ => ?_⟩
      refine ⟨_, rfl, rfl, _, rfl, if_dec (fun z => absurd z (nv_ne (n := 10) (m := 1) (by decide))) fun _ => ?_⟩
      refine ⟨_, rfl, rfl, _, rfl, if_dec (fun z => absurd z (nv_ne (n := 10) (m := 2) (by decide))) fun _ => ?_⟩
      refine ⟨_, rfl, rfl, _, rfl, if_dec (fun z => absurd z (nv_ne (n := 10) (m := 3) (by decide))) fun _ => ?_⟩
      refine ⟨_, rfl, rfl, _, rfl, if_dec (fun z => absurd z (nv_ne (n := 10) (m := 4) (by decide))) fun _ => ?_⟩
      refine ⟨_, rfl, rfl, _, rfl, if_dec (fun z => absurd z (nv_ne (n := 10) (m := 5) (by decide))) fun _ => ?_⟩
      refine ⟨_, rfl, rfl, _, rfl, if_dec (fun z => absurd z (nv_ne (n := 10) (m := 6) (by decide))) fun _ => ?_⟩
      refine ⟨_, rfl, rfl, _, rfl, if_dec (fun z => absurd z (nv_ne (n := 10) (m := 7) (by decide))) fun _ => ?_⟩
      refine ⟨_, rfl, rfl, _, rfl, if_dec (fun z => absurd z (nv_ne (n := 10) (m := 8) (by decide))) fun _ => ?_⟩
      refine ⟨_, rfl, rfl, _, rfl, if_dec (fun z => absurd z (nv_ne (n := 10) (m := 9) (by decide))) fun _ => ?_⟩
      obtain ⟨own, hYa⟩ := hY.at_
      exact ⟨_, rfl, y, own, g, rfl, hYa, hG, fun H' p sm np hp => (q H' (same sm).1 (same sm).2).2.2.2.2.2 p (fun o e => nomatch np.symm.trans e) hp⟩
end
end Sy

namespace Sy
open PySem PySem.Spec PyProof.Rows L2
/-! answers -/
abbrev stAnswers : Stmt := top 24
/-- what the top has written of the calls -/
structure Tups (K : PySem.W.Frag) (A : Ads) : Prop where
  p : ∀ H, SqT K H A.pT (plains.map nv)
  r : ∀ H, SqT K H A.rT (hasRow.map V.bl)
def spAnswers (K : PySem.W.Frag) : Sp := fun vs H Q _ => ∃ (la : Addr) (cs : List Ut05.Call), vs = [.ref la] ∧ SqL K H la ((lineC cs).map nv) ∧ (∀ c ∈ cs, OkC c) ∧ (saidTo cs).length ≤ 10000000 ∧
  ∀ H' p, H' p = some (.lst ((saidTo cs).map V.int)) → Q (.ref p) H'
/-- a list that is handed in: it stands in the heap, or the top has written it -/
theorem sql_stays {K : PySem.W.Frag} {H : Hp} {a : Addr} {xs : List V} (h : SqL K H a xs) : ∃ lo : Option HO, (∀ o, lo = some o → H a = some o) ∧ ∀ H', (∀ o, lo = some o → H' a = some o) → SqL K H' a xs := by
  rcases h with (h | ⟨o, h⟩) | h
  · exact ⟨some (.lst xs), (fun o e => by cases e; exact h), fun H' k => .inl (.inl (k _ rfl))⟩
  · exact ⟨some (.frz o (.lst xs)), (fun u e => by cases e; exact h), fun H' k => .inl (.inr ⟨o, k _ rfl⟩)⟩
  · exact ⟨none, (fun o e => nomatch e), fun H' _ => .inr h⟩
section
variable {P : Program} {w : World} {K : PySem.W.Frag} {mg : Str → Option Value} {base : Heap} {A : Ads}
theorem scAnswers : FnScope ["calls", "yard", "answered", "at", "number", "row_at", "plain", "row", "numbers"] ["calls"] (defScope stAnswers) := ⟨rfl, rfl, rfl, by decide +kernel, rfl, by decide +kernel, by decide +kernel⟩
theorem ok_answers {f : Addr} {fd : FuncData} (F : Fun K "answers" "answers" stAnswers f fd) (T : Txt K mg A) (U : Tups K A) (UY : UseI P w K mg base CX0 1 A.CY ["self"] (spYInit A)) (UR : Use P w K mg base CX0 9 "answer_or_refusal" ["yard", "number", "plain", "row"] (spRef A)) :
    FnOk P w K mg base CX0 10 f fd ["calls"] (spAnswers K) := by
  refine F.ok scAnswers (fun vs H Q E h => ?_) (fun cdv Ar outer s H vs Q E hr h => ⟨_, pss_cons (ps_set (i := 1) scAnswers.nd rfl (.inl rfl) (pe_useI0 UY (hr.mono (by decide)) rfl T.gY pass0))
    (pss_cons (ps_set (i := 2) scAnswers.nd rfl (.inl rfl) (pe_lst pa_nil)) (pss_cons (ps_set (i := 3) scAnswers.nd rfl (.inl rfl) pe_int)
    (pss_cons (ps_while PassesOwn.never (pt_cmpR op_lt (pv 3) (pe_callB call_len_seq (by rfl) T.len PySem.boot_len (pa_cons (pv 0) pa_nil)) (nomark _))
      (pss_cons (ps_set (i := 4) scAnswers.nd rfl (.inl rfl) (pe_ix ix_list (pv 0) (pv 3) (fun _ _ => rfl)))
      (pss_cons (ps_set (i := 5) scAnswers.nd rfl (.inl rfl) (pe_op op_add (pe_op op_add (pv 3) pe_int) (pe_ix ix_tup (by exact pe_gref rfl T.gP) (pv 4) (fun _ _ => rfl))))
      (pss_cons (ps_set (i := 6) scAnswers.nd rfl (.inl rfl) (pe_slice sl_list (pv 0) (po_some (pe_op op_add (pv 3) pe_int)) (po_some (pv 5))))
      (pss_cons (ps_set (i := 7) scAnswers.nd rfl (.inl rfl) (pe_lst pa_nil))
      (pss_cons (ps_set (i := 3) scAnswers.nd rfl (.inl rfl) (pv 5))
      (pss_cons (ps_if (pt_truth (pe_ix ix_tup (by exact pe_gref rfl T.gR) (pv 4) (fun _ _ => rfl)) (fun _ => rfl))
        (pss_cons (ps_set (i := 3) scAnswers.nd rfl (.inl rfl) (pe_op op_add (pe_op op_add (pv 5) pe_int) (pe_ix ix_list (pv 0) (pv 5) (fun _ _ => rfl))))
        (pss_one (ps_set (i := 7) scAnswers.nd rfl (.inl rfl) (pe_slice sl_list (pv 0) (po_some (pe_op op_add (pv 5) pe_int)) (po_some (pv 3)))))) pss_nil)
      (pss_cons (ps_set (i := 8) scAnswers.nd rfl (.inl rfl) (pe_use UR hr rfl pass0 (pa_cons (pv 1) (pa_cons (pv 4) (pa_cons (pv 6) (pa_cons (pv 7) pa_nil))))))
      (pss_cons (ps_expr (pe_bm PySem.F.plainAttrs_list PySem.F.slot_list_append PySem.F.type_list_append mt_append (pv 2) (pa_cons (pe_callB call_len_seq (by rfl) T.len PySem.boot_len (pa_cons (pv 8) pa_nil)) pa_nil)))
      (pss_one (ps_expr (pe_bm PySem.F.plainAttrs_list PySem.F.slot_list_extend PySem.F.type_list_extend mt_extend (pv 2) (pa_cons (pv 8) pa_nil)))))))))))))
    (pss_one (ps_ret (pv 2)))))), ?_⟩)
  · obtain ⟨la, cs, rfl, _⟩ := h
    rfl
  · obtain ⟨la, cs, rfl, hla, hok, hsz, q⟩ := h
    obtain ⟨lo, hla, hS⟩ := sql_stays hla
    refine fun y dx ny ndx ne => ⟨y, dx, rfl, upd_same, fun H1 hY bt => ⟨rfl, Nat.zero_le _, fun an nan => ?_⟩⟩
    have s1 : Same H H1 := Same.made ny ndx bt
    have nla : (∃ o, lo = some o) → an ≠ la := fun ⟨o, e⟩ z => by rw [z, s1 _ _ (hla o e)] at nan; cases nan
    have yla : (∃ o, lo = some o) → y ≠ la := fun ⟨o, e⟩ z => by rw [z, hla o e] at ny; cases ny
    have dla : (∃ o, lo = some o) → dx ≠ la := fun ⟨o, e⟩ z => by rw [z, hla o e] at ndx; cases ndx
    have hyd0 : YardO A (fun b => ((∃ o, lo = some o) → b ≠ la) ∧ b ≠ an) (upd H1 an (.lst [])) y Ut05.init := by
      refine YardO.same (Same.upd nan) (hY.tight.more fun b z => ⟨fun L e => ?_, fun e => z.2 (by rw [e]; exact nan)⟩)
      rcases z.1 with z | z
      · exact yla L (z.symm.trans e)
      · obtain ⟨o, eo⟩ := id L
        rw [e, upd_ne (Ne.symm (yla L)), upd_ne (Ne.symm (dla L)), hla o eo] at z
        cases z
    have hla0 : ∀ o, lo = some o → (upd H1 an (.lst [])) la = some o := fun o e => (Same.upd nan) _ _ (s1 _ _ (hla o e))
    have han0 : (upd H1 an (.lst [])) an = some (.lst ((saidTo (cs.take 0)).map V.int)) := upd_same
    generalize upd H1 an (.lst []) = H2 at hyd0 hla0 han0 ⊢
    refine while_by (fun σ H' => ∃ (n : Nat) (o4 o5 o6 o7 o8 : Option V), n ≤ cs.length ∧ σ = [some (.ref la), some (.ref y), some (.ref an), some (nv (lineC (cs.take n)).length), o4, o5, o6, o7, o8] ∧ (∀ o, lo = some o → H' la = some o) ∧ H' an = some (.lst ((saidTo (cs.take n)).map V.int)) ∧ YardO A (fun b => ((∃ o, lo = some o) → b ≠ la) ∧ b ≠ an) H' y (after Ut05.init (cs.take n)))
      (fun σ _ => (lineC cs).length + 1 - slotN σ 3) ⟨0, none, none, none, none, none, Nat.zero_le _, rfl, hla0, han0, hyd0⟩ ?_ ?_
    · rintro σ H' ⟨n, o4, o5, o6, o7, o8, hn, rfl, hla', han, hyd⟩
      refine ⟨_, rfl, _, rfl, la, _, rfl, .inl (hS _ hla'), _, _, rfl, rfl, _, rfl, if_dec (fun c => ?_) fun c => ?_⟩
      · rw [List.length_map] at c
        have hlt : n < cs.length := line_lt.mp (by omega)
        obtain ⟨c, hc⟩ : ∃ c, cs[n]? = some c := ⟨_, List.getElem?_eq_getElem hlt⟩
        have okc := hok c (List.mem_of_getElem? hc)
        have dr := line_drop hc
        have lt := line_take hc
        have fits : (lineC (cs.take (n + 1))).length ≤ (lineC cs).length := by
          rw [line_split hc, List.length_append, List.length_append]
          omega
        rw [lt] at fits
        have num : ((lineC cs).map nv)[(lineC (cs.take n)).length]? = some (nv (numC c)) := by rw [List.getElem?_map, line_num dr]; rfl
        have pln : (plains.map nv)[numC c]? = some (nv (plainC c).length) := by rw [List.getElem?_map, plainC_len okc]; rfl
        have hrw : (hasRow.map V.bl)[numC c]? = some (V.bl (rowC c).isSome) := by rw [List.getElem?_map, hasRow_is c]; rfl
        have cut := line_plain dr
        have many := fun r => @line_many _ _ _ _ dr r
        have rowc := fun r => @line_row _ _ _ _ dr r
        have lt1 := lt
        generalize (lineC (cs.take n)).length = at_ at num dr cut many rowc fits lt1 ⊢
        have hcut : cutV ((lineC cs).map nv) (some ((at_ : Int) + 1)) (some ((at_ : Int) + 1 + ((plainC c).length : Int))) = (plainC c).map nv := by
          have e := cut_nat (xs := (lineC cs).map nv) (i := at_ + 1) (n := (plainC c).length)
          rw [← List.map_drop, ← List.map_take, cut] at e
          exact e
        refine ⟨_, rfl, _, rfl, la, _, _, _, rfl, rfl, hS _ hla', atI_nat num, _, rfl, _, _, rfl, rfl, _, rfl, A.pT, _, _, _, rfl, rfl, U.p _, atI_nat pln, _, _, rfl, rfl, _, rfl, _, rfl, _, _, rfl, rfl, _, rfl, _, rfl, _, rfl, la, _, rfl, hS _ hla', fun p6 n6 => ?_⟩
        rw [hcut]
        refine ⟨Nat.zero_le _, fun p7 n7' => ⟨_, rfl, _, rfl, A.rT, _, _, _, rfl, rfl, U.r _, atI_nat hrw, _, rfl, ?_⟩⟩
        have s6 := Same.upd (o := .lst ((plainC c).map nv)) n6
        have n7 : H' p7 = none := s6.free n7'
        have s7 := Same.upd (o := .lst []) n7'
        have hp6 := s7 _ _ (upd_same (H := H') (a := p6) (o := .lst ((plainC c).map nv)))
        have hp7 : (upd (upd H' p6 (.lst ((plainC c).map nv))) p7 (.lst [])) p7 = some (.lst []) := upd_same
        have sc := s6.trans s7
        generalize upd (upd H' p6 (.lst ((plainC c).map nv))) p7 (.lst []) = Hc at sc hp6 hp7 ⊢
        rcases hrc : rowC c with _ | r
        · refine iteF ?_
          have hp7 : Hc p7 = some (.lst ((rowD c).map nv)) := by
            rw [hp7]
            unfold rowD
            rw [hrc]
            rfl
          rw [flat_len0 hrc] at fits
          have hb : ∀ b, (((∃ o, lo = some o) → b ≠ la) ∧ b ≠ an) ∧ H' b ≠ none → ((∃ o, lo = some o) → b ≠ la) ∧ b ≠ an := fun b z => z.1
          refine ⟨_, rfl, _, rfl, _, rfl, _, rfl, y, p6, p7, fun b => (((∃ o, lo = some o) → b ≠ la) ∧ b ≠ an) ∧ H' b ≠ none, after Ut05.init (cs.take n), c, rfl, YardO.same sc hyd.tight, good_after _ good_init, hok c (List.mem_of_getElem? hc), fun z => z.2 n6, fun z => z.2 n7, hp6, hp7, fun H3 p8 yd ke fr hp => ?_⟩
          have nla1 : (∃ o, lo = some o) → la ≠ p7 := fun ⟨o, e⟩ z => by have e1 := hla' o e; rw [z, n7] at e1; cases e1
          have nan1 : an ≠ p7 := fun z => by have e1 := han; rw [z, n7] at e1; cases e1
          have la3 : ∀ o, lo = some o → H3 la = some o := fun o e => ke _ _ (sc _ _ (hla' o e)) fun z => z.elim (fun z => z.1.1 ⟨o, e⟩ rfl) (nla1 ⟨o, e⟩)
          have an3 := ke _ _ (sc _ _ han) fun z => z.elim (fun z => z.1.2 rfl) nan1
          have ne8 : p8 ≠ an := fun z => (fr _ (by rw [z]; exact sc _ _ han)).elim (fun k => k.1.2 z) fun k => nan1 (z.symm.trans k)
          rw [← after_more, ← take_more hc] at yd
          have said := said_more (cs.take n) c
          rw [← take_more hc] at said
          have sz : (saidTo (cs.take (n + 1))).length ≤ (saidTo cs).length := said_take
          rw [said, List.length_append, List.length_append, List.length_cons, List.length_nil] at sz
          generalize Ut05.step (after Ut05.init (cs.take n)) c = st at hp said sz
          have hp' : (upd H3 an (.lst ((saidTo (cs.take n)).map V.int ++ [V.int ((st.2.map V.int).length : Nat)]))) p8 = some (.lst (st.2.map V.int)) := by
            rw [upd_ne ne8]
            exact hp
          refine ⟨_, rfl, .inl ⟨rfl, _, SqL.of an3⟩, _, rfl, p8, _, rfl, .inl (SqL.of hp), an, _, _, rfl, rfl, an3, ?_, _, rfl, .inl ⟨rfl, _, SqL.of upd_same⟩, _, rfl, an, p8, _, _, rfl, rfl, upd_same, hp', ?_, ⟨n + 1, some (nv (numC c)), some (.int ((at_ : Int) + 1 + ((plainC c).length : Int))), some (.ref p6), some (.ref p7), some (.ref p8), hlt, ?_, ?_, ?_, ?_⟩, ?_⟩
          · rw [List.length_map]
            exact Nat.lt_of_le_of_lt (by omega : _ ≤ 10000000) (by decide)
          · rw [List.length_append, List.length_map, List.length_map, List.length_cons, List.length_nil]
            exact Nat.le_trans (by omega : _ ≤ 10000000) (by decide)
          · have e3 : ((at_ : Int) + 1 + ((plainC c).length : Int)) = ((lineC (cs.take (n + 1))).length : Int) := by
              rw [lt1, flat_len0 hrc]
              omega
            rw [show nv (lineC (cs.take (n + 1))).length = V.int ((at_ : Int) + 1 + ((plainC c).length : Int)) from congrArg V.int e3.symm]
            rfl
          · intro o e
            rw [upd_ne (Ne.symm (nla ⟨o, e⟩)), upd_ne (Ne.symm (nla ⟨o, e⟩))]
            exact la3 o e
          · rw [upd_same, said, List.map_append, List.map_append, List.length_map]
            rfl
          · refine yd.frame (fun b o ob e => ?_) fun b xs e => ?_
            · have nb : ((∃ o, lo = some o) → b ≠ la) ∧ b ≠ an := by
                rcases ob with (ob | ob) | ob
                · exact ob.1
                · exact ⟨(fun L z => nla1 L (z.symm.trans ob)), (fun z => nan1 (z.symm.trans ob))⟩
                · exact ⟨(fun ⟨o, e⟩ z => by rw [z, sc _ _ (hla' o e)] at ob; cases ob), (fun z => by rw [z, sc _ _ han] at ob; cases ob)⟩
              exact ⟨nb, by rw [upd_ne nb.2, upd_ne nb.2]; exact e⟩
            · have nb : b ≠ an := fun z => by rw [z, an3] at e; cases e
              rw [upd_ne nb, upd_ne nb]
              exact e
          · show (lineC cs).length + 1 - ((at_ : Int) + 1 + ((plainC c).length : Int)).toNat < (lineC cs).length + 1 - ((at_ : Int)).toNat
            omega
        · refine iteT ?_
          rw [flat_len1 hrc] at fits
          have mny : ((lineC cs).map nv)[at_ + 1 + (plainC c).length]? = some (nv r.length) := by rw [List.getElem?_map, many r hrc]; rfl
          have hcut2 : cutV ((lineC cs).map nv) (some ((at_ : Int) + 1 + ((plainC c).length : Int) + 1)) (some ((at_ : Int) + 1 + ((plainC c).length : Int) + 1 + (r.length : Int))) = r.map nv := by
            have e := cut_nat (xs := (lineC cs).map nv) (i := at_ + 1 + (plainC c).length + 1) (n := r.length)
            rw [← List.map_drop, ← List.map_take, rowc r hrc] at e
            exact e
          refine ⟨_, rfl, _, _, rfl, rfl, _, rfl, _, rfl, la, _, _, _, rfl, rfl, hS _ (fun o e => sc _ _ (hla' o e)), atI_nat (j := at_ + 1 + (plainC c).length) mny, _, _, rfl, rfl, _, rfl, _, rfl, _, _, rfl, rfl, _, rfl, _, rfl, _, rfl, la, _, rfl, hS _ (fun o e => sc _ _ (hla' o e)), fun pr n8 => ?_⟩
          rw [hcut2]
          have n8H : H' pr = none := sc.free n8
          have hp8c : (upd Hc pr (.lst (r.map nv))) pr = some (.lst ((rowD c).map nv)) := by
            rw [upd_same]
            unfold rowD
            rw [hrc]
            rfl
          have hp6 := (Same.upd (o := .lst (r.map nv)) n8) _ _ hp6
          have sc := sc.trans (Same.upd (o := .lst (r.map nv)) n8)
          generalize upd Hc pr (.lst (r.map nv)) = Hc at sc hp6 hp8c ⊢
          have hb : ∀ b, (((∃ o, lo = some o) → b ≠ la) ∧ b ≠ an) ∧ H' b ≠ none → ((∃ o, lo = some o) → b ≠ la) ∧ b ≠ an := fun b z => z.1
          refine ⟨_, rfl, _, rfl, _, rfl, _, rfl, y, p6, pr, fun b => (((∃ o, lo = some o) → b ≠ la) ∧ b ≠ an) ∧ H' b ≠ none, after Ut05.init (cs.take n), c, rfl, YardO.same sc hyd.tight, good_after _ good_init, hok c (List.mem_of_getElem? hc), fun z => z.2 n6, fun z => z.2 n8H, hp6, hp8c, fun H3 p8 yd ke fr hp => ?_⟩
          have nla1 : (∃ o, lo = some o) → la ≠ pr := fun ⟨o, e⟩ z => by have e1 := hla' o e; rw [z, n8H] at e1; cases e1
          have nan1 : an ≠ pr := fun z => by have e1 := han; rw [z, n8H] at e1; cases e1
          have la3 : ∀ o, lo = some o → H3 la = some o := fun o e => ke _ _ (sc _ _ (hla' o e)) fun z => z.elim (fun z => z.1.1 ⟨o, e⟩ rfl) (nla1 ⟨o, e⟩)
          have an3 := ke _ _ (sc _ _ han) fun z => z.elim (fun z => z.1.2 rfl) nan1
          have ne8 : p8 ≠ an := fun z => (fr _ (by rw [z]; exact sc _ _ han)).elim (fun k => k.1.2 z) fun k => nan1 (z.symm.trans k)
          rw [← after_more, ← take_more hc] at yd
          have said := said_more (cs.take n) c
          rw [← take_more hc] at said
          have sz : (saidTo (cs.take (n + 1))).length ≤ (saidTo cs).length := said_take
          rw [said, List.length_append, List.length_append, List.length_cons, List.length_nil] at sz
          generalize Ut05.step (after Ut05.init (cs.take n)) c = st at hp said sz
          have hp' : (upd H3 an (.lst ((saidTo (cs.take n)).map V.int ++ [V.int ((st.2.map V.int).length : Nat)]))) p8 = some (.lst (st.2.map V.int)) := by
            rw [upd_ne ne8]
            exact hp
          refine ⟨_, rfl, .inl ⟨rfl, _, SqL.of an3⟩, _, rfl, p8, _, rfl, .inl (SqL.of hp), an, _, _, rfl, rfl, an3, ?_, _, rfl, .inl ⟨rfl, _, SqL.of upd_same⟩, _, rfl, an, p8, _, _, rfl, rfl, upd_same, hp', ?_, ⟨n + 1, some (nv (numC c)), some (.int ((at_ : Int) + 1 + ((plainC c).length : Int))), some (.ref p6), some (.ref pr), some (.ref p8), hlt, ?_, ?_, ?_, ?_⟩, ?_⟩
          · rw [List.length_map]
            exact Nat.lt_of_le_of_lt (by omega : _ ≤ 10000000) (by decide)
          · rw [List.length_append, List.length_map, List.length_map, List.length_cons, List.length_nil]
            exact Nat.le_trans (by omega : _ ≤ 10000000) (by decide)
          · have e3 : ((at_ : Int) + 1 + ((plainC c).length : Int) + 1 + (r.length : Int)) = ((lineC (cs.take (n + 1))).length : Int) := by
              rw [lt1, flat_len1 hrc]
              omega
            rw [show nv (lineC (cs.take (n + 1))).length = V.int ((at_ : Int) + 1 + ((plainC c).length : Int) + 1 + (r.length : Int)) from congrArg V.int e3.symm]
            rfl
          · intro o e
            rw [upd_ne (Ne.symm (nla ⟨o, e⟩)), upd_ne (Ne.symm (nla ⟨o, e⟩))]
            exact la3 o e
          · rw [upd_same, said, List.map_append, List.map_append, List.length_map]
            rfl
          · refine yd.frame (fun b o ob e => ?_) fun b xs e => ?_
            · have nb : ((∃ o, lo = some o) → b ≠ la) ∧ b ≠ an := by
                rcases ob with (ob | ob) | ob
                · exact ob.1
                · exact ⟨(fun L z => nla1 L (z.symm.trans ob)), (fun z => nan1 (z.symm.trans ob))⟩
                · exact ⟨(fun ⟨o, e⟩ z => by rw [z, sc _ _ (hla' o e)] at ob; cases ob), (fun z => by rw [z, sc _ _ han] at ob; cases ob)⟩
              exact ⟨nb, by rw [upd_ne nb.2, upd_ne nb.2]; exact e⟩
            · have nb : b ≠ an := fun z => by rw [z, an3] at e; cases e
              rw [upd_ne nb, upd_ne nb]
              exact e
          · show (lineC cs).length + 1 - ((at_ : Int) + 1 + ((plainC c).length : Int) + 1 + (r.length : Int)).toNat < (lineC cs).length + 1 - ((at_ : Int)).toNat
            omega
      · rw [List.length_map] at c
        have hge : n = cs.length := by
          rcases Nat.lt_or_ge n cs.length with z | z
          · exact absurd (line_lt.mpr z) (by omega)
          · omega
        subst hge
        rw [List.take_length] at han
        exact ⟨_, rfl, q _ an han⟩
    · rintro σ H' Q1 Q2 hq ⟨v1, h1, v2, h2, a, ys, e1, e2, i, j, e3, e4, k, e5, h3⟩
      exact ⟨v1, h1, v2, h2, a, ys, e1, e2, i, j, e3, e4, k, e5, hq _ _ h3⟩
end
end Sy

namespace Sy
open PySem PySem.Spec PyProof.Rows L2
/-! What the top has written, every address a letter; the end. -/
theorem sqt_lit {K : PySem.W.Frag} {a : Addr} {od : Option Addr} {its : Array Value} {n : Nat} {sl : Array (Option Value)} {xs : List V} (l : K.lookup a = some ⟨.type "tuple", od, .seq its n, sl⟩) (z : its.size ≤ sizeLine) (v : Vals xs its.toList) (H : Hp) : SqT K H a xs := .inr ⟨_, its, n, l, rfl, rfl, z, v⟩
theorem rel_int (i : Int) (t : Tok) : RelV (.int i) (.int i t) := ⟨t, rfl⟩
theorem all_mk {P : Program} {w : World} {K : PySem.W.Frag} {h : Heap} {mg : Str → Option Value} {fa : Addr} {CS CY CU CN CA CL CF kT pT rT r0 r1 r2 r3 r4 r5 f_si f_yi f_ta f_pi f_tk f_bc f_to f_br f_la f_ap f_bk f_mv f_ko f_so f_sp f_as f_ar f_an f_sc f_st f_rs f_fs f_fp f_ri f_rp f_hl f_lt f_cb f_tp f_bo f_ps f_ts f_sh : Addr} (X : K.In h) (G : h.Ns mainGlobals mg) (hfa : mg "answers" = some (.ref fa))
    {odK od0 od1 od2 od3 od4 od5 odP odR od_si an_si od_yi an_yi od_ta an_ta od_pi an_pi od_tk an_tk od_bc an_bc od_to an_to od_br an_br od_la an_la od_ap an_ap od_bk an_bk od_mv an_mv od_ko an_ko od_so an_so od_sp an_sp od_as an_as od_ar an_ar od_an an_an od_sc an_sc od_st an_st od_rs an_rs od_fs an_fs od_fp an_fp od_ri an_ri od_rp an_rp od_hl an_hl od_lt an_lt od_cb an_cb od_tp an_tp od_bo an_bo od_ps an_ps od_ts an_ts od_sh an_sh : Option Addr} {slK sl0 sl1 sl2 sl3 sl4 sl5 slP slR sl_si sl_yi sl_ta sl_pi sl_tk sl_bc sl_to sl_br sl_la sl_ap sl_bk sl_mv sl_ko sl_so sl_sp sl_as sl_ar sl_an sl_sc sl_st sl_rs sl_fs sl_fp sl_ri sl_rp sl_hl sl_lt sl_cb sl_tp sl_bo sl_ps sl_ts sl_sh : Array (Option Value)} {nK n0 n1 n2 n3 n4 n5 nP nR : Nat} {tMOST_SENTENCES tMOST_ANCHORS tMOST_BEADS tMOST_WEIGHT tMOST u0 v0 u1 v1 u2 v2 u3 v3 u4 v4 u5 v5 p0 p1 p2 p3 p4 p5 p6 p7 p8 p9 p10 : Tok} {oc_si kV_si dc_si pm_si cd_si ct_si oc_yi kV_yi dc_yi pm_yi cd_yi ct_yi oc_ta kV_ta dc_ta pm_ta cd_ta ct_ta oc_pi kV_pi dc_pi pm_pi cd_pi ct_pi oc_tk kV_tk dc_tk pm_tk cd_tk ct_tk oc_bc kV_bc dc_bc pm_bc cd_bc ct_bc oc_to kV_to dc_to pm_to cd_to ct_to oc_br kV_br dc_br pm_br cd_br ct_br oc_la kV_la dc_la pm_la cd_la ct_la oc_ap kV_ap dc_ap pm_ap cd_ap ct_ap oc_bk kV_bk dc_bk pm_bk cd_bk ct_bk oc_mv kV_mv dc_mv pm_mv cd_mv ct_mv oc_ko kV_ko dc_ko pm_ko cd_ko ct_ko oc_so kV_so dc_so pm_so cd_so ct_so oc_sp kV_sp dc_sp pm_sp cd_sp ct_sp oc_as kV_as dc_as pm_as cd_as ct_as oc_ar kV_ar dc_ar pm_ar cd_ar ct_ar oc_an kV_an dc_an pm_an cd_an ct_an oc_sc kV_sc dc_sc pm_sc cd_sc ct_sc oc_st kV_st dc_st pm_st cd_st ct_st oc_rs kV_rs dc_rs pm_rs cd_rs ct_rs oc_fs kV_fs dc_fs pm_fs cd_fs ct_fs oc_fp kV_fp dc_fp pm_fp cd_fp ct_fp oc_ri kV_ri dc_ri pm_ri cd_ri ct_ri oc_rp kV_rp dc_rp pm_rp cd_rp ct_rp oc_hl kV_hl dc_hl pm_hl cd_hl ct_hl oc_lt kV_lt dc_lt pm_lt cd_lt ct_lt oc_cb kV_cb dc_cb pm_cb cd_cb ct_cb oc_tp kV_tp dc_tp pm_tp cd_tp ct_tp oc_bo kV_bo dc_bo pm_bo cd_bo ct_bo oc_ps kV_ps dc_ps pm_ps cd_ps ct_ps oc_ts kV_ts dc_ts pm_ts cd_ts ct_ts oc_sh kV_sh dc_sh pm_sh cd_sh ct_sh : Value}

    (gCS : PySem.W.nsIn K mainGlobals "Sentence" = some (some (.ref CS)))
    (pgCS : PySem.W.plainGet K CS Str.empty = true)
    (hdCS : PySem.W.hasDictIn K CS = true)
    (poCS : PySem.W.plainOver K CS = true)
    (saCS : PySem.W.findIn K (.ref CS) "__setattr__" = some (some (.builtin "object.__setattr__")))
    (mkCS : PySem.W.makesIn K CS = true)
    (kcCS : PySem.W.keepIn K (.ref CS) = true)
    (nCS_length : PySem.W.findIn K (.ref CS) "length" = some none)
    (nCS_anchors : PySem.W.findIn K (.ref CS) "anchors" = some none)
    (gCY : PySem.W.nsIn K mainGlobals "Yard" = some (some (.ref CY)))
    (pgCY : PySem.W.plainGet K CY Str.empty = true)
    (hdCY : PySem.W.hasDictIn K CY = true)
    (poCY : PySem.W.plainOver K CY = true)
    (saCY : PySem.W.findIn K (.ref CY) "__setattr__" = some (some (.builtin "object.__setattr__")))
    (mkCY : PySem.W.makesIn K CY = true)
    (kcCY : PySem.W.keepIn K (.ref CY) = true)
    (nCY_kind_costs : PySem.W.findIn K (.ref CY) "kind_costs" = some none)
    (nCY_share : PySem.W.findIn K (.ref CY) "share" = some none)
    (nCY_weight : PySem.W.findIn K (.ref CY) "weight" = some none)
    (nCY_anchor_price : PySem.W.findIn K (.ref CY) "anchor_price" = some none)
    (nCY_first : PySem.W.findIn K (.ref CY) "first" = some none)
    (nCY_second : PySem.W.findIn K (.ref CY) "second" = some none)
    (nCY_fixed : PySem.W.findIn K (.ref CY) "fixed" = some none)
    (gCU : PySem.W.nsIn K mainGlobals "Unfit" = some (some (.ref CU)))
    (xCU : PySem.W.excIn K CU [.type "Exception", .type "BaseException", .type "object"] "Exception.__new__" = true)
    (kCU : PySem.W.keepIn K (.ref CU) = true)
    (bCU : PySem.W.subIn K (.ref CU) (.type "BaseException") = some true)
    (tCU : PySem.W.typeIn K (.ref CU) = some (.type "type"))
    (dCU : PySem.W.hasDictIn K CU = true)
    (gCN : PySem.W.nsIn K mainGlobals "NotThere" = some (some (.ref CN)))
    (xCN : PySem.W.excIn K CN [.type "Exception", .type "BaseException", .type "object"] "Exception.__new__" = true)
    (kCN : PySem.W.keepIn K (.ref CN) = true)
    (bCN : PySem.W.subIn K (.ref CN) (.type "BaseException") = some true)
    (tCN : PySem.W.typeIn K (.ref CN) = some (.type "type"))
    (dCN : PySem.W.hasDictIn K CN = true)
    (gCA : PySem.W.nsIn K mainGlobals "AgainstFixed" = some (some (.ref CA)))
    (xCA : PySem.W.excIn K CA [.type "Exception", .type "BaseException", .type "object"] "Exception.__new__" = true)
    (kCA : PySem.W.keepIn K (.ref CA) = true)
    (bCA : PySem.W.subIn K (.ref CA) (.type "BaseException") = some true)
    (tCA : PySem.W.typeIn K (.ref CA) = some (.type "type"))
    (dCA : PySem.W.hasDictIn K CA = true)
    (gCL : PySem.W.nsIn K mainGlobals "NoLaying" = some (some (.ref CL)))
    (xCL : PySem.W.excIn K CL [.type "Exception", .type "BaseException", .type "object"] "Exception.__new__" = true)
    (kCL : PySem.W.keepIn K (.ref CL) = true)
    (bCL : PySem.W.subIn K (.ref CL) (.type "BaseException") = some true)
    (tCL : PySem.W.typeIn K (.ref CL) = some (.type "type"))
    (dCL : PySem.W.hasDictIn K CL = true)
    (gCF : PySem.W.nsIn K mainGlobals "NoRoom" = some (some (.ref CF)))
    (xCF : PySem.W.excIn K CF [.type "Exception", .type "BaseException", .type "object"] "Exception.__new__" = true)
    (kCF : PySem.W.keepIn K (.ref CF) = true)
    (bCF : PySem.W.subIn K (.ref CF) (.type "BaseException") = some true)
    (tCF : PySem.W.typeIn K (.ref CF) = some (.type "type"))
    (dCF : PySem.W.hasDictIn K CF = true)
    (sCUCU : PySem.W.subIn K (.ref CU) (.ref CU) = some true)
    (sCNCU : PySem.W.subIn K (.ref CN) (.ref CU) = some false)
    (sCNCN : PySem.W.subIn K (.ref CN) (.ref CN) = some true)
    (sCACU : PySem.W.subIn K (.ref CA) (.ref CU) = some false)
    (sCACN : PySem.W.subIn K (.ref CA) (.ref CN) = some false)
    (sCACA : PySem.W.subIn K (.ref CA) (.ref CA) = some true)
    (sCLCU : PySem.W.subIn K (.ref CL) (.ref CU) = some false)
    (sCLCN : PySem.W.subIn K (.ref CL) (.ref CN) = some false)
    (sCLCA : PySem.W.subIn K (.ref CL) (.ref CA) = some false)
    (sCLCF : PySem.W.subIn K (.ref CL) (.ref CF) = some false)
    (sCLCL : PySem.W.subIn K (.ref CL) (.ref CL) = some true)
    (sCFCU : PySem.W.subIn K (.ref CF) (.ref CU) = some false)
    (sCFCN : PySem.W.subIn K (.ref CF) (.ref CN) = some false)
    (sCFCA : PySem.W.subIn K (.ref CF) (.ref CA) = some false)
    (sCFCF : PySem.W.subIn K (.ref CF) (.ref CF) = some true)
    (iMOST_SENTENCES : PySem.W.nsIn K mainGlobals "MOST_SENTENCES" = some (some (.int 14 tMOST_SENTENCES)))
    (iMOST_ANCHORS : PySem.W.nsIn K mainGlobals "MOST_ANCHORS" = some (some (.int 4 tMOST_ANCHORS)))
    (iMOST_BEADS : PySem.W.nsIn K mainGlobals "MOST_BEADS" = some (some (.int 30 tMOST_BEADS)))
    (iMOST_WEIGHT : PySem.W.nsIn K mainGlobals "MOST_WEIGHT" = some (some (.int 99 tMOST_WEIGHT)))
    (iMOST : PySem.W.nsIn K mainGlobals "MOST" = some (some (.int 999 tMOST)))
    (flen : PySem.W.nsIn K mainGlobals "len" = some none)
    (frange : PySem.W.nsIn K mainGlobals "range" = some none)
    (fenumerate : PySem.W.nsIn K mainGlobals "enumerate" = some none)
    (fsum : PySem.W.nsIn K mainGlobals "sum" = some none)
    (fabs : PySem.W.nsIn K mainGlobals "abs" = some none)
    (fmax : PySem.W.nsIn K mainGlobals "max" = some none)
    (gK : PySem.W.nsIn K mainGlobals "KINDS" = some (some (.ref kT)))
    (gP : PySem.W.nsIn K mainGlobals "PLAIN_NUMBERS" = some (some (.ref pT)))
    (gR : PySem.W.nsIn K mainGlobals "HAS_ROW" = some (some (.ref rT)))
    (lK : K.lookup kT = some ⟨.type "tuple", odK, .seq #[.ref r0, .ref r1, .ref r2, .ref r3, .ref r4, .ref r5] nK, slK⟩)
    (lr0 : K.lookup r0 = some ⟨.type "tuple", od0, .seq #[.int 1 u0, .int 1 v0] n0, sl0⟩)
    (lr1 : K.lookup r1 = some ⟨.type "tuple", od1, .seq #[.int 1 u1, .int 2 v1] n1, sl1⟩)
    (lr2 : K.lookup r2 = some ⟨.type "tuple", od2, .seq #[.int 2 u2, .int 1 v2] n2, sl2⟩)
    (lr3 : K.lookup r3 = some ⟨.type "tuple", od3, .seq #[.int 2 u3, .int 2 v3] n3, sl3⟩)
    (lr4 : K.lookup r4 = some ⟨.type "tuple", od4, .seq #[.int 1 u4, .int 0 v4] n4, sl4⟩)
    (lr5 : K.lookup r5 = some ⟨.type "tuple", od5, .seq #[.int 0 u5, .int 1 v5] n5, sl5⟩)
    (lP : K.lookup pT = some ⟨.type "tuple", odP, .seq #[.int 9 p0, .int 2 p1, .int 2 p2, .int 2 p3, .int 0 p4, .int 0 p5, .int 2 p6, .int 2 p7, .int 3 p8, .int 2 p9, .int 0 p10] nP, slP⟩)
    (lR : K.lookup rT = some ⟨.type "tuple", odR, .seq #[.bool false, .bool true, .bool false, .bool false, .bool false, .bool true, .bool false, .bool false, .bool true, .bool false, .bool false] nR, slR⟩)
    (a_si : PySem.W.findIn K (.ref CS) "__init__" = some (some (.ref f_si)))
    (i_si : PySem.W.isFn K (.ref f_si) = true)
    (l_si : K.lookup f_si = some ⟨oc_si, od_si, .func (PySem.W.fnOf "__init__" "Sentence.__init__" (defArgs stSInit) (defBody stSInit) (defScope stSInit) .none kV_si dc_si pm_si an_si cd_si ct_si), sl_si⟩)
    (c_si : PySem.W.codeIn K cd_si "Sentence.__init__" = true)
    (k_si : PySem.W.keepIn K (.ref f_si) = true)
    (a_yi : PySem.W.findIn K (.ref CY) "__init__" = some (some (.ref f_yi)))
    (i_yi : PySem.W.isFn K (.ref f_yi) = true)
    (l_yi : K.lookup f_yi = some ⟨oc_yi, od_yi, .func (PySem.W.fnOf "__init__" "Yard.__init__" (defArgs stYInit) (defBody stYInit) (defScope stYInit) .none kV_yi dc_yi pm_yi an_yi cd_yi ct_yi), sl_yi⟩)
    (c_yi : PySem.W.codeIn K cd_yi "Yard.__init__" = true)
    (k_yi : PySem.W.keepIn K (.ref f_yi) = true)
    (a_ta : PySem.W.findIn K (.ref CY) "text_at" = some (some (.ref f_ta)))
    (i_ta : PySem.W.isFn K (.ref f_ta) = true)
    (l_ta : K.lookup f_ta = some ⟨oc_ta, od_ta, .func (PySem.W.fnOf "text_at" "Yard.text_at" (defArgs stTextAt) (defBody stTextAt) (defScope stTextAt) .none kV_ta dc_ta pm_ta an_ta cd_ta ct_ta), sl_ta⟩)
    (c_ta : PySem.W.codeIn K cd_ta "Yard.text_at" = true)
    (k_ta : PySem.W.keepIn K (.ref f_ta) = true)
    (a_pi : PySem.W.findIn K (.ref CY) "put_in" = some (some (.ref f_pi)))
    (i_pi : PySem.W.isFn K (.ref f_pi) = true)
    (l_pi : K.lookup f_pi = some ⟨oc_pi, od_pi, .func (PySem.W.fnOf "put_in" "Yard.put_in" (defArgs stPutIn) (defBody stPutIn) (defScope stPutIn) .none kV_pi dc_pi pm_pi an_pi cd_pi ct_pi), sl_pi⟩)
    (c_pi : PySem.W.codeIn K cd_pi "Yard.put_in" = true)
    (k_pi : PySem.W.keepIn K (.ref f_pi) = true)
    (a_tk : PySem.W.findIn K (.ref CY) "take_out" = some (some (.ref f_tk)))
    (i_tk : PySem.W.isFn K (.ref f_tk) = true)
    (l_tk : K.lookup f_tk = some ⟨oc_tk, od_tk, .func (PySem.W.fnOf "take_out" "Yard.take_out" (defArgs stTakeOut) (defBody stTakeOut) (defScope stTakeOut) .none kV_tk dc_tk pm_tk an_tk cd_tk ct_tk), sl_tk⟩)
    (c_tk : PySem.W.codeIn K cd_tk "Yard.take_out" = true)
    (k_tk : PySem.W.keepIn K (.ref f_tk) = true)
    (a_bc : PySem.W.findIn K (.ref CY) "bead_cost" = some (some (.ref f_bc)))
    (i_bc : PySem.W.isFn K (.ref f_bc) = true)
    (l_bc : K.lookup f_bc = some ⟨oc_bc, od_bc, .func (PySem.W.fnOf "bead_cost" "Yard.bead_cost" (defArgs stCost) (defBody stCost) (defScope stCost) .none kV_bc dc_bc pm_bc an_bc cd_bc ct_bc), sl_bc⟩)
    (c_bc : PySem.W.codeIn K cd_bc "Yard.bead_cost" = true)
    (k_bc : PySem.W.keepIn K (.ref f_bc) = true)
    (a_to : PySem.W.findIn K (.ref CY) "told" = some (some (.ref f_to)))
    (i_to : PySem.W.isFn K (.ref f_to) = true)
    (l_to : K.lookup f_to = some ⟨oc_to, od_to, .func (PySem.W.fnOf "told" "Yard.told" (defArgs stTold) (defBody stTold) (defScope stTold) .none kV_to dc_to pm_to an_to cd_to ct_to), sl_to⟩)
    (c_to : PySem.W.codeIn K cd_to "Yard.told" = true)
    (k_to : PySem.W.keepIn K (.ref f_to) = true)
    (a_br : PySem.W.findIn K (.ref CY) "best_rest" = some (some (.ref f_br)))
    (i_br : PySem.W.isFn K (.ref f_br) = true)
    (l_br : K.lookup f_br = some ⟨oc_br, od_br, .func (PySem.W.fnOf "best_rest" "Yard.best_rest" (defArgs stRest) (defBody stRest) (defScope stRest) .none kV_br dc_br pm_br an_br cd_br ct_br), sl_br⟩)
    (c_br : PySem.W.codeIn K cd_br "Yard.best_rest" = true)
    (k_br : PySem.W.keepIn K (.ref f_br) = true)
    (a_la : PySem.W.nsIn K mainGlobals "lacking_anchors" = some (some (.ref f_la)))
    (l_la : K.lookup f_la = some ⟨oc_la, od_la, .func (PySem.W.fnOf "lacking_anchors" "lacking_anchors" (defArgs stLack) (defBody stLack) (defScope stLack) .none kV_la dc_la pm_la an_la cd_la ct_la), sl_la⟩)
    (c_la : PySem.W.codeIn K cd_la "lacking_anchors" = true)
    (k_la : PySem.W.keepIn K (.ref f_la) = true)
    (a_ap : PySem.W.nsIn K mainGlobals "lengths_apart" = some (some (.ref f_ap)))
    (l_ap : K.lookup f_ap = some ⟨oc_ap, od_ap, .func (PySem.W.fnOf "lengths_apart" "lengths_apart" (defArgs stApart) (defBody stApart) (defScope stApart) .none kV_ap dc_ap pm_ap an_ap cd_ap ct_ap), sl_ap⟩)
    (c_ap : PySem.W.codeIn K cd_ap "lengths_apart" = true)
    (k_ap : PySem.W.keepIn K (.ref f_ap) = true)
    (a_bk : PySem.W.nsIn K mainGlobals "bead_keeps" = some (some (.ref f_bk)))
    (l_bk : K.lookup f_bk = some ⟨oc_bk, od_bk, .func (PySem.W.fnOf "bead_keeps" "bead_keeps" (defArgs stKeeps) (defBody stKeeps) (defScope stKeeps) .none kV_bk dc_bk pm_bk an_bk cd_bk ct_bk), sl_bk⟩)
    (c_bk : PySem.W.codeIn K cd_bk "bead_keeps" = true)
    (k_bk : PySem.W.keepIn K (.ref f_bk) = true)
    (a_mv : PySem.W.nsIn K mainGlobals "moved" = some (some (.ref f_mv)))
    (l_mv : K.lookup f_mv = some ⟨oc_mv, od_mv, .func (PySem.W.fnOf "moved" "moved" (defArgs stMoved) (defBody stMoved) (defScope stMoved) .none kV_mv dc_mv pm_mv an_mv cd_mv ct_mv), sl_mv⟩)
    (c_mv : PySem.W.codeIn K cd_mv "moved" = true)
    (k_mv : PySem.W.keepIn K (.ref f_mv) = true)
    (a_ko : PySem.W.nsIn K mainGlobals "kind_of" = some (some (.ref f_ko)))
    (l_ko : K.lookup f_ko = some ⟨oc_ko, od_ko, .func (PySem.W.fnOf "kind_of" "kind_of" (defArgs stKind) (defBody stKind) (defScope stKind) .none kV_ko dc_ko pm_ko an_ko cd_ko ct_ko), sl_ko⟩)
    (c_ko : PySem.W.codeIn K cd_ko "kind_of" = true)
    (k_ko : PySem.W.keepIn K (.ref f_ko) = true)
    (a_so : PySem.W.nsIn K mainGlobals "sizes_of" = some (some (.ref f_so)))
    (l_so : K.lookup f_so = some ⟨oc_so, od_so, .func (PySem.W.fnOf "sizes_of" "sizes_of" (defArgs stSizes) (defBody stSizes) (defScope stSizes) .none kV_so dc_so pm_so an_so cd_so ct_so), sl_so⟩)
    (c_so : PySem.W.codeIn K cd_so "sizes_of" = true)
    (k_so : PySem.W.keepIn K (.ref f_so) = true)
    (a_sp : PySem.W.nsIn K mainGlobals "spans_of" = some (some (.ref f_sp)))
    (l_sp : K.lookup f_sp = some ⟨oc_sp, od_sp, .func (PySem.W.fnOf "spans_of" "spans_of" (defArgs stSpans) (defBody stSpans) (defScope stSpans) .none kV_sp dc_sp pm_sp an_sp cd_sp ct_sp), sl_sp⟩)
    (c_sp : PySem.W.codeIn K cd_sp "spans_of" = true)
    (k_sp : PySem.W.keepIn K (.ref f_sp) = true)
    (a_as : PySem.W.nsIn K mainGlobals "answers" = some (some (.ref f_as)))
    (l_as : K.lookup f_as = some ⟨oc_as, od_as, .func (PySem.W.fnOf "answers" "answers" (defArgs stAnswers) (defBody stAnswers) (defScope stAnswers) .none kV_as dc_as pm_as an_as cd_as ct_as), sl_as⟩)
    (c_as : PySem.W.codeIn K cd_as "answers" = true)
    (k_as : PySem.W.keepIn K (.ref f_as) = true)
    (a_ar : PySem.W.nsIn K mainGlobals "answer_or_refusal" = some (some (.ref f_ar)))
    (l_ar : K.lookup f_ar = some ⟨oc_ar, od_ar, .func (PySem.W.fnOf "answer_or_refusal" "answer_or_refusal" (defArgs stRef) (defBody stRef) (defScope stRef) .none kV_ar dc_ar pm_ar an_ar cd_ar ct_ar), sl_ar⟩)
    (c_ar : PySem.W.codeIn K cd_ar "answer_or_refusal" = true)
    (k_ar : PySem.W.keepIn K (.ref f_ar) = true)
    (a_an : PySem.W.nsIn K mainGlobals "answer" = some (some (.ref f_an)))
    (l_an : K.lookup f_an = some ⟨oc_an, od_an, .func (PySem.W.fnOf "answer" "answer" (defArgs stAnswer) (defBody stAnswer) (defScope stAnswer) .none kV_an dc_an pm_an an_an cd_an ct_an), sl_an⟩)
    (c_an : PySem.W.codeIn K cd_an "answer" = true)
    (k_an : PySem.W.keepIn K (.ref f_an) = true)
    (a_sc : PySem.W.nsIn K mainGlobals "set_costs" = some (some (.ref f_sc)))
    (l_sc : K.lookup f_sc = some ⟨oc_sc, od_sc, .func (PySem.W.fnOf "set_costs" "set_costs" (defArgs stSetC) (defBody stSetC) (defScope stSetC) .none kV_sc dc_sc pm_sc an_sc cd_sc ct_sc), sl_sc⟩)
    (c_sc : PySem.W.codeIn K cd_sc "set_costs" = true)
    (k_sc : PySem.W.keepIn K (.ref f_sc) = true)
    (a_st : PySem.W.nsIn K mainGlobals "set_texts" = some (some (.ref f_st)))
    (l_st : K.lookup f_st = some ⟨oc_st, od_st, .func (PySem.W.fnOf "set_texts" "set_texts" (defArgs stSetT) (defBody stSetT) (defScope stSetT) .none kV_st dc_st pm_st an_st cd_st ct_st), sl_st⟩)
    (c_st : PySem.W.codeIn K cd_st "set_texts" = true)
    (k_st : PySem.W.keepIn K (.ref f_st) = true)
    (a_rs : PySem.W.nsIn K mainGlobals "read_sentences" = some (some (.ref f_rs)))
    (l_rs : K.lookup f_rs = some ⟨oc_rs, od_rs, .func (PySem.W.fnOf "read_sentences" "read_sentences" (defArgs stRead) (defBody stRead) (defScope stRead) .none kV_rs dc_rs pm_rs an_rs cd_rs ct_rs), sl_rs⟩)
    (c_rs : PySem.W.codeIn K cd_rs "read_sentences" = true)
    (k_rs : PySem.W.keepIn K (.ref f_rs) = true)
    (a_fs : PySem.W.nsIn K mainGlobals "fit_sentence" = some (some (.ref f_fs)))
    (l_fs : K.lookup f_fs = some ⟨oc_fs, od_fs, .func (PySem.W.fnOf "fit_sentence" "fit_sentence" (defArgs stFit) (defBody stFit) (defScope stFit) .none kV_fs dc_fs pm_fs an_fs cd_fs ct_fs), sl_fs⟩)
    (c_fs : PySem.W.codeIn K cd_fs "fit_sentence" = true)
    (k_fs : PySem.W.keepIn K (.ref f_fs) = true)
    (a_fp : PySem.W.nsIn K mainGlobals "fix_pair" = some (some (.ref f_fp)))
    (l_fp : K.lookup f_fp = some ⟨oc_fp, od_fp, .func (PySem.W.fnOf "fix_pair" "fix_pair" (defArgs stFix) (defBody stFix) (defScope stFix) .none kV_fp dc_fp pm_fp an_fp cd_fp ct_fp), sl_fp⟩)
    (c_fp : PySem.W.codeIn K cd_fp "fix_pair" = true)
    (k_fp : PySem.W.keepIn K (.ref f_fp) = true)
    (a_ri : PySem.W.nsIn K mainGlobals "refuse_if_not_there" = some (some (.ref f_ri)))
    (l_ri : K.lookup f_ri = some ⟨oc_ri, od_ri, .func (PySem.W.fnOf "refuse_if_not_there" "refuse_if_not_there" (defArgs stRint) (defBody stRint) (defScope stRint) .none kV_ri dc_ri pm_ri an_ri cd_ri ct_ri), sl_ri⟩)
    (c_ri : PySem.W.codeIn K cd_ri "refuse_if_not_there" = true)
    (k_ri : PySem.W.keepIn K (.ref f_ri) = true)
    (a_rp : PySem.W.nsIn K mainGlobals "free_pair" = some (some (.ref f_rp)))
    (l_rp : K.lookup f_rp = some ⟨oc_rp, od_rp, .func (PySem.W.fnOf "free_pair" "free_pair" (defArgs stFree) (defBody stFree) (defScope stFree) .none kV_rp dc_rp pm_rp an_rp cd_rp ct_rp), sl_rp⟩)
    (c_rp : PySem.W.codeIn K cd_rp "free_pair" = true)
    (k_rp : PySem.W.keepIn K (.ref f_rp) = true)
    (a_hl : PySem.W.nsIn K mainGlobals "how_laid" = some (some (.ref f_hl)))
    (l_hl : K.lookup f_hl = some ⟨oc_hl, od_hl, .func (PySem.W.fnOf "how_laid" "how_laid" (defArgs stHow) (defBody stHow) (defScope stHow) .none kV_hl dc_hl pm_hl an_hl cd_hl ct_hl), sl_hl⟩)
    (c_hl : PySem.W.codeIn K cd_hl "how_laid" = true)
    (k_hl : PySem.W.keepIn K (.ref f_hl) = true)
    (a_lt : PySem.W.nsIn K mainGlobals "laying_told" = some (some (.ref f_lt)))
    (l_lt : K.lookup f_lt = some ⟨oc_lt, od_lt, .func (PySem.W.fnOf "laying_told" "laying_told" (defArgs stLT) (defBody stLT) (defScope stLT) .none kV_lt dc_lt pm_lt an_lt cd_lt ct_lt), sl_lt⟩)
    (c_lt : PySem.W.codeIn K cd_lt "laying_told" = true)
    (k_lt : PySem.W.keepIn K (.ref f_lt) = true)
    (a_cb : PySem.W.nsIn K mainGlobals "cost_of_beads" = some (some (.ref f_cb)))
    (l_cb : K.lookup f_cb = some ⟨oc_cb, od_cb, .func (PySem.W.fnOf "cost_of_beads" "cost_of_beads" (defArgs stCB) (defBody stCB) (defScope stCB) .none kV_cb dc_cb pm_cb an_cb cd_cb ct_cb), sl_cb⟩)
    (c_cb : PySem.W.codeIn K cd_cb "cost_of_beads" = true)
    (k_cb : PySem.W.keepIn K (.ref f_cb) = true)
    (a_tp : PySem.W.nsIn K mainGlobals "try_pair" = some (some (.ref f_tp)))
    (l_tp : K.lookup f_tp = some ⟨oc_tp, od_tp, .func (PySem.W.fnOf "try_pair" "try_pair" (defArgs stPair) (defBody stPair) (defScope stPair) .none kV_tp dc_tp pm_tp an_tp cd_tp ct_tp), sl_tp⟩)
    (c_tp : PySem.W.codeIn K cd_tp "try_pair" = true)
    (k_tp : PySem.W.keepIn K (.ref f_tp) = true)
    (a_bo : PySem.W.nsIn K mainGlobals "bead_of" = some (some (.ref f_bo)))
    (l_bo : K.lookup f_bo = some ⟨oc_bo, od_bo, .func (PySem.W.fnOf "bead_of" "bead_of" (defArgs stBead) (defBody stBead) (defScope stBead) .none kV_bo dc_bo pm_bo an_bo cd_bo ct_bo), sl_bo⟩)
    (c_bo : PySem.W.codeIn K cd_bo "bead_of" = true)
    (k_bo : PySem.W.keepIn K (.ref f_bo) = true)
    (a_ps : PySem.W.nsIn K mainGlobals "put_sentence" = some (some (.ref f_ps)))
    (l_ps : K.lookup f_ps = some ⟨oc_ps, od_ps, .func (PySem.W.fnOf "put_sentence" "put_sentence" (defArgs stPut) (defBody stPut) (defScope stPut) .none kV_ps dc_ps pm_ps an_ps cd_ps ct_ps), sl_ps⟩)
    (c_ps : PySem.W.codeIn K cd_ps "put_sentence" = true)
    (k_ps : PySem.W.keepIn K (.ref f_ps) = true)
    (a_ts : PySem.W.nsIn K mainGlobals "take_sentence" = some (some (.ref f_ts)))
    (l_ts : K.lookup f_ts = some ⟨oc_ts, od_ts, .func (PySem.W.fnOf "take_sentence" "take_sentence" (defArgs stTake) (defBody stTake) (defScope stTake) .none kV_ts dc_ts pm_ts an_ts cd_ts ct_ts), sl_ts⟩)
    (c_ts : PySem.W.codeIn K cd_ts "take_sentence" = true)
    (k_ts : PySem.W.keepIn K (.ref f_ts) = true)
    (a_sh : PySem.W.nsIn K mainGlobals "shown" = some (some (.ref f_sh)))
    (l_sh : K.lookup f_sh = some ⟨oc_sh, od_sh, .func (PySem.W.fnOf "shown" "shown" (defArgs stShown) (defBody stShown) (defScope stShown) .none kV_sh dc_sh pm_sh an_sh cd_sh ct_sh), sl_sh⟩)
    (c_sh : PySem.W.codeIn K cd_sh "shown" = true)
    (k_sh : PySem.W.keepIn K (.ref f_sh) = true)
    : ∃ fd : FuncData, (∀ (s : Shared) (us : List Value), us.length = (["calls"] : List Str).length → BindsTo s fd ⟨us, []⟩ ((["calls"] : List Str).zip us)) ∧ ∀ base : Heap, K.In base → base.Ns mainGlobals mg → FnOk P w K mg base CX0 10 fa fd ["calls"] (spAnswers K) := by
  have e := hfa.symm.trans (PySem.W.mg_of X G a_as)
  cases e
  have kB : ∀ (H : Hp) (k : Nat), k ∈ ks6 → ∃ r, [r0, r1, r2, r3, r4, r5][k]? = some r ∧ SqT K H r [nv (bd k).1, nv (bd k).2] := by
    intro H k hk
    rcases (by simpa using hk : k = 0 ∨ k = 1 ∨ k = 2 ∨ k = 3 ∨ k = 4 ∨ k = 5) with rfl | rfl | rfl | rfl | rfl | rfl
    · exact ⟨r0, rfl, sqt_lit lr0 (by show 2 ≤ sizeLine; decide) (.cons (rel_int _ _) (.cons (rel_int _ _) .nil)) H⟩
    · exact ⟨r1, rfl, sqt_lit lr1 (by show 2 ≤ sizeLine; decide) (.cons (rel_int _ _) (.cons (rel_int _ _) .nil)) H⟩
    · exact ⟨r2, rfl, sqt_lit lr2 (by show 2 ≤ sizeLine; decide) (.cons (rel_int _ _) (.cons (rel_int _ _) .nil)) H⟩
    · exact ⟨r3, rfl, sqt_lit lr3 (by show 2 ≤ sizeLine; decide) (.cons (rel_int _ _) (.cons (rel_int _ _) .nil)) H⟩
    · exact ⟨r4, rfl, sqt_lit lr4 (by show 2 ≤ sizeLine; decide) (.cons (rel_int _ _) (.cons (rel_int _ _) .nil)) H⟩
    · exact ⟨r5, rfl, sqt_lit lr5 (by show 2 ≤ sizeLine; decide) (.cons (rel_int _ _) (.cons (rel_int _ _) .nil)) H⟩
  have T : Txt K mg ⟨CS, CY, CU, CN, CA, CL, CF, kT, [r0, r1, r2, r3, r4, r5], pT, rT⟩ := ⟨⟨pgCS, hdCS, poCS, saCS⟩, ⟨pgCY, hdCY, poCY, saCY⟩, nCS_length, nCS_anchors, nCY_kind_costs, nCY_share, nCY_weight, nCY_anchor_price, nCY_first, nCY_second, nCY_fixed, PySem.W.mg_of X G gCS, PySem.W.mg_of X G gCY, ⟨PySem.W.mg_of X G gCU, xCU, kCU, bCU, tCU⟩, ⟨PySem.W.mg_of X G gCN, xCN, kCN, bCN, tCN⟩, ⟨PySem.W.mg_of X G gCA, xCA, kCA, bCA, tCA⟩, ⟨PySem.W.mg_of X G gCL, xCL, kCL, bCL, tCL⟩, ⟨PySem.W.mg_of X G gCF, xCF, kCF, bCF, tCF⟩, PySem.W.mg_of X G gK, sqt_lit lK (by show 6 ≤ sizeLine; decide) (.cons rfl (.cons rfl (.cons rfl (.cons rfl (.cons rfl (.cons rfl .nil)))))), kB, rfl, PySem.W.mg_of X G gP, PySem.W.mg_of X G gR, PySem.W.mg_none_of X G flen, PySem.W.mg_none_of X G frange, PySem.W.mg_none_of X G fenumerate, PySem.W.mg_none_of X G fsum, PySem.W.mg_none_of X G fabs, PySem.W.mg_none_of X G fmax⟩
  have N : Nums mg := ⟨⟨_, PySem.W.mg_of X G iMOST_SENTENCES⟩, ⟨_, PySem.W.mg_of X G iMOST_ANCHORS⟩, ⟨_, PySem.W.mg_of X G iMOST_BEADS⟩, ⟨_, PySem.W.mg_of X G iMOST_WEIGHT⟩, ⟨_, PySem.W.mg_of X G iMOST⟩⟩
  have M : Exms K ⟨CS, CY, CU, CN, CA, CL, CF, kT, [r0, r1, r2, r3, r4, r5], pT, rT⟩ := ⟨PySem.W.exm_ref bCU dCU tCU sCUCU, PySem.W.exm_ref bCU dCU tCU sCNCU, PySem.W.exm_ref bCN dCN tCN sCNCN, PySem.W.exm_ref bCU dCU tCU sCACU, PySem.W.exm_ref bCN dCN tCN sCACN, PySem.W.exm_ref bCA dCA tCA sCACA, PySem.W.exm_ref bCU dCU tCU sCLCU, PySem.W.exm_ref bCN dCN tCN sCLCN, PySem.W.exm_ref bCA dCA tCA sCLCA, PySem.W.exm_ref bCF dCF tCF sCLCF, PySem.W.exm_ref bCL dCL tCL sCLCL, PySem.W.exm_ref bCU dCU tCU sCFCU, PySem.W.exm_ref bCN dCN tCN sCFCN, PySem.W.exm_ref bCA dCA tCA sCFCA, PySem.W.exm_ref bCF dCF tCF sCFCF⟩
  have U : Tups K ⟨CS, CY, CU, CN, CA, CL, CF, kT, [r0, r1, r2, r3, r4, r5], pT, rT⟩ := ⟨sqt_lit lP (by show 11 ≤ sizeLine; decide) (.cons (rel_int _ _) (.cons (rel_int _ _) (.cons (rel_int _ _) (.cons (rel_int _ _) (.cons (rel_int _ _) (.cons (rel_int _ _) (.cons (rel_int _ _) (.cons (rel_int _ _) (.cons (rel_int _ _) (.cons (rel_int _ _) (.cons (rel_int _ _) .nil))))))))))), sqt_lit lR (by show 11 ≤ sizeLine; decide) (.cons rfl (.cons rfl (.cons rfl (.cons rfl (.cons rfl (.cons rfl (.cons rfl (.cons rfl (.cons rfl (.cons rfl (.cons rfl .nil)))))))))))⟩
  have F_si := fun_mk (st := stSInit) l_si c_si k_si
  have F_yi := fun_mk (st := stYInit) l_yi c_yi k_yi
  have F_ta := fun_mk (st := stTextAt) l_ta c_ta k_ta
  have F_pi := fun_mk (st := stPutIn) l_pi c_pi k_pi
  have F_tk := fun_mk (st := stTakeOut) l_tk c_tk k_tk
  have F_bc := fun_mk (st := stCost) l_bc c_bc k_bc
  have F_to := fun_mk (st := stTold) l_to c_to k_to
  have F_br := fun_mk (st := stRest) l_br c_br k_br
  have F_la := fun_mk (st := stLack) l_la c_la k_la
  have F_ap := fun_mk (st := stApart) l_ap c_ap k_ap
  have F_bk := fun_mk (st := stKeeps) l_bk c_bk k_bk
  have F_mv := fun_mk (st := stMoved) l_mv c_mv k_mv
  have F_ko := fun_mk (st := stKind) l_ko c_ko k_ko
  have F_so := fun_mk (st := stSizes) l_so c_so k_so
  have F_sp := fun_mk (st := stSpans) l_sp c_sp k_sp
  have F_as := fun_mk (st := stAnswers) l_as c_as k_as
  have F_ar := fun_mk (st := stRef) l_ar c_ar k_ar
  have F_an := fun_mk (st := stAnswer) l_an c_an k_an
  have F_sc := fun_mk (st := stSetC) l_sc c_sc k_sc
  have F_st := fun_mk (st := stSetT) l_st c_st k_st
  have F_rs := fun_mk (st := stRead) l_rs c_rs k_rs
  have F_fs := fun_mk (st := stFit) l_fs c_fs k_fs
  have F_fp := fun_mk (st := stFix) l_fp c_fp k_fp
  have F_ri := fun_mk (st := stRint) l_ri c_ri k_ri
  have F_rp := fun_mk (st := stFree) l_rp c_rp k_rp
  have F_hl := fun_mk (st := stHow) l_hl c_hl k_hl
  have F_lt := fun_mk (st := stLT) l_lt c_lt k_lt
  have F_cb := fun_mk (st := stCB) l_cb c_cb k_cb
  have F_tp := fun_mk (st := stPair) l_tp c_tp k_tp
  have F_bo := fun_mk (st := stBead) l_bo c_bo k_bo
  have F_ps := fun_mk (st := stPut) l_ps c_ps k_ps
  have F_ts := fun_mk (st := stTake) l_ts c_ts k_ts
  have F_sh := fun_mk (st := stShown) l_sh c_sh k_sh
  have b_si := F_si.binds (ps := ["self", "length", "anchors"]) fun _ _ _ _ _ _ us hl => match us, hl with | [_, _, _], _ => rfl
  have b_yi := F_yi.binds (ps := ["self"]) fun _ _ _ _ _ _ us hl => match us, hl with | [_], _ => rfl
  have b_ta := F_ta.binds (ps := ["self", "side"]) fun _ _ _ _ _ _ us hl => match us, hl with | [_, _], _ => rfl
  have b_pi := F_pi.binds (ps := ["self", "side", "place", "sentence"]) fun _ _ _ _ _ _ us hl => match us, hl with | [_, _, _, _], _ => rfl
  have b_tk := F_tk.binds (ps := ["self", "side", "place"]) fun _ _ _ _ _ _ us hl => match us, hl with | [_, _, _], _ => rfl
  have b_bc := F_bc.binds (ps := ["self", "kind", "i", "j"]) fun _ _ _ _ _ _ us hl => match us, hl with | [_, _, _, _], _ => rfl
  have b_to := F_to.binds (ps := ["self", "fixed"]) fun _ _ _ _ _ _ us hl => match us, hl with | [_, _], _ => rfl
  have b_br := F_br.binds (ps := ["self", "fixed", "rests", "i", "j"]) fun _ _ _ _ _ _ us hl => match us, hl with | [_, _, _, _, _], _ => rfl
  have b_la := F_la.binds (ps := ["ones", "others"]) fun _ _ _ _ _ _ us hl => match us, hl with | [_, _], _ => rfl
  have b_ap := F_ap.binds (ps := ["share", "ones", "others"]) fun _ _ _ _ _ _ us hl => match us, hl with | [_, _, _], _ => rfl
  have b_bk := F_bk.binds (ps := ["fixed", "kind", "i", "j"]) fun _ _ _ _ _ _ us hl => match us, hl with | [_, _, _, _], _ => rfl
  have b_mv := F_mv.binds (ps := ["pair", "side", "place", "steps"]) fun _ _ _ _ _ _ us hl => match us, hl with | [_, _, _, _], _ => rfl
  have b_ko := F_ko.binds (ps := ["many", "others"]) fun _ _ _ _ _ _ us hl => match us, hl with | [_, _], _ => rfl
  have b_so := F_so.binds (ps := ["kinds"]) fun _ _ _ _ _ _ us hl => match us, hl with | [_], _ => rfl
  have b_sp := F_sp.binds (ps := ["kinds"]) fun _ _ _ _ _ _ us hl => match us, hl with | [_], _ => rfl
  have b_ar := F_ar.binds (ps := ["yard", "number", "plain", "row"]) fun _ _ _ _ _ _ us hl => match us, hl with | [_, _, _, _], _ => rfl
  have b_an := F_an.binds (ps := ["yard", "number", "plain", "row"]) fun _ _ _ _ _ _ us hl => match us, hl with | [_, _, _, _], _ => rfl
  have b_sc := F_sc.binds (ps := ["yard", "kind_costs", "share", "weight", "anchor_price"]) fun _ _ _ _ _ _ us hl => match us, hl with | [_, _, _, _, _], _ => rfl
  have b_st := F_st.binds (ps := ["yard", "many", "others", "row"]) fun _ _ _ _ _ _ us hl => match us, hl with | [_, _, _, _], _ => rfl
  have b_rs := F_rs.binds (ps := ["row"]) fun _ _ _ _ _ _ us hl => match us, hl with | [_], _ => rfl
  have b_fs := F_fs.binds (ps := ["length", "anchors"]) fun _ _ _ _ _ _ us hl => match us, hl with | [_, _], _ => rfl
  have b_fp := F_fp.binds (ps := ["yard", "i", "j"]) fun _ _ _ _ _ _ us hl => match us, hl with | [_, _, _], _ => rfl
  have b_ri := F_ri.binds (ps := ["yard", "i", "j"]) fun _ _ _ _ _ _ us hl => match us, hl with | [_, _, _], _ => rfl
  have b_rp := F_rp.binds (ps := ["yard", "i", "j"]) fun _ _ _ _ _ _ us hl => match us, hl with | [_, _, _], _ => rfl
  have b_hl := F_hl.binds (ps := ["yard"]) fun _ _ _ _ _ _ us hl => match us, hl with | [_], _ => rfl
  have b_lt := F_lt.binds (ps := ["yard", "fixed"]) fun _ _ _ _ _ _ us hl => match us, hl with | [_, _], _ => rfl
  have b_cb := F_cb.binds (ps := ["yard", "row"]) fun _ _ _ _ _ _ us hl => match us, hl with | [_, _], _ => rfl
  have b_tp := F_tp.binds (ps := ["yard", "i", "j"]) fun _ _ _ _ _ _ us hl => match us, hl with | [_, _, _], _ => rfl
  have b_bo := F_bo.binds (ps := ["yard", "side", "sentence"]) fun _ _ _ _ _ _ us hl => match us, hl with | [_, _, _], _ => rfl
  have b_ps := F_ps.binds (ps := ["yard", "side", "place", "length", "anchors"]) fun _ _ _ _ _ _ us hl => match us, hl with | [_, _, _, _, _], _ => rfl
  have b_ts := F_ts.binds (ps := ["yard", "side", "sentence"]) fun _ _ _ _ _ _ us hl => match us, hl with | [_, _, _], _ => rfl
  have b_sh := F_sh.binds (ps := ["yard"]) fun _ _ _ _ _ _ us hl => match us, hl with | [_], _ => rfl
  refine ⟨PySem.W.fnOf "answers" "answers" (defArgs stAnswers) (defBody stAnswers) (defScope stAnswers) .none kV_as dc_as pm_as an_as cd_as ct_as, fun s us hu => match us, hu with | [_], _ => .of_eq rfl, fun base _ _ => ?_⟩
  let A : Ads := ⟨CS, CY, CU, CN, CA, CL, CF, kT, [r0, r1, r2, r3, r4, r5], pT, rT⟩
  have U_la : Use P w K mg base CX0 1 "lacking_anchors" ["ones", "others"] (spLack A) := ⟨_, _, ok_lack F_la T, PySem.W.mg_of X G a_la, k_la, b_la⟩
  have U_ap : Use P w K mg base CX0 1 "lengths_apart" ["share", "ones", "others"] (spApart A) := ⟨_, _, ok_apart F_ap T, PySem.W.mg_of X G a_ap, k_ap, b_ap⟩
  have U_bk : Use P w K mg base CX0 1 "bead_keeps" ["fixed", "kind", "i", "j"] spKeeps := ⟨_, _, ok_keeps F_bk T, PySem.W.mg_of X G a_bk, k_bk, b_bk⟩
  have U_ko : Use P w K mg base CX0 1 "kind_of" ["many", "others"] spKind := ⟨_, _, ok_kind F_ko T, PySem.W.mg_of X G a_ko, k_ko, b_ko⟩
  have U_so : Use P w K mg base CX0 1 "sizes_of" ["kinds"] spSizes := ⟨_, _, ok_sizes F_so T, PySem.W.mg_of X G a_so, k_so, b_so⟩
  have U_si : UseI P w K mg base CX0 1 CS ["self", "length", "anchors"] (spSInit A) := ⟨_, _, ok_sinit F_si T, ⟨mkCS, a_si, i_si, kcCS⟩, b_si⟩
  have U_yi : UseI P w K mg base CX0 1 CY ["self"] (spYInit A) := ⟨_, _, ok_yinit F_yi T, ⟨mkCY, a_yi, i_yi, kcCY⟩, b_yi⟩
  have U_bc : UseM P w K mg base CX0 2 CY "bead_cost" ["self", "kind", "i", "j"] (spCost A) := ⟨_, _, ok_cost F_bc T U_la U_ap, ⟨a_bc, i_bc, k_bc⟩, b_bc⟩
  have U_br : UseM P w K mg base CX0 3 CY "best_rest" ["self", "fixed", "rests", "i", "j"] (spRest A) := ⟨_, _, ok_rest F_br T U_bk U_bc, ⟨a_br, i_br, k_br⟩, b_br⟩
  have U_to : UseM P w K mg base CX0 4 CY "told" ["self", "fixed"] (spTold A) := ⟨_, _, ok_told F_to T U_br, ⟨a_to, i_to, k_to⟩, b_to⟩
  have U_fs : Use P w K mg base (L2.CX P w) 3 "fit_sentence" ["length", "anchors"] (spFit A) := ⟨_, _, ok_fit F_fs T N U_si, PySem.W.mg_of X G a_fs, k_fs, b_fs⟩
  have U_rs : Use P w K mg base (L2.CX P w) 4 "read_sentences" ["row"] (spRead A) := ⟨_, _, ok_read F_rs T U_fs, PySem.W.mg_of X G a_rs, k_rs, b_rs⟩
  have U_sc : Use P w K mg base (L2.CX P w) 1 "set_costs" ["yard", "kind_costs", "share", "weight", "anchor_price"] (spSetC A) := ⟨_, _, ok_setc F_sc T N, PySem.W.mg_of X G a_sc, k_sc, b_sc⟩
  have U_st : Use P w K mg base (L2.CX P w) 5 "set_texts" ["yard", "many", "others", "row"] (spSetT A) := ⟨_, _, ok_sett F_st T N U_rs, PySem.W.mg_of X G a_st, k_st, b_st⟩
  have U_lt : Use P w K mg base (L2.CX P w) 5 "laying_told" ["yard", "fixed"] (spLT A) := ⟨_, _, ok_lt F_lt T U_to, PySem.W.mg_of X G a_lt, k_lt, b_lt⟩
  have U_hl : Use P w K mg base (L2.CX P w) 6 "how_laid" ["yard"] (spHow A) := ⟨_, _, ok_how F_hl T U_lt U_so, PySem.W.mg_of X G a_hl, k_hl, b_hl⟩
  have U_ta : UseM P w K mg base CX0 1 CY "text_at" ["self", "side"] (spTextAt A) := ⟨_, _, ok_textat F_ta T, ⟨a_ta, i_ta, k_ta⟩, b_ta⟩
  have U_mv : Use P w K mg base CX0 1 "moved" ["pair", "side", "place", "steps"] spMoved := ⟨_, _, ok_moved F_mv T, PySem.W.mg_of X G a_mv, k_mv, b_mv⟩
  have U_sp : Use P w K mg base CX0 1 "spans_of" ["kinds"] spSpans := ⟨_, _, ok_spans F_sp T, PySem.W.mg_of X G a_sp, k_sp, b_sp⟩
  have U_pi : UseM P w K mg base CX0 2 CY "put_in" ["self", "side", "place", "sentence"] (spPutIn A) := ⟨_, _, ok_putin F_pi T U_ta U_mv, ⟨a_pi, i_pi, k_pi⟩, b_pi⟩
  have U_tk : UseM P w K mg base CX0 2 CY "take_out" ["self", "side", "place"] (spTakeOut A) := ⟨_, _, ok_takeout F_tk T U_ta U_mv, ⟨a_tk, i_tk, k_tk⟩, b_tk⟩
  have U_ri : Use P w K mg base (L2.CX P w) 1 "refuse_if_not_there" ["yard", "i", "j"] (spRint A) := ⟨_, _, ok_rint F_ri T, PySem.W.mg_of X G a_ri, k_ri, b_ri⟩
  have U_fp : Use P w K mg base (L2.CX P w) 6 "fix_pair" ["yard", "i", "j"] (spFix A) := ⟨_, _, ok_fix F_fp T U_ri U_lt, PySem.W.mg_of X G a_fp, k_fp, b_fp⟩
  have U_rp : Use P w K mg base (L2.CX P w) 6 "free_pair" ["yard", "i", "j"] (spFree A) := ⟨_, _, ok_free F_rp T U_lt, PySem.W.mg_of X G a_rp, k_rp, b_rp⟩
  have U_cb : Use P w K mg base (L2.CX P w) 3 "cost_of_beads" ["yard", "row"] (spCB A) := ⟨_, _, ok_cb F_cb T N U_ko U_bc U_bk, PySem.W.mg_of X G a_cb, k_cb, b_cb⟩
  have U_tp : Use P w K mg base (L2.CX P w) 6 "try_pair" ["yard", "i", "j"] (spPair A) := ⟨_, _, ok_pair F_tp T U_ri U_lt, PySem.W.mg_of X G a_tp, k_tp, b_tp⟩
  have U_bo : Use P w K mg base (L2.CX P w) 6 "bead_of" ["yard", "side", "sentence"] (spBead A) := ⟨_, _, ok_bead F_bo T U_ta U_sp U_lt, PySem.W.mg_of X G a_bo, k_bo, b_bo⟩
  have U_ps : Use P w K mg base (L2.CX P w) 7 "put_sentence" ["yard", "side", "place", "length", "anchors"] (spPut A) := ⟨_, _, ok_put F_ps T N U_fs U_ta U_pi U_hl, PySem.W.mg_of X G a_ps, k_ps, b_ps⟩
  have U_ts : Use P w K mg base (L2.CX P w) 7 "take_sentence" ["yard", "side", "sentence"] (spTake A) := ⟨_, _, ok_take F_ts T U_ta U_tk U_hl, PySem.W.mg_of X G a_ts, k_ts, b_ts⟩
  have U_sh : Use P w K mg base CX0 1 "shown" ["yard"] (spShown A) := ⟨_, _, ok_shown F_sh T, PySem.W.mg_of X G a_sh, k_sh, b_sh⟩
  have U_an : Use P w K mg base (L2.CX P w) 8 "answer" ["yard", "number", "plain", "row"] (spAnswer A) := ⟨_, _, ok_answer F_an T U_sc U_st U_fp U_rp U_hl U_cb U_tp U_bo U_ps U_ts U_sh, PySem.W.mg_of X G a_an, k_an, b_an⟩
  have U_ar : Use P w K mg base CX0 9 "answer_or_refusal" ["yard", "number", "plain", "row"] (spRef A) := ⟨_, _, ok_ref F_ar T M U_an, PySem.W.mg_of X G a_ar, k_ar, b_ar⟩
  exact ok_answers F_as T U U_yi U_ar
end Sy
open PySem PySem.W PyProof.Rows
set_option maxRecDepth 100000 in
set_option maxHeartbeats 8000000 in
theorem PySem.Challenge.cw_sidebysideyard_s01_answers_holds : PySem.Challenge.rw_sidebysideyard_s01_answers.Holds := by
  w_on; k_headS; (case hw => exact ⟨[.list [.int 4]], by decide +kernel, by decide +kernel⟩)
  k_fillS
  refine L2.walk_specK (r := PySem.Challenge.rw_sidebysideyard_s01_answers) (k := 10) (CX := L2.CX0) (ps := ["calls"]) (sp := Sy.spAnswers) (by decide +kernel) rfl rfl ⟨rfl, by decide, by decide⟩ (fun w h Y => PySem.W.kIn_of Y) ?F ?S (fun _ _ _ _ z => z)
  case F =>
    intro w mg fa h Y KX G hmg
    refine' Sy.all_mk KX G hmg  ?gCS ?pgCS ?hdCS ?poCS ?saCS ?mkCS ?kcCS ?nCS_length ?nCS_anchors ?gCY ?pgCY ?hdCY ?poCY ?saCY ?mkCY ?kcCY ?nCY_kind_costs ?nCY_share ?nCY_weight ?nCY_anchor_price ?nCY_first ?nCY_second ?nCY_fixed ?gCU ?xCU ?kCU ?bCU ?tCU ?dCU ?gCN ?xCN ?kCN ?bCN ?tCN ?dCN ?gCA ?xCA ?kCA ?bCA ?tCA ?dCA ?gCL ?xCL ?kCL ?bCL ?tCL ?dCL ?gCF ?xCF ?kCF ?bCF ?tCF ?dCF ?sCUCU ?sCNCU ?sCNCN ?sCACU ?sCACN ?sCACA ?sCLCU ?sCLCN ?sCLCA ?sCLCF ?sCLCL ?sCFCU ?sCFCN ?sCFCA ?sCFCF ?iMOST_SENTENCES ?iMOST_ANCHORS ?iMOST_BEADS ?iMOST_WEIGHT ?iMOST ?flen ?frange ?fenumerate ?fsum ?fabs ?fmax ?gK ?gP ?gR ?lK ?lr0 ?lr1 ?lr2 ?lr3 ?lr4 ?lr5 ?lP ?lR ?a_si ?i_si ?l_si ?c_si ?k_si ?a_yi ?i_yi ?l_yi ?c_yi ?k_yi ?a_ta ?i_ta ?l_ta ?c_ta ?k_ta ?a_pi ?i_pi ?l_pi ?c_pi ?k_pi ?a_tk ?i_tk ?l_tk ?c_tk ?k_tk ?a_bc ?i_bc ?l_bc ?c_bc ?k_bc ?a_to ?i_to ?l_to ?c_to ?k_to ?a_br ?i_br ?l_br ?c_br ?k_br ?a_la ?l_la ?c_la ?k_la ?a_ap ?l_ap ?c_ap ?k_ap ?a_bk ?l_bk ?c_bk ?k_bk ?a_mv ?l_mv ?c_mv ?k_mv ?a_ko ?l_ko ?c_ko ?k_ko ?a_so ?l_so ?c_so ?k_so ?a_sp ?l_sp ?c_sp ?k_sp ?a_as ?l_as ?c_as ?k_as ?a_ar ?l_ar ?c_ar ?k_ar ?a_an ?l_an ?c_an ?k_an ?a_sc ?l_sc ?c_sc ?k_sc ?a_st ?l_st ?c_st ?k_st ?a_rs ?l_rs ?c_rs ?k_rs ?a_fs ?l_fs ?c_fs ?k_fs ?a_fp ?l_fp ?c_fp ?k_fp ?a_ri ?l_ri ?c_ri ?k_ri ?a_rp ?l_rp ?c_rp ?k_rp ?a_hl ?l_hl ?c_hl ?k_hl ?a_lt ?l_lt ?c_lt ?k_lt ?a_cb ?l_cb ?c_cb ?k_cb ?a_tp ?l_tp ?c_tp ?k_tp ?a_bo ?l_bo ?c_bo ?k_bo ?a_ps ?l_ps ?c_ps ?k_ps ?a_ts ?l_ts ?c_ts ?k_ts ?a_sh ?l_sh ?c_sh ?k_sh
    (case gCS => k_is)
    (case pgCS => k_is)
    (case hdCS => k_is)
    (case poCS => k_is)
    (case saCS => k_is)
    (case mkCS => k_is)
    (case kcCS => k_is)
    (case nCS_length => k_is)
    (case nCS_anchors => k_is)
    (case gCY => k_is)
    (case pgCY => k_is)
    (case hdCY => k_is)
    (case poCY => k_is)
    (case saCY => k_is)
    (case mkCY => k_is)
    (case kcCY => k_is)
    (case nCY_kind_costs => k_is)
    (case nCY_share => k_is)
    (case nCY_weight => k_is)
    (case nCY_anchor_price => k_is)
    (case nCY_first => k_is)
    (case nCY_second => k_is)
    (case nCY_fixed => k_is)
    (case gCU => k_is)
    (case xCU => k_exc)
    (case kCU => k_is)
    (case bCU => k_is)
    (case tCU => k_is)
    (case dCU => k_is)
    (case gCN => k_is)
    (case xCN => k_exc)
    (case kCN => k_is)
    (case bCN => k_is)
    (case tCN => k_is)
    (case dCN => k_is)
    (case gCA => k_is)
    (case xCA => k_exc)
    (case kCA => k_is)
    (case bCA => k_is)
    (case tCA => k_is)
    (case dCA => k_is)
    (case gCL => k_is)
    (case xCL => k_exc)
    (case kCL => k_is)
    (case bCL => k_is)
    (case tCL => k_is)
    (case dCL => k_is)
    (case gCF => k_is)
    (case xCF => k_exc)
    (case kCF => k_is)
    (case bCF => k_is)
    (case tCF => k_is)
    (case dCF => k_is)
    (case sCUCU => first | rfl | k_is)
    (case sCNCU => first | rfl | k_is)
    (case sCNCN => first | rfl | k_is)
    (case sCACU => first | rfl | k_is)
    (case sCACN => first | rfl | k_is)
    (case sCACA => first | rfl | k_is)
    (case sCLCU => first | rfl | k_is)
    (case sCLCN => first | rfl | k_is)
    (case sCLCA => first | rfl | k_is)
    (case sCLCF => first | rfl | k_is)
    (case sCLCL => first | rfl | k_is)
    (case sCFCU => first | rfl | k_is)
    (case sCFCN => first | rfl | k_is)
    (case sCFCA => first | rfl | k_is)
    (case sCFCF => first | rfl | k_is)
    (case iMOST_SENTENCES => k_is)
    (case iMOST_ANCHORS => k_is)
    (case iMOST_BEADS => k_is)
    (case iMOST_WEIGHT => k_is)
    (case iMOST => k_is)
    (case flen => k_is)
    (case frange => k_is)
    (case fenumerate => k_is)
    (case fsum => k_is)
    (case fabs => k_is)
    (case fmax => k_is)
    (case gK => k_is)
    (case gP => k_is)
    (case gR => k_is)
    (case lK => k_is)
    (case lr0 => k_is)
    (case lr1 => k_is)
    (case lr2 => k_is)
    (case lr3 => k_is)
    (case lr4 => k_is)
    (case lr5 => k_is)
    (case lP => k_is)
    (case lR => k_is)
    (case a_si => k_is)
    (case i_si => k_is)
    (case l_si => k_is)
    (case c_si => k_is)
    (case k_si => k_is)
    (case a_yi => k_is)
    (case i_yi => k_is)
    (case l_yi => k_is)
    (case c_yi => k_is)
    (case k_yi => k_is)
    (case a_ta => k_is)
    (case i_ta => k_is)
    (case l_ta => k_is)
    (case c_ta => k_is)
    (case k_ta => k_is)
    (case a_pi => k_is)
    (case i_pi => k_is)
    (case l_pi => k_is)
    (case c_pi => k_is)
    (case k_pi => k_is)
    (case a_tk => k_is)
    (case i_tk => k_is)
    (case l_tk => k_is)
    (case c_tk => k_is)
    (case k_tk => k_is)
    (case a_bc => k_is)
    (case i_bc => k_is)
    (case l_bc => k_is)
    (case c_bc => k_is)
    (case k_bc => k_is)
    (case a_to => k_is)
    (case i_to => k_is)
    (case l_to => k_is)
    (case c_to => k_is)
    (case k_to => k_is)
    (case a_br => k_is)
    (case i_br => k_is)
    (case l_br => k_is)
    (case c_br => k_is)
    (case k_br => k_is)
    (case a_la => k_is)
    (case l_la => k_is)
    (case c_la => k_is)
    (case k_la => k_is)
    (case a_ap => k_is)
    (case l_ap => k_is)
    (case c_ap => k_is)
    (case k_ap => k_is)
    (case a_bk => k_is)
    (case l_bk => k_is)
    (case c_bk => k_is)
    (case k_bk => k_is)
    (case a_mv => k_is)
    (case l_mv => k_is)
    (case c_mv => k_is)
    (case k_mv => k_is)
    (case a_ko => k_is)
    (case l_ko => k_is)
    (case c_ko => k_is)
    (case k_ko => k_is)
    (case a_so => k_is)
    (case l_so => k_is)
    (case c_so => k_is)
    (case k_so => k_is)
    (case a_sp => k_is)
    (case l_sp => k_is)
    (case c_sp => k_is)
    (case k_sp => k_is)
    (case a_as => k_is)
    (case l_as => k_is)
    (case c_as => k_is)
    (case k_as => k_is)
    (case a_ar => k_is)
    (case l_ar => k_is)
    (case c_ar => k_is)
    (case k_ar => k_is)
    (case a_an => k_is)
    (case l_an => k_is)
    (case c_an => k_is)
    (case k_an => k_is)
    (case a_sc => k_is)
    (case l_sc => k_is)
    (case c_sc => k_is)
    (case k_sc => k_is)
    (case a_st => k_is)
    (case l_st => k_is)
    (case c_st => k_is)
    (case k_st => k_is)
    (case a_rs => k_is)
    (case l_rs => k_is)
    (case c_rs => k_is)
    (case k_rs => k_is)
    (case a_fs => k_is)
    (case l_fs => k_is)
    (case c_fs => k_is)
    (case k_fs => k_is)
    (case a_fp => k_is)
    (case l_fp => k_is)
    (case c_fp => k_is)
    (case k_fp => k_is)
    (case a_ri => k_is)
    (case l_ri => k_is)
    (case c_ri => k_is)
    (case k_ri => k_is)
    (case a_rp => k_is)
    (case l_rp => k_is)
    (case c_rp => k_is)
    (case k_rp => k_is)
    (case a_hl => k_is)
    (case l_hl => k_is)
    (case c_hl => k_is)
    (case k_hl => k_is)
    (case a_lt => k_is)
    (case l_lt => k_is)
    (case c_lt => k_is)
    (case k_lt => k_is)
    (case a_cb => k_is)
    (case l_cb => k_is)
    (case c_cb => k_is)
    (case k_cb => k_is)
    (case a_tp => k_is)
    (case l_tp => k_is)
    (case c_tp => k_is)
    (case k_tp => k_is)
    (case a_bo => k_is)
    (case l_bo => k_is)
    (case c_bo => k_is)
    (case k_bo => k_is)
    (case a_ps => k_is)
    (case l_ps => k_is)
    (case c_ps => k_is)
    (case k_ps => k_is)
    (case a_ts => k_is)
    (case l_ts => k_is)
    (case c_ts => k_is)
    (case k_ts => k_is)
    (case a_sh => k_is)
    (case l_sh => k_is)
    (case c_sh => k_is)
    (case k_sh => k_is)
  case S =>
    intro K H xs a hO hwi hask hx
    cases hx with
    | cons h1 h2 =>
      cases h2
      cases h1 with
      | lst hs ha =>
        have e := L2.ints_dw a.1 _ ha
        subst e
        obtain ⟨cs, e1, e2, e3, e4, e5, e6⟩ := Sy.asked_read (l := a.1) hask
        have el : a.1.map L2.V.int = (Sy.lineC cs).map Sy.nv := by
          rw [e1]
          unfold Sy.casts
          rw [List.map_map]
          rfl
        rw [el] at hs
        refine ⟨_, cs, rfl, hs, e4, ?_, fun H' p hp => ?_⟩
        · rw [e5] at e6
          exact e6
        · have r : L2.Dw K H' (.ref p) (.list ((Sy.saidTo cs).map WData.int)) := .lst (L2.SqL.of hp) (L2.dw_ints _)
          have e7 : Sy.saidTo cs = PyUt05.answers a.1 := e5.symm
          rw [e7] at r
          exact r


import PyProof.Rows.All
import Wide.All
import OpenK.AllK
import Wide.FinOn
import Open.SpecLaws
import KE.OsGo
import HandS.Base
import HandS.Call
import HandS.List
import HandS.Comp
import HandS.Ends
import HandS.Dict
import HandS.Iter
import HandS.Words
import HandS.WordsList
import HandS.WordsDict
import HandS.Spec
import HandS.Zip
import HandS.Flt
import HandS.IsInst
import HandS.Conv
import HandS.SortKw
import HandS.More
import HandS.Walk
import KE.GoesMore
import KE.GoesEnum
import HandS.Text
import KE.KMinKey
import HandS.CallLocal
import PySem.Challenge.RW_clocktree_s01_answers
set_option linter.all false
set_option autoImplicit false
/-! The mathematics: trees, and their pairs; nothing of Python here. -/
namespace CM
open Lr72 (Tree)
theorem getD_at {α : Type} {l : List α} {i : Nat} {d : α} (h : i < l.length) : l[i]? = some (l.getD i d) := by simp [h]
/-- a tree's pairs, its joints numbered from m on; its own number; the next number -/
def prs : Tree → Nat → List (Nat × Nat) × Nat × Nat
  | .leaf k, m => ([], k, m)
  | .two x y, m => ((prs x m).1 ++ (prs y (prs x m).2.2).1 ++ [((prs x m).2.1, (prs y (prs x m).2.2).2.1)], (prs y (prs x m).2.2).2.2, (prs y (prs x m).2.2).2.2 + 1)
def high : Tree → Nat
  | .leaf _ => 0
  | .two x y => max (high x) (high y) + 1
theorem prs_next : ∀ (t : Tree) (m : Nat), (prs t m).2.2 = m + (prs t m).1.length
  | .leaf _, _ => rfl
  | .two x y, m => by
    have h1 := prs_next x m
    have h2 := prs_next y (prs x m).2.2
    show (prs y (prs x m).2.2).2.2 + 1 = m + ((prs x m).1 ++ (prs y (prs x m).2.2).1 ++ [((prs x m).2.1, (prs y (prs x m).2.2).2.1)]).length
    rw [List.length_append, List.length_append, List.length_singleton]
    omega
/-- which joint has this number as a side -/
def above (ps : List (Nat × Nat)) (k : Nat) : Option Nat := ps.findIdx? fun p => p.1 == k || p.2 == k
def other (p : Nat × Nat) (k : Nat) : Nat := if p.1 = k then p.2 else p.1
def numV (y k gone : Nat) : Nat := if y > gone then y - 2 else if y > k then y - 1 else y
def numW (x k gone oth : Nat) : Nat := numV (if x = gone then oth else x) k gone
def cutP (ps : List (Nat × Nat)) (j : Nat) : List (Nat × Nat) := ps.take j ++ ps.drop (j + 1)
def without (ps : List (Nat × Nat)) (k j : Nat) : List (Nat × Nat) := (cutP ps j).map fun p => (numW p.1 k (ps.length + 1 + j) (other (ps.getD j (0, 0)) k), numW p.2 k (ps.length + 1 + j) (other (ps.getD j (0, 0)) k))
/-- all ways to part a list of leaves, in order -/
def ways (l : List Nat) (ws : List (List Nat × List Nat)) : List (List Nat × List Nat) := l.foldl (fun ws k => ws.map (fun w => (w.1 ++ [k], w.2)) ++ ws.map (fun w => (w.1, w.2 ++ [k]))) ws
def split (l : List Nat) : List (List Nat × List Nat) := (ways (l.drop 1) [(l.take 1, [])]).drop 1
theorem ways_len : ∀ (l : List Nat) (ws : List (List Nat × List Nat)), (ways l ws).length = 2 ^ l.length * ws.length
  | [], ws => by show ws.length = 2 ^ 0 * ws.length; omega
  | k :: l, ws => by
    have h := ways_len l (ws.map (fun w => (w.1 ++ [k], w.2)) ++ ws.map (fun w => (w.1, w.2 ++ [k])))
    show (ways l (ws.map (fun w => (w.1 ++ [k], w.2)) ++ ws.map (fun w => (w.1, w.2 ++ [k])))).length = 2 ^ (l.length + 1) * ws.length
    rw [h, List.length_append, List.length_map, List.length_map, Nat.pow_succ, Nat.mul_assoc]
    congr 1
    omega
theorem ways_snoc (l : List Nat) (k : Nat) (ws : List (List Nat × List Nat)) : ways (l ++ [k]) ws = (ways l ws).map (fun w => (w.1 ++ [k], w.2)) ++ (ways l ws).map (fun w => (w.1, w.2 ++ [k])) := by
  unfold ways
  rw [List.foldl_append]
  rfl
/-! the trees that numbers tell: each pair joins what is there -/
def trs (n : Nat) (ns : List Nat) : Nat → List Tree
  | 0 => (List.range n).map .leaf
  | i + 1 => trs n ns i ++ [.two ((trs n ns i).getD (ns.getD (2 * i) 0) (.leaf 0)) ((trs n ns i).getD (ns.getD (2 * i + 1) 0) (.leaf 0))]
theorem trs_len (n : Nat) (ns : List Nat) : ∀ i, (trs n ns i).length = n + i
  | 0 => by show ((List.range n).map Tree.leaf).length = n; rw [List.length_map, List.length_range]
  | i + 1 => by
    show (trs n ns i ++ [_]).length = n + (i + 1)
    rw [List.length_append, trs_len n ns i]
    rfl
/-- each number joins what is there, and is used once -/
def okNums (n : Nat) (ns : List Nat) : Prop := ∀ (i x : Nat), ns[i]? = some x → x < n + i / 2 ∧ x ∉ ns.take i
def okB (n : Nat) (ns : List Nat) : Bool := decide (ns.length = 2 * n - 2) && (List.range ns.length).all fun i => decide (ns.getD i 0 < n + i / 2) && !(ns.take i).contains (ns.getD i 0)
theorem okB_iff {n : Nat} {ns : List Nat} : okB n ns = true ↔ ns.length = 2 * n - 2 ∧ okNums n ns := by
  unfold okB okNums
  rw [Bool.and_eq_true, decide_eq_true_eq, List.all_eq_true]
  refine and_congr_right fun _ => ⟨fun h i x hx => ?_, fun h i hi => ?_⟩
  · have hl : i < ns.length := (List.getElem?_eq_some_iff.mp hx).1
    have q := h i (List.mem_range.mpr hl)
    have e : ns.getD i 0 = x := by simp [List.getD, hx]
    rw [e, Bool.and_eq_true, decide_eq_true_eq, Bool.not_eq_true', ← Bool.not_eq_true, List.contains_iff_mem] at q
    exact q
  · have hl := List.mem_range.mp hi
    have hx : ns[i]? = some (ns.getD i 0) := by simp [hl]
    rw [Bool.and_eq_true, decide_eq_true_eq, Bool.not_eq_true', ← Bool.not_eq_true, List.contains_iff_mem]
    exact h i _ hx
def treeNums (n : Nat) (ns : List Nat) : Tree := (trs n ns (n - 1)).getD (2 * n - 2) (.leaf 0)
/-! how many ones a number has -/
def pop (n : Nat) : Nat := if h : n = 0 then 0 else n % 2 + pop (n / 2)
termination_by n
decreasing_by omega
theorem pop_zero : pop 0 = 0 := by rw [pop]; rfl
theorem pop_pos {n : Nat} (h : 0 < n) : pop n = n % 2 + pop (n / 2) := by
  rw [pop, dif_neg (by omega)]
theorem pop_lt : ∀ (k n : Nat), n < 2 ^ k → pop n ≤ k
  | 0, n, h => by
    have : n = 0 := by simpa using h
    subst this
    rw [pop_zero]
    exact Nat.le_refl _
  | k + 1, n, h => by
    by_cases z : n = 0
    · subst z
      rw [pop_zero]
      omega
    · rw [pop_pos (by omega)]
      have := pop_lt k (n / 2) (by rw [Nat.pow_succ] at h; omega)
      omega
/-- a leaf: place and how late, in parts; its need -/
structure LD where
  place : Lr71.Place
  late : Int
  need : Nat
/-- what a tree comes to, with all its leaves' needs -/
structure OD where
  tree : Tree
  area : Lr71.Area
  time : Int
  wire : Int
  power : Int
  needs : Nat
def OD.steps (o : OD) : Int := pop o.needs
def leafOD (k : Nat) (l : LD) : OD := ⟨.leaf k, Lr71.point l.place, l.late, 0, 0, l.need⟩
def jtime (x y : OD) : Int := max (max x.time y.time) ((x.time + y.time + Lr71.apart x.area y.area) / 2)
def joinOD (x y : OD) : OD := ⟨.two x.tree y.tree, Lr71.common (Lr71.grown x.area (jtime x y - x.time)) (Lr71.grown y.area (jtime x y - y.time)), jtime x y, x.wire + y.wire + (jtime x y - x.time) + (jtime x y - y.time),
  x.power + y.power + (jtime x y - x.time) * x.steps + (jtime x y - y.time) * y.steps, x.needs ||| y.needs⟩
def OD.none : OD := ⟨.leaf 0, ⟨0, 0, 0, 0⟩, 0, 0, 0, 0⟩
/-- all that leaves and the first i joints come to -/
def ocs (ls : List LD) (ps : List (Nat × Nat)) : Nat → List OD
  | 0 => ls.mapIdx fun k l => leafOD k l
  | i + 1 => ocs ls ps i ++ [joinOD ((ocs ls ps i).getD (ps.getD i (0, 0)).1 .none) ((ocs ls ps i).getD (ps.getD i (0, 0)).2 .none)]
theorem ocs_len (ls : List LD) (ps : List (Nat × Nat)) : ∀ i, (ocs ls ps i).length = ls.length + i
  | 0 => by show (ls.mapIdx fun k l => leafOD k l).length = ls.length; rw [List.length_mapIdx]
  | i + 1 => by
    show (ocs ls ps i ++ [_]).length = ls.length + (i + 1)
    rw [List.length_append, ocs_len ls ps i]
    rfl
/-- each pair joins what is there -/
def okPairs (n : Nat) (ps : List (Nat × Nat)) : Prop := ∀ (i : Nat) p, ps[i]? = some p → p.1 < n + i ∧ p.2 < n + i
def okNeeds (ls : List LD) : Prop := ∀ l ∈ ls, l.need < 65536
theorem join_needs {x y : OD} (hx : x.needs < 65536) (hy : y.needs < 65536) : (joinOD x y).needs < 65536 := Nat.or_lt_two_pow (n := 16) hx hy
theorem ocs_needs {ls : List LD} {ps : List (Nat × Nat)} (h : okNeeds ls) : ∀ i, ∀ o ∈ ocs ls ps i, o.needs < 65536
  | 0, o, ho => by
    have ho : o ∈ ls.mapIdx fun k l => leafOD k l := ho
    obtain ⟨k, hk, rfl⟩ := List.mem_mapIdx.mp ho
    exact h _ (List.getElem_mem hk)
  | i + 1, o, ho => by
    have ih := ocs_needs (ps := ps) h i
    have ho : o ∈ ocs ls ps i ++ [joinOD ((ocs ls ps i).getD (ps.getD i (0, 0)).1 .none) ((ocs ls ps i).getD (ps.getD i (0, 0)).2 .none)] := ho
    have gd : ∀ k, ((ocs ls ps i).getD k .none).needs < 65536 := fun k => by
      by_cases hk : k < (ocs ls ps i).length
      · have e := getD_at (d := OD.none) hk
        exact ih _ (List.mem_of_getElem? e)
      · rw [List.getD, List.getElem?_eq_none (by omega)]
        exact (by decide : 0 < 65536)
    rcases List.mem_append.mp ho with z | z
    · exact ih o z
    · rw [List.mem_singleton.mp z]
      exact join_needs (gd _) (gd _)
/-! all shapes over some leaves, and what they come to -/
def allOD (ls : List LD) : Nat → List Nat → List OD
  | 0, _ => []
  | n + 1, l => if l.length = 1 then [leafOD (l.getD 0 0) (ls.getD (l.getD 0 0) ⟨⟨0, 0⟩, 0, 0⟩)] else (split l).flatMap fun z => (allOD ls n z.1).flatMap fun x => (allOD ls n z.2).map fun y => joinOD x y
def allC (ls : List LD) (l : List Nat) : List OD := allOD ls l.length l
/-- the first way has all on the first side, no other has -/
theorem ways_form : ∀ (l : List Nat) (w0 : List Nat) (rest : List (List Nat × List Nat)), (∀ w ∈ rest, 1 ≤ w.1.length ∧ 1 ≤ w.2.length ∧ w.1.length + w.2.length = w0.length ∧ ∀ k, k ∈ w.1 ∨ k ∈ w.2 → k ∈ w0) → 1 ≤ w0.length →
    ∃ rest', ways l ((w0, []) :: rest) = (w0 ++ l, []) :: rest' ∧ ∀ w ∈ rest', 1 ≤ w.1.length ∧ 1 ≤ w.2.length ∧ w.1.length + w.2.length = (w0 ++ l).length ∧ ∀ k, k ∈ w.1 ∨ k ∈ w.2 → k ∈ w0 ++ l
  | [], w0, rest, h, h0 => ⟨rest, by rw [List.append_nil]; rfl, fun w hw => by rw [List.append_nil]; exact h w hw⟩
  | k :: l, w0, rest, h, h0 => by
    have q := ways_form l (w0 ++ [k]) (rest.map (fun w => (w.1 ++ [k], w.2)) ++ (((w0, []) :: rest).map fun w => (w.1, w.2 ++ [k]))) (fun w hw => ?_) (by rw [List.length_append]; omega)
    · obtain ⟨r', e, hr⟩ := q
      refine ⟨r', ?_, ?_⟩
      · rw [show w0 ++ k :: l = w0 ++ [k] ++ l by simp]
        exact e
      · rw [show w0 ++ k :: l = w0 ++ [k] ++ l by simp]
        exact hr
    · rw [List.length_append, List.length_singleton]
      rcases List.mem_append.mp hw with z | z
      · obtain ⟨w1, hw1, rfl⟩ := List.mem_map.mp z
        have := h w1 hw1
        refine ⟨by simp only [List.length_append, List.length_singleton]; omega, this.2.1, by simp only [List.length_append, List.length_singleton]; omega, fun j hj => ?_⟩
        rcases hj with hj | hj
        · rcases List.mem_append.mp hj with hj | hj
          · exact List.mem_append_left _ (this.2.2.2 j (.inl hj))
          · exact List.mem_append_right _ hj
        · exact List.mem_append_left _ (this.2.2.2 j (.inr hj))
      · obtain ⟨w1, hw1, rfl⟩ := List.mem_map.mp z
        rcases List.mem_cons.mp hw1 with rfl | hw1
        · refine ⟨h0, by simp, by simp, fun j hj => ?_⟩
          rcases hj with hj | hj
          · exact List.mem_append_left _ hj
          · exact List.mem_append_right _ (by simpa using hj)
        · have := h w1 hw1
          refine ⟨this.1, by simp only [List.length_append, List.length_singleton]; omega, by simp only [List.length_append, List.length_singleton]; omega, fun j hj => ?_⟩
          rcases hj with hj | hj
          · exact List.mem_append_left _ (this.2.2.2 j (.inl hj))
          · rcases List.mem_append.mp hj with hj | hj
            · exact List.mem_append_left _ (this.2.2.2 j (.inr hj))
            · exact List.mem_append_right _ hj
theorem split_mem {l : List Nat} (hl : 1 ≤ l.length) : ∀ w ∈ split l, 1 ≤ w.1.length ∧ 1 ≤ w.2.length ∧ w.1.length + w.2.length = l.length ∧ ∀ k, k ∈ w.1 ∨ k ∈ w.2 → k ∈ l := by
  obtain ⟨r, e, hr⟩ := ways_form (l.drop 1) (l.take 1) [] (fun w hw => nomatch hw) (by rw [List.length_take]; omega)
  rw [List.take_append_drop] at hr
  intro w hw
  unfold split at hw
  rw [e] at hw
  exact hr w hw
theorem allOD_eq (ls : List LD) : ∀ (n : Nat) (l : List Nat), 1 ≤ l.length → l.length ≤ n → allOD ls n l = allC ls l
  | 0, l, h1, h2 => by omega
  | n + 1, l, h1, h2 => by
    unfold allC
    obtain ⟨m, hm⟩ : ∃ m, l.length = m + 1 := ⟨l.length - 1, by omega⟩
    rw [hm]
    show (if l.length = 1 then _ else _) = (if l.length = 1 then _ else _)
    by_cases c : l.length = 1
    · rw [if_pos c, if_pos c]
    · rw [if_neg c, if_neg c]
      have e : ∀ z ∈ split l, ((allOD ls n z.1).flatMap fun x => (allOD ls n z.2).map fun y => joinOD x y) = (allOD ls m z.1).flatMap fun x => (allOD ls m z.2).map fun y => joinOD x y := fun z hz => by
        have q := split_mem h1 z hz
        rw [allOD_eq ls n z.1 q.1 (by omega), allOD_eq ls n z.2 q.2.1 (by omega), allOD_eq ls m z.1 q.1 (by omega), allOD_eq ls m z.2 q.2.1 (by omega)]
      rw [List.flatMap_def, List.flatMap_def, List.map_congr_left e]
termination_by n => n
theorem allC_one (ls : List LD) {l : List Nat} (h : l.length = 1) : allC ls l = [leafOD (l.getD 0 0) (ls.getD (l.getD 0 0) ⟨⟨0, 0⟩, 0, 0⟩)] := by
  unfold allC
  rw [h]
  exact if_pos h
def joinAll (ls : List LD) (z : List Nat × List Nat) : List OD := (allC ls z.1).flatMap fun x => (allC ls z.2).map fun y => joinOD x y
theorem allC_more (ls : List LD) {l : List Nat} (h : 2 ≤ l.length) : allC ls l = (split l).flatMap (joinAll ls) := by
  have e : allC ls l = allOD ls (l.length - 1 + 1) l := by unfold allC; rw [show l.length - 1 + 1 = l.length by omega]
  rw [e]
  show (if l.length = 1 then _ else _) = _
  rw [if_neg (by omega), List.flatMap_def, List.flatMap_def]
  refine congrArg _ (List.map_congr_left fun z hz => ?_)
  have q := split_mem (by omega) z hz
  unfold joinAll
  rw [allOD_eq ls _ z.1 q.1 (by omega), allOD_eq ls _ z.2 q.2.1 (by omega)]
/-! how many: by the lengths alone -/
def waysL : Nat → List (Nat × Nat) → List (Nat × Nat)
  | 0, ws => ws
  | n + 1, ws => waysL n (ws.map (fun w => (w.1 + 1, w.2)) ++ ws.map (fun w => (w.1, w.2 + 1)))
theorem waysL_eq : ∀ (l : List Nat) (ws : List (List Nat × List Nat)), (ways l ws).map (fun w => (w.1.length, w.2.length)) = waysL l.length (ws.map fun w => (w.1.length, w.2.length))
  | [], ws => rfl
  | k :: l, ws => by
    have h := waysL_eq l (ws.map (fun w => (w.1 ++ [k], w.2)) ++ ws.map (fun w => (w.1, w.2 ++ [k])))
    show (ways l (ws.map (fun w => (w.1 ++ [k], w.2)) ++ ws.map (fun w => (w.1, w.2 ++ [k])))).map _ = waysL l.length ((ws.map fun w => (w.1.length, w.2.length)).map (fun w => (w.1 + 1, w.2)) ++ (ws.map fun w => (w.1.length, w.2.length)).map (fun w => (w.1, w.2 + 1)))
    rw [h, List.map_append, List.map_map, List.map_map, List.map_map, List.map_map]
    congr 1
    congr 1
    · exact List.map_congr_left fun w _ => by simp
    · exact List.map_congr_left fun w _ => by simp
def cnt : Nat → Nat → Nat
  | 0, _ => 0
  | n + 1, m => if m = 1 then 1 else (((waysL (m - 1) [(min 1 m, 0)]).drop 1).map fun p => cnt n p.1 * cnt n p.2).sum
theorem all_cnt (ls : List LD) : ∀ (n : Nat) (l : List Nat), (allOD ls n l).length = cnt n l.length
  | 0, _ => rfl
  | n + 1, l => by
    show (if l.length = 1 then _ else _ : List OD).length = if l.length = 1 then 1 else _
    by_cases c : l.length = 1
    · rw [if_pos c, if_pos c]
      rfl
    · rw [if_neg c, if_neg c, List.length_flatMap]
      have e1 : (split l).map (fun z => ((allOD ls n z.1).flatMap fun x => (allOD ls n z.2).map fun y => joinOD x y).length) = ((split l).map fun z => (z.1.length, z.2.length)).map fun p => cnt n p.1 * cnt n p.2 := by
        rw [List.map_map]
        refine List.map_congr_left fun z _ => ?_
        rw [List.length_flatMap]
        have : (allOD ls n z.1).map (fun x => ((allOD ls n z.2).map fun y => joinOD x y).length) = (allOD ls n z.1).map fun _ => cnt n z.2.length := List.map_congr_left fun x _ => by rw [List.length_map, all_cnt ls n z.2]
        rw [this, List.map_const', List.sum_replicate_nat, all_cnt ls n z.1]
        rfl
      rw [e1]
      unfold split
      rw [List.map_drop, waysL_eq]
      simp [List.length_drop, List.length_take]
termination_by n => n
theorem all_few (ls : List LD) {l : List Nat} (h : l.length ≤ 6) : (allC ls l).length ≤ 945 := by
  unfold allC
  rw [all_cnt]
  have : ∀ m, m ≤ 6 → cnt m m ≤ 945 := by decide
  exact this _ h
theorem flat_take_le {α β : Type} (f : α → List β) : ∀ (l : List α) (i : Nat), ((l.take i).flatMap f).length ≤ (l.flatMap f).length
  | [], i => by rw [List.take_nil]; exact Nat.le_refl _
  | a :: l, 0 => Nat.zero_le _
  | a :: l, i + 1 => by
    have := flat_take_le f l i
    rw [List.take_succ_cons, List.flatMap_cons, List.flatMap_cons, List.length_append, List.length_append]
    omega
theorem flat_mem_le {α β : Type} (f : α → List β) : ∀ {l : List α} {z : α}, z ∈ l → (f z).length ≤ (l.flatMap f).length
  | a :: l, z, h => by
    rw [List.flatMap_cons, List.length_append]
    rcases List.mem_cons.mp h with rfl | h
    · omega
    · have := flat_mem_le f h
      omega
theorem flat_snoc {α β : Type} (f : α → List β) {l : List α} {i : Nat} {x : α} (h : l[i]? = some x) : (l.take (i + 1)).flatMap f = (l.take i).flatMap f ++ f x := by
  rw [List.take_add_one, h, List.flatMap_append]
  simp
theorem map_snoc {α β : Type} (f : α → β) {l : List α} {i : Nat} {x : α} (h : l[i]? = some x) : (l.take (i + 1)).map f = (l.take i).map f ++ [f x] := by
  rw [List.take_add_one, h, List.map_append]
  rfl
theorem split_len {l : List Nat} (h : 1 ≤ l.length) : (split l).length ≤ 2 ^ (l.length - 1) := by
  unfold split
  rw [List.length_drop, ways_len, List.length_drop, List.length_singleton]
  omega
theorem allOD_needs {ls : List LD} (h : okNeeds ls) : ∀ (n : Nat) (l : List Nat), ∀ o ∈ allOD ls n l, o.needs < 65536
  | 0, _, o, ho => nomatch ho
  | n + 1, l, o, ho => by
    have ho : o ∈ (if l.length = 1 then [leafOD (l.getD 0 0) (ls.getD (l.getD 0 0) ⟨⟨0, 0⟩, 0, 0⟩)] else (split l).flatMap fun z => (allOD ls n z.1).flatMap fun x => (allOD ls n z.2).map fun y => joinOD x y) := ho
    by_cases c : l.length = 1
    · rw [if_pos c] at ho
      rw [List.mem_singleton.mp ho]
      show (ls.getD (l.getD 0 0) ⟨⟨0, 0⟩, 0, 0⟩).need < 65536
      by_cases hk : l.getD 0 0 < ls.length
      · exact h _ (List.mem_of_getElem? (getD_at (d := ⟨⟨0, 0⟩, 0, 0⟩) hk))
      · rw [List.getD, List.getElem?_eq_none (by omega)]
        exact (by decide : 0 < 65536)
    · rw [if_neg c] at ho
      obtain ⟨z, _, hz⟩ := List.mem_flatMap.mp ho
      obtain ⟨x, hx, hw⟩ := List.mem_flatMap.mp hz
      obtain ⟨y, hy, rfl⟩ := List.mem_map.mp hw
      exact join_needs (allOD_needs h n _ x hx) (allOD_needs h n _ y hy)
theorem all_needs {ls : List LD} (h : okNeeds ls) (l : List Nat) : ∀ o ∈ allC ls l, o.needs < 65536 := allOD_needs h _ l
/-! what is built -/
structure BD where
  pairs : List (Nat × Nat)
  places : List Lr71.Place
  wires : List (Int × Int)
  trunk : Int
def BD.all (b : BD) : Int := b.trunk + (b.wires.map fun w => w.1 + w.2).sum
abbrev pl0 : Lr71.Place := ⟨0, 0⟩
/-- the places, from the source on: all, the root's, then joint by joint backwards -/
def plStep (os : List OD) (ps : List (Nat × Nat)) (P : List Lr71.Place) (k : Nat) : List Lr71.Place :=
  let p := ps.getD k (0, 0)
  let P1 := P.set p.1 (Lr71.near (os.getD p.1 .none).area (P.getD (ps.length + 1 + k) pl0))
  P1.set p.2 (Lr71.near (os.getD p.2 .none).area (P1.getD (ps.length + 1 + k) pl0))
def plUp (os : List OD) (ps : List (Nat × Nat)) (src : Lr71.Place) : Nat → List Lr71.Place
  | 0 => (List.replicate os.length src).set (os.length - 1) (Lr71.near (os.getD (os.length - 1) .none).area src)
  | i + 1 => plStep os ps (plUp os ps src i) (ps.length - 1 - i)
theorem plStep_len (os : List OD) (ps : List (Nat × Nat)) (P : List Lr71.Place) (k : Nat) : (plStep os ps P k).length = P.length := by
  unfold plStep
  rw [List.length_set, List.length_set]
theorem plUp_len (os : List OD) (ps : List (Nat × Nat)) (src : Lr71.Place) : ∀ i, (plUp os ps src i).length = os.length
  | 0 => by
    show ((List.replicate os.length src).set _ _).length = _
    rw [List.length_set, List.length_replicate]
  | i + 1 => by
    show (plStep os ps (plUp os ps src i) _).length = _
    rw [plStep_len, plUp_len os ps src i]
def wiresOf (os : List OD) (n : Nat) (ps : List (Nat × Nat)) : List (Int × Int) := ps.mapIdx fun i p => ((os.getD (n + i) .none).time - (os.getD p.1 .none).time, (os.getD (n + i) .none).time - (os.getD p.2 .none).time)
def okAreas (os : List OD) : Prop := ∀ o ∈ os, o.area.a ≤ o.area.b ∧ o.area.c ≤ o.area.d
def buildBD (ls : List LD) (ps : List (Nat × Nat)) (src : Lr71.Place) : BD :=
  let os := ocs ls ps ps.length
  let P := plUp os ps src ps.length
  ⟨ps, P.drop ls.length, wiresOf os ls.length ps, Lr71.far src (P.getD (P.length - 1) pl0)⟩
/-- mended: times and wires, joint by joint -/
def allPl (b : BD) (ls : List LD) : List Lr71.Place := ls.map (·.place) ++ b.places
def mdTo (b : BD) (ls : List LD) (i k : Nat) (w : Int) : Int := max (Lr71.far (b.places.getD i pl0) ((allPl b ls).getD k pl0)) w
def mdT (b : BD) (ls : List LD) (ts : List Int) (i : Nat) : Int :=
  let p := b.pairs.getD i (0, 0)
  let w := b.wires.getD i (0, 0)
  max (ts.getD p.1 0 + mdTo b ls i p.1 w.1) (ts.getD p.2 0 + mdTo b ls i p.2 w.2)
def mdTs (b : BD) (ls : List LD) : Nat → List Int
  | 0 => ls.map (·.late)
  | i + 1 => mdTs b ls i ++ [mdT b ls (mdTs b ls i) i]
def mdWs (b : BD) (ls : List LD) : Nat → List (Int × Int)
  | 0 => []
  | i + 1 => mdWs b ls i ++ [(mdT b ls (mdTs b ls i) i - (mdTs b ls i).getD (b.pairs.getD i (0, 0)).1 0, mdT b ls (mdTs b ls i) i - (mdTs b ls i).getD (b.pairs.getD i (0, 0)).2 0)]
theorem mdTs_len (b : BD) (ls : List LD) : ∀ i, (mdTs b ls i).length = ls.length + i
  | 0 => by show (ls.map (·.late)).length = _; rw [List.length_map]; rfl
  | i + 1 => by
    show (mdTs b ls i ++ [_]).length = _
    rw [List.length_append, mdTs_len b ls i]
    rfl
def mendBD (b : BD) (ls : List LD) (src : Lr71.Place) : BD := ⟨b.pairs, b.places, mdWs b ls b.pairs.length, max (Lr71.far src ((allPl b ls).getD ((allPl b ls).length - 1) pl0)) b.trunk⟩
def bareBD (b : BD) : BD := ⟨b.pairs, b.places, List.replicate b.pairs.length (0, 0), 0⟩
/-- without a leaf -/
def longer (p : Nat × Nat) (w : Int × Int) (g : Nat) (m : Int) : Int × Int := if p.1 = g then (w.1 + m, w.2) else if p.2 = g then (w.1, w.2 + m) else w
def moreOf (b : BD) (k j : Nat) : Int := if (b.pairs.getD j (0, 0)).1 = k then (b.wires.getD j (0, 0)).2 else (b.wires.getD j (0, 0)).1
def longers (b : BD) (k j : Nat) : List (Int × Int) := List.zipWith (fun p w => longer p w (b.pairs.length + 1 + j) (moreOf b k j)) b.pairs b.wires
def dropBD (b : BD) (k j : Nat) : BD := ⟨without b.pairs k j, b.places.take j ++ b.places.drop (j + 1), (longers b k j).take j ++ (longers b k j).drop (j + 1), if j + 1 = b.pairs.length then b.trunk + moreOf b k j else b.trunk⟩
end CM
set_option linter.all false
set_option autoImplicit false
/-! The mirror of the program held against the specification, first part: what a tree comes to. -/
namespace CM
open Lr72 (Tree Leaf Laid leavesOf sum lay shapeOf laidJoints)
open Lr71 (Place Area)
abbrev ld0 : LD := ⟨⟨0, 0⟩, 0, 0⟩
def ldOf (ls : List Leaf) (ns : List Nat) : List LD := List.zipWith (fun l m => ⟨Lr74.place l.at_, l.late * 256, m⟩) ls ns
theorem ld_len {ls : List Leaf} {ns : List Nat} (h : ns.length = ls.length) : (ldOf ls ns).length = ls.length := by
  unfold ldOf; rw [List.length_zipWith]; omega
theorem ld_at {ls : List Leaf} {ns : List Nat} (h : ns.length = ls.length) {k : Nat} {l : Leaf} (hk : ls[k]? = some l) : (ldOf ls ns)[k]? = some ⟨Lr74.place l.at_, l.late * 256, ns.getD k 0⟩ := by
  have hl : k < ls.length := (List.getElem?_eq_some_iff.mp hk).1
  have hn : ns[k]? = some (ns.getD k 0) := getD_at (by omega)
  unfold ldOf
  rw [List.getElem?_zipWith, hk, hn]
theorem ld_getD {ls : List Leaf} {ns : List Nat} (h : ns.length = ls.length) {k : Nat} {l : Leaf} (hk : ls[k]? = some l) : (ldOf ls ns).getD k ld0 = ⟨Lr74.place l.at_, l.late * 256, ns.getD k 0⟩ := by
  rw [List.getD, ld_at h hk]; rfl
/-- what a tree comes to -/
def odT (L : List LD) : Tree → OD
  | .leaf k => leafOD k (L.getD k ld0)
  | .two x y => joinOD (odT L x) (odT L y)
theorem odT_tree (L : List LD) : ∀ t, (odT L t).tree = t
  | .leaf _ => rfl
  | .two x y => by show Tree.two (odT L x).tree (odT L y).tree = _; rw [odT_tree L x, odT_tree L y]
/-! needs -/
theorem pop_count : ∀ (k n : Nat), n < 2 ^ k → pop n = (List.range k).countP fun i => n.testBit i
  | 0, n, h => by
    have : n = 0 := by simpa using h
    subst this
    rw [pop_zero]; rfl
  | k + 1, n, h => by
    rw [List.range_succ_eq_map, List.countP_cons, List.countP_map]
    have e : ((fun i => n.testBit i) ∘ Nat.succ) = fun i => (n / 2).testBit i := by
      funext i
      exact Nat.testBit_succ n i
    rw [e, ← pop_count k (n / 2) (by rw [Nat.pow_succ] at h; omega)]
    by_cases z : n = 0
    · subst z; simp [pop_zero]
    · rw [pop_pos (by omega), Nat.testBit_zero]
      by_cases c : n % 2 = 1
      · simp [c]; omega
      · simp [c]; omega
theorem needed_bit (m i : Nat) : Lr73.needed m i = m.testBit i := by
  unfold Lr73.needed
  rw [Nat.testBit_eq_decide_div_mod_eq]
  rfl
theorem odT_bit (ls : List Leaf) (ns : List Nat) (hl : ns.length = ls.length) : ∀ (t : Tree), (∀ k ∈ leavesOf t, k < ls.length) → ∀ i, (odT (ldOf ls ns) t).needs.testBit i = Lr73.on ns t i
  | .leaf k, h, i => by
    have hk := h k (List.mem_singleton.mpr rfl)
    have e : ls[k]? = some ls[k] := List.getElem?_eq_getElem hk
    show ((ldOf ls ns).getD k ld0).need.testBit i = _
    rw [ld_getD hl e]
    show (ns.getD k 0).testBit i = ([k].any fun k => Lr73.needed (ns.getD k 0) i)
    rw [List.any_cons, List.any_nil, Bool.or_false, needed_bit]
  | .two x y, h, i => by
    have hx := odT_bit ls ns hl x (fun k hk => h k (List.mem_append_left _ hk)) i
    have hy := odT_bit ls ns hl y (fun k hk => h k (List.mem_append_right _ hk)) i
    show ((odT (ldOf ls ns) x).needs ||| (odT (ldOf ls ns) y).needs).testBit i = ((leavesOf x ++ leavesOf y).any fun k => Lr73.needed (ns.getD k 0) i)
    rw [Nat.testBit_or, hx, hy, List.any_append]
    rfl
theorem odT_needs {L : List LD} (h : okNeeds L) : ∀ t, (odT L t).needs < 65536
  | .leaf k => by
    show (L.getD k ld0).need < 65536
    by_cases hk : k < L.length
    · exact h _ (List.mem_of_getElem? (getD_at (d := ld0) hk))
    · rw [List.getD, List.getElem?_eq_none (by omega)]
      exact (by decide : 0 < 65536)
  | .two x y => join_needs (odT_needs h x) (odT_needs h y)
theorem ld_needs {ls : List Leaf} {ns : List Nat} (h : ∀ m ∈ ns, m < 65536) : okNeeds (ldOf ls ns) := by
  intro l hl
  unfold ldOf at hl
  obtain ⟨i, hi, e⟩ := List.getElem_of_mem hl
  rw [List.getElem_zipWith] at e
  subst e
  exact h _ (List.getElem_mem _)
theorem odT_steps {ls : List Leaf} {ns : List Nat} (hl : ns.length = ls.length) (hn : ∀ m ∈ ns, m < 65536) {t : Tree} (h : ∀ k ∈ leavesOf t, k < ls.length) : (odT (ldOf ls ns) t).steps = Lr73.steps ns t := by
  unfold OD.steps Lr73.steps Lr71.int
  rw [pop_count 16 _ (odT_needs (ld_needs hn) t)]
  rw [List.countP_congr (q := Lr73.on ns t)]
  · rfl
  · intro i _
    rw [odT_bit ls ns hl t h i]
theorem odT_sum {ls : List Leaf} {ns : List Nat} (hl : ns.length = ls.length) : ∀ (t : Tree), (∀ k ∈ leavesOf t, k < ls.length) → (odT (ldOf ls ns) t).area = (sum ls t).area ∧ (odT (ldOf ls ns) t).time = (sum ls t).time ∧ (odT (ldOf ls ns) t).wire = (sum ls t).wire
  | .leaf k, h => by
    have hk := h k (List.mem_singleton.mpr rfl)
    have e : ls[k]? = some ls[k] := List.getElem?_eq_getElem hk
    show (leafOD k ((ldOf ls ns).getD k ld0)).area = _ ∧ (leafOD k ((ldOf ls ns).getD k ld0)).time = _ ∧ (leafOD k ((ldOf ls ns).getD k ld0)).wire = _
    rw [ld_getD hl e]
    simp only [Lr72.sum, e]
    exact ⟨rfl, rfl, rfl⟩
  | .two x y, h => by
    have hx := odT_sum hl (ns := ns) x (fun k hk => h k (List.mem_append_left _ hk))
    have hy := odT_sum hl (ns := ns) y (fun k hk => h k (List.mem_append_right _ hk))
    have j : jtime (odT (ldOf ls ns) x) (odT (ldOf ls ns) y) = Lr72.joinTime (sum ls x) (sum ls y) := by
      unfold jtime Lr72.joinTime
      rw [hx.1, hx.2.1, hy.1, hy.2.1]
    refine ⟨?_, j, ?_⟩
    · show Lr71.common (Lr71.grown (odT (ldOf ls ns) x).area (jtime (odT (ldOf ls ns) x) (odT (ldOf ls ns) y) - (odT (ldOf ls ns) x).time)) (Lr71.grown (odT (ldOf ls ns) y).area (jtime (odT (ldOf ls ns) x) (odT (ldOf ls ns) y) - (odT (ldOf ls ns) y).time)) = _
      rw [j, hx.1, hx.2.1, hy.1, hy.2.1]
      rfl
    · show (odT (ldOf ls ns) x).wire + (odT (ldOf ls ns) y).wire + (jtime (odT (ldOf ls ns) x) (odT (ldOf ls ns) y) - (odT (ldOf ls ns) x).time) + (jtime (odT (ldOf ls ns) x) (odT (ldOf ls ns) y) - (odT (ldOf ls ns) y).time) = _
      rw [j, hx.2.1, hx.2.2, hy.2.1, hy.2.2]
      rfl
theorem odT_power {ls : List Leaf} {ns : List Nat} (hl : ns.length = ls.length) (hn : ∀ m ∈ ns, m < 65536) : ∀ (t : Tree), (∀ k ∈ leavesOf t, k < ls.length) → (odT (ldOf ls ns) t).power = Lr73.power ls ns t
  | .leaf k, h => rfl
  | .two x y, h => by
    have h1 : ∀ k ∈ leavesOf x, k < ls.length := fun k hk => h k (List.mem_append_left _ hk)
    have h2 : ∀ k ∈ leavesOf y, k < ls.length := fun k hk => h k (List.mem_append_right _ hk)
    have hx := odT_power hl hn x h1
    have hy := odT_power hl hn y h2
    have sx := odT_sum (ns := ns) hl x h1
    have sy := odT_sum (ns := ns) hl y h2
    have sxy := (odT_sum (ns := ns) hl (.two x y) h).2.1
    have sxy : jtime (odT (ldOf ls ns) x) (odT (ldOf ls ns) y) = (sum ls (.two x y)).time := sxy
    show (odT (ldOf ls ns) x).power + (odT (ldOf ls ns) y).power + (jtime (odT (ldOf ls ns) x) (odT (ldOf ls ns) y) - (odT (ldOf ls ns) x).time) * (odT (ldOf ls ns) x).steps + (jtime (odT (ldOf ls ns) x) (odT (ldOf ls ns) y) - (odT (ldOf ls ns) y).time) * (odT (ldOf ls ns) y).steps = _
    rw [sxy, hx, hy, sx.2.1, sy.2.1, odT_steps hl hn h1, odT_steps hl hn h2]
    show _ = Lr73.power ls ns x + Lr73.power ls ns y + Lr73.steps ns x * ((sum ls (.two x y)).time - (sum ls x).time) + Lr73.steps ns y * ((sum ls (.two x y)).time - (sum ls y).time)
    rw [Int.mul_comm _ (Lr73.steps ns x), Int.mul_comm _ (Lr73.steps ns y)]
/-! all shapes, in order -/
theorem ways_sides : ∀ (l : List Nat) (ws : List (List Nat × List Nat)), ways l ws = (Lr72.sides l).flatMap fun z => ws.map fun w => (w.1 ++ z.1, w.2 ++ z.2)
  | [], ws => by
    show ws = [([], [])].flatMap _
    simp
  | k :: l, ws => by
    show ways l (ws.map (fun w => (w.1 ++ [k], w.2)) ++ ws.map (fun w => (w.1, w.2 ++ [k]))) = ((Lr72.sides l).flatMap fun z => [(k :: z.1, z.2), (z.1, k :: z.2)]).flatMap _
    rw [ways_sides l, List.flatMap_assoc]
    simp [List.flatMap_cons, Function.comp_def]
theorem split_sides (k : Nat) (l : List Nat) : split (k :: l) = ((Lr72.sides l).filter fun z => !z.2.isEmpty).map fun z => (k :: z.1, z.2) := by
  obtain ⟨r, e, hr⟩ := ways_form l [k] [] (fun w hw => nomatch hw) (Nat.le_refl 1)
  have hs : split (k :: l) = r := by
    unfold split
    show (ways l [([k], [])]).drop 1 = r
    rw [e]
    rfl
  rw [hs]
  rw [ways_sides] at e
  have e2 : ((Lr72.sides l).map fun z => (k :: z.1, z.2)) = ([k] ++ l, []) :: r := by
    rw [← e]
    simp [List.flatMap_def]
    induction Lr72.sides l with
    | nil => rfl
    | cons a b ih => simp [ih]
  have e3 : (((Lr72.sides l).filter fun z => !z.2.isEmpty).map fun z => (k :: z.1, z.2)) = (((Lr72.sides l).map fun z => (k :: z.1, z.2))).filter fun (w : List Nat × List Nat) => !w.2.isEmpty := by
    rw [List.filter_map]
    rfl
  rw [e3, e2, List.filter_cons_of_neg (by simp), List.filter_eq_self.mpr]
  intro w hw
  have := (hr w hw).2.1
  cases h : w.2 with
  | nil => rw [h] at this; exact absurd this (by decide)
  | cons a b => rfl
theorem all_shapes (L : List LD) : ∀ (n : Nat) (l : List Nat), 1 ≤ l.length → allOD L n l = (Lr72.shapes n l).map (odT L)
  | 0, l, h1 => rfl
  | n + 1, [], h1 => absurd h1 (by decide)
  | n + 1, [k], h1 => rfl
  | n + 1, k :: a :: l, h1 => by
    have q : ∀ z ∈ split (k :: a :: l), _ := split_mem (l := k :: a :: l) (by simp)
    show (if (k :: a :: l).length = 1 then _ else (split (k :: a :: l)).flatMap fun z => (allOD L n z.1).flatMap fun x => (allOD L n z.2).map fun y => joinOD x y) = (((Lr72.sides (a :: l)).filter fun z => !z.2.isEmpty).flatMap fun z => (Lr72.shapes n (k :: z.1)).flatMap fun x => (Lr72.shapes n z.2).map fun y => .two x y).map (odT L)
    rw [if_neg (by simp)]
    have e : (split (k :: a :: l)).flatMap (fun z => (allOD L n z.1).flatMap fun x => (allOD L n z.2).map fun y => joinOD x y) = (split (k :: a :: l)).flatMap fun z => ((Lr72.shapes n z.1).flatMap fun x => (Lr72.shapes n z.2).map fun y => Tree.two x y).map (odT L) := by
      rw [List.flatMap_def, List.flatMap_def]
      refine congrArg _ (List.map_congr_left fun z hz => ?_)
      rw [all_shapes L n z.1 (q z hz).1, all_shapes L n z.2 (q z hz).2.1]
      simp only [List.map_flatMap, List.flatMap_map, List.map_map]
      rfl
    rw [e, split_sides, List.map_flatMap, List.flatMap_map]
termination_by n => n
theorem allC_shapes (L : List LD) {n : Nat} (h : 1 ≤ n) : allC L (List.range n) = (Lr72.allShapes n).map (odT L) := by
  unfold allC Lr72.allShapes
  rw [List.length_range, all_shapes L n _ (by rw [List.length_range]; exact h)]
theorem sides_perm : ∀ (l : List Nat), ∀ z ∈ Lr72.sides l, (z.1 ++ z.2).Perm l
  | [], z, hz => by
    rw [List.mem_singleton.mp hz]
    exact .refl _
  | k :: l, z, hz => by
    have hz : z ∈ (Lr72.sides l).flatMap fun z => [(k :: z.1, z.2), (z.1, k :: z.2)] := hz
    obtain ⟨w, hw, e⟩ := List.mem_flatMap.mp hz
    have ih := sides_perm l w hw
    rcases List.mem_cons.mp e with rfl | e
    · exact ih.cons k
    · rw [List.mem_singleton.mp e]
      exact List.perm_middle.trans (ih.cons k)
theorem shapes_perm : ∀ (n : Nat) (l : List Nat), ∀ t ∈ Lr72.shapes n l, (leavesOf t).Perm l
  | 0, l, t, ht => nomatch ht
  | n + 1, [], t, ht => nomatch ht
  | n + 1, [k], t, ht => by
    have ht : t ∈ [Tree.leaf k] := ht
    rw [List.mem_singleton.mp ht]
    exact .refl _
  | n + 1, k :: a :: l, t, ht => by
    have ht : t ∈ ((Lr72.sides (a :: l)).filter fun z => !z.2.isEmpty).flatMap fun z => (Lr72.shapes n (k :: z.1)).flatMap fun x => (Lr72.shapes n z.2).map fun y => .two x y := ht
    obtain ⟨z, hz, h1⟩ := List.mem_flatMap.mp ht
    obtain ⟨x, hx, h2⟩ := List.mem_flatMap.mp h1
    obtain ⟨y, hy, rfl⟩ := List.mem_map.mp h2
    have p := sides_perm _ z (List.mem_filter.mp hz).1
    have px := shapes_perm n _ x hx
    have py := shapes_perm n _ y hy
    show (leavesOf x ++ leavesOf y).Perm _
    exact (px.append py).trans (p.cons k)
termination_by n => n
end CM
set_option linter.all false
set_option autoImplicit false
/-! The mirror held against the specification, second part: the best shape, areas, what is built. -/
namespace CM
open Lr72 (Tree Leaf Laid leavesOf sum lay shapeOf laidJoints joints)
open Lr71 (Place Area)
/-! the first of the best -/
def lt2 (x y : Int × Int) : Prop := x.1 < y.1 ∨ (x.1 = y.1 ∧ x.2 < y.2)
instance {x y : Int × Int} : Decidable (lt2 x y) := inferInstanceAs (Decidable (_ ∨ _))
def bst {α : Type} (kf : α → Int × Int) : List α → Option α
  | [] => none
  | x :: l => match bst kf l with
    | none => some x
    | some y => if lt2 (kf y) (kf x) then some y else some x
theorem bst_some {α : Type} (kf : α → Int × Int) : ∀ (l : List α), l ≠ [] → ∃ t, bst kf l = some t
  | [], h => absurd rfl h
  | x :: l, _ => by
    show ∃ t, (match bst kf l with | none => some x | some y => if lt2 (kf y) (kf x) then some y else some x) = some t
    cases bst kf l with
    | none => exact ⟨_, rfl⟩
    | some y =>
      by_cases c : lt2 (kf y) (kf x)
      · exact ⟨y, if_pos c⟩
      · exact ⟨x, if_neg c⟩
theorem bst_none {α : Type} (kf : α → Int × Int) {l : List α} (h : bst kf l = none) : l = [] := by
  cases l with
  | nil => rfl
  | cons a b =>
    obtain ⟨t, e⟩ := bst_some kf (a :: b) (by simp)
    rw [e] at h
    cases h
theorem bst_least {α : Type} (kf : α → Int × Int) : ∀ (l : List α) (t : α), bst kf l = some t → ∃ (i : Nat), l[i]? = some t ∧ ∀ (j : Nat) x, l[j]? = some x → ¬ lt2 (kf x) (kf t) ∧ (j < i → lt2 (kf t) (kf x))
  | [], t, h => nomatch h
  | x :: l, t, h => by
    have h : (match bst kf l with | none => some x | some y => if lt2 (kf y) (kf x) then some y else some x) = some t := h
    cases hb : bst kf l with
    | none =>
      rw [hb] at h
      cases h
      have := bst_none kf hb
      subst this
      refine ⟨0, rfl, fun j y hy => ?_⟩
      cases j with
      | zero => cases hy; exact ⟨by unfold lt2; omega, fun c => by omega⟩
      | succ j => cases hy
    | some y =>
      rw [hb] at h
      obtain ⟨i, hi, hl⟩ := bst_least kf l y hb
      by_cases c : lt2 (kf y) (kf x)
      · have h : (if lt2 (kf y) (kf x) then some y else some x) = some t := h
        rw [if_pos c] at h
        cases h
        refine ⟨i + 1, hi, fun j z hz => ?_⟩
        cases j with
        | zero =>
          cases hz
          exact ⟨by unfold lt2 at c ⊢; omega, fun _ => c⟩
        | succ j =>
          have := hl j z hz
          exact ⟨this.1, fun d => this.2 (by omega)⟩
      · have h : (if lt2 (kf y) (kf x) then some y else some x) = some t := h
        rw [if_neg c] at h
        cases h
        refine ⟨0, rfl, fun j z hz => ?_⟩
        cases j with
        | zero =>
          cases hz
          exact ⟨by unfold lt2; omega, fun d => by omega⟩
        | succ j =>
          have := (hl j z hz).1
          exact ⟨by unfold lt2 at c this ⊢; omega, fun d => by omega⟩
theorem best_bst (ls : List Leaf) : ∀ l, Lr72.best ls l = bst (fun t => ((sum ls t).wire, (sum ls t).time)) l
  | [] => rfl
  | x :: l => by
    simp only [Lr72.best, bst]
    rw [best_bst ls l]
    cases bst (fun t => ((sum ls t).wire, (sum ls t).time)) l with
    | none => rfl
    | some y =>
      have e : (Lr72.better (sum ls y) (sum ls x) = true) ↔ lt2 ((sum ls y).wire, (sum ls y).time) ((sum ls x).wire, (sum ls x).time) := by
        unfold Lr72.better lt2
        simp
      dsimp only
      by_cases c : Lr72.better (sum ls y) (sum ls x) = true
      · rw [if_pos c, if_pos (e.mp c)]
      · rw [if_neg c, if_neg (fun d => c (e.mpr d))]
theorem least_bst (ls : List Leaf) (ns : List Nat) : ∀ l, Lr73.least ls ns l = bst (fun t => (Lr73.power ls ns t, (sum ls t).wire)) l
  | [] => rfl
  | x :: l => by
    simp only [Lr73.least, bst]
    rw [least_bst ls ns l]
    cases bst (fun t => (Lr73.power ls ns t, (sum ls t).wire)) l with
    | none => rfl
    | some y =>
      have e : ((decide (Lr73.power ls ns y < Lr73.power ls ns x) || (decide (Lr73.power ls ns y = Lr73.power ls ns x) && decide ((sum ls y).wire < (sum ls x).wire))) = true) ↔ lt2 (Lr73.power ls ns y, (sum ls y).wire) (Lr73.power ls ns x, (sum ls x).wire) := by
        unfold lt2
        simp
      dsimp only
      by_cases c : (decide (Lr73.power ls ns y < Lr73.power ls ns x) || (decide (Lr73.power ls ns y = Lr73.power ls ns x) && decide ((sum ls y).wire < (sum ls x).wire))) = true
      · rw [if_pos c, if_pos (e.mp c)]
      · rw [if_neg c, if_neg (fun d => c (e.mpr d))]
/-! areas hold something -/
def Dv (d : Int) (o : OD) : Prop := d ∣ o.area.a ∧ d ∣ o.area.b ∧ d ∣ o.area.c ∧ d ∣ o.area.d ∧ d ∣ o.time
def Good (o : OD) : Prop := o.area.a ≤ o.area.b ∧ o.area.c ≤ o.area.d
theorem dvd_max {d x y : Int} (h1 : d ∣ x) (h2 : d ∣ y) : d ∣ max x y := by
  rw [Int.max_def]
  split
  · exact h2
  · exact h1
theorem dvd_min {d x y : Int} (h1 : d ∣ x) (h2 : d ∣ y) : d ∣ min x y := by
  rw [Int.min_def]
  split
  · exact h1
  · exact h2
theorem dv_mono {d e : Int} {o : OD} (h : e ∣ d) (hd : Dv d o) : Dv e o := ⟨Int.dvd_trans h hd.1, Int.dvd_trans h hd.2.1, Int.dvd_trans h hd.2.2.1, Int.dvd_trans h hd.2.2.2.1, Int.dvd_trans h hd.2.2.2.2⟩
theorem dv_join {d : Int} (hd : 0 < d) {x y : OD} (hx : Dv (2 * d) x) (hy : Dv (2 * d) y) (gx : Good x) (gy : Good y) : Dv d (joinOD x y) ∧ Good (joinOD x y) := by
  have ha : 2 * d ∣ Lr71.apart x.area y.area := by
    unfold Lr71.apart
    exact dvd_max (Int.dvd_zero _) (dvd_max (dvd_max (Int.dvd_sub hx.1 hy.2.1) (Int.dvd_sub hy.1 hx.2.1)) (dvd_max (Int.dvd_sub hx.2.2.1 hy.2.2.2.1) (Int.dvd_sub hy.2.2.1 hx.2.2.2.1)))
  have hs : 2 * d ∣ x.time + y.time + Lr71.apart x.area y.area := Int.dvd_add (Int.dvd_add hx.2.2.2.2 hy.2.2.2.2) ha
  obtain ⟨c, hc⟩ := hs
  have hh : (x.time + y.time + Lr71.apart x.area y.area) / 2 = d * c := by
    rw [hc, Int.mul_assoc]
    omega
  have hb : 2 * ((x.time + y.time + Lr71.apart x.area y.area) / 2) = x.time + y.time + Lr71.apart x.area y.area := by
    rw [hh, hc, Int.mul_assoc]
  have d2 : d ∣ 2 * d := ⟨2, by rw [Int.mul_comm]⟩
  have x1 := dv_mono d2 hx
  have y1 := dv_mono d2 hy
  have jt : d ∣ jtime x y := by
    unfold jtime
    rw [hh]
    exact dvd_max (dvd_max x1.2.2.2.2 y1.2.2.2.2) (Int.dvd_mul_right d c)
  have rx : d ∣ jtime x y - x.time := Int.dvd_sub jt x1.2.2.2.2
  have ry : d ∣ jtime x y - y.time := Int.dvd_sub jt y1.2.2.2.2
  refine ⟨⟨dvd_max (Int.dvd_sub x1.1 rx) (Int.dvd_sub y1.1 ry), dvd_min (Int.dvd_add x1.2.1 rx) (Int.dvd_add y1.2.1 ry), dvd_max (Int.dvd_sub x1.2.2.1 rx) (Int.dvd_sub y1.2.2.1 ry), dvd_min (Int.dvd_add x1.2.2.2.1 rx) (Int.dvd_add y1.2.2.2.1 ry), jt⟩, ?_⟩
  have j1 : x.time ≤ jtime x y := by unfold jtime; omega
  have j2 : y.time ≤ jtime x y := by unfold jtime; omega
  have j3 : x.time + y.time + Lr71.apart x.area y.area ≤ 2 * jtime x y := by
    rw [← hb]
    unfold jtime
    omega
  have a1 : x.area.a - y.area.b ≤ Lr71.apart x.area y.area := by unfold Lr71.apart; omega
  have a2 : y.area.a - x.area.b ≤ Lr71.apart x.area y.area := by unfold Lr71.apart; omega
  have a3 : x.area.c - y.area.d ≤ Lr71.apart x.area y.area := by unfold Lr71.apart; omega
  have a4 : y.area.c - x.area.d ≤ Lr71.apart x.area y.area := by unfold Lr71.apart; omega
  have g1 := gx.1
  have g2 := gx.2
  have g3 := gy.1
  have g4 := gy.2
  constructor
  · show max (x.area.a - (jtime x y - x.time)) (y.area.a - (jtime x y - y.time)) ≤ min (x.area.b + (jtime x y - x.time)) (y.area.b + (jtime x y - y.time))
    omega
  · show max (x.area.c - (jtime x y - x.time)) (y.area.c - (jtime x y - y.time)) ≤ min (x.area.d + (jtime x y - x.time)) (y.area.d + (jtime x y - y.time))
    omega
theorem pow_dvd {a b : Nat} (h : a ≤ b) : ((2 : Int) ^ a) ∣ 2 ^ b := ⟨2 ^ (b - a), by rw [← Int.pow_add]; congr 1; omega⟩
theorem odT_good {ls : List Leaf} {ns : List Nat} (hl : ns.length = ls.length) : ∀ (t : Tree), (∀ k ∈ leavesOf t, k < ls.length) → high t ≤ 7 → Dv (2 ^ (8 - high t)) (odT (ldOf ls ns) t) ∧ Good (odT (ldOf ls ns) t)
  | .leaf k, h, _ => by
    have hk := h k (List.mem_singleton.mpr rfl)
    have e : ls[k]? = some ls[k] := List.getElem?_eq_getElem hk
    have eo : odT (ldOf ls ns) (.leaf k) = leafOD k ⟨Lr74.place ls[k].at_, ls[k].late * 256, ns.getD k 0⟩ := by
      show leafOD k ((ldOf ls ns).getD k ld0) = _
      rw [ld_getD hl e]
    rw [eo]
    have m : ∀ z : Int, ((2 : Int) ^ (8 - high (.leaf k))) ∣ z * 256 := fun z => ⟨z, by
      show z * 256 = 256 * z
      rw [Int.mul_comm]⟩
    exact ⟨⟨m _, m _, m _, m _, m _⟩, Int.le_refl _, Int.le_refl _⟩
  | .two x y, h, hh => by
    have hh : max (high x) (high y) + 1 ≤ 7 := hh
    have hx := odT_good hl (ns := ns) x (fun k hk => h k (List.mem_append_left _ hk)) (by omega)
    have hy := odT_good hl (ns := ns) y (fun k hk => h k (List.mem_append_right _ hk)) (by omega)
    have e : (2 : Int) * 2 ^ (8 - (max (high x) (high y) + 1)) = 2 ^ (8 - max (high x) (high y)) := by
      rw [show 8 - max (high x) (high y) = (8 - (max (high x) (high y) + 1)) + 1 by omega, Int.pow_succ, Int.mul_comm]
    exact dv_join (d := 2 ^ (8 - (max (high x) (high y) + 1))) (Int.pow_pos (by decide)) (by rw [e]; exact dv_mono (pow_dvd (by omega)) hx.1) (by rw [e]; exact dv_mono (pow_dvd (by omega)) hy.1) hx.2 hy.2
/-! joints and their numbers -/
def jn : Tree → Nat
  | .leaf _ => 0
  | .two x y => jn x + jn y + 1
def rt : Tree → Nat → Nat
  | .leaf k, _ => k
  | .two x y, m => m + jn x + jn y
theorem prs_len : ∀ (t : Tree) (m : Nat), (prs t m).1.length = jn t
  | .leaf _, _ => rfl
  | .two x y, m => by
    show ((prs x m).1 ++ (prs y (prs x m).2.2).1 ++ [_]).length = _
    rw [List.length_append, List.length_append, prs_len x, prs_len y]
    rfl
theorem prs_nx (t : Tree) (m : Nat) : (prs t m).2.2 = m + jn t := by rw [prs_next, prs_len]
theorem prs_rt : ∀ (t : Tree) (m : Nat), (prs t m).2.1 = rt t m
  | .leaf _, _ => rfl
  | .two x y, m => by
    show (prs y (prs x m).2.2).2.2 = _
    rw [prs_nx, prs_nx]
    rfl
theorem prs_two (x y : Tree) (m : Nat) : (prs (.two x y) m).1 = (prs x m).1 ++ (prs y (m + jn x)).1 ++ [(rt x m, rt y (m + jn x))] := by
  show (prs x m).1 ++ (prs y (prs x m).2.2).1 ++ [((prs x m).2.1, (prs y (prs x m).2.2).2.1)] = _
  rw [prs_rt, prs_rt, prs_nx]
theorem leaves_len : ∀ t : Tree, (leavesOf t).length = jn t + 1
  | .leaf _ => rfl
  | .two x y => by
    show (leavesOf x ++ leavesOf y).length = jn x + jn y + 1 + 1
    rw [List.length_append, leaves_len x, leaves_len y]
    omega
theorem high_jn : ∀ t : Tree, high t ≤ jn t
  | .leaf _ => Nat.le_refl _
  | .two x y => by
    have := high_jn x
    have := high_jn y
    show max (high x) (high y) + 1 ≤ jn x + jn y + 1
    omega
theorem joints_len : ∀ t : Tree, (joints t).length = jn t
  | .leaf _ => rfl
  | .two x y => by
    show (joints x ++ joints y ++ [_]).length = _
    rw [List.length_append, List.length_append, joints_len x, joints_len y]
    rfl
theorem joints_sub : ∀ (t : Tree) (x : Tree), x ∈ joints t → (∀ k ∈ leavesOf x, k ∈ leavesOf t) ∧ high x ≤ high t
  | .leaf _, x, h => nomatch h
  | .two a b, x, h => by
    have h : x ∈ joints a ++ joints b ++ [.two a b] := h
    rcases List.mem_append.mp h with h | h
    · rcases List.mem_append.mp h with h | h
      · have := joints_sub a x h
        exact ⟨fun k hk => List.mem_append_left _ (this.1 k hk), by show _ ≤ max (high a) (high b) + 1; omega⟩
      · have := joints_sub b x h
        exact ⟨fun k hk => List.mem_append_right _ (this.1 k hk), by show _ ≤ max (high a) (high b) + 1; omega⟩
    · rw [List.mem_singleton.mp h]
      exact ⟨fun k hk => hk, Nat.le_refl _⟩
theorem rt_lt (t : Tree) (m : Nat) (h : ∀ k ∈ leavesOf t, k < m) : rt t m < m + jn t := by
  cases t with
  | leaf k => exact h k (List.mem_singleton.mpr rfl)
  | two x y => show m + jn x + jn y < m + (jn x + jn y + 1); omega
/-- the sides: leaves of the tree, or its joints -/
theorem prs_mem : ∀ (t : Tree) (m i : Nat) (p : Nat × Nat), (prs t m).1[i]? = some p → (p.1 ∈ leavesOf t ∨ (m ≤ p.1 ∧ p.1 < m + i)) ∧ (p.2 ∈ leavesOf t ∨ (m ≤ p.2 ∧ p.2 < m + i))
  | .leaf _, _, i, p, h => by cases h
  | .two x y, m, i, p, h => by
    rw [prs_two] at h
    have hx := prs_mem x m
    have hy := prs_mem y (m + jn x)
    by_cases c1 : i < jn x
    · rw [List.getElem?_append_left (by rw [List.length_append, prs_len]; omega), List.getElem?_append_left (by rw [prs_len]; exact c1)] at h
      have := hx i p h
      exact ⟨this.1.imp (fun z => List.mem_append_left _ z) id, this.2.imp (fun z => List.mem_append_left _ z) id⟩
    · by_cases c2 : i < jn x + jn y
      · rw [List.getElem?_append_left (by rw [List.length_append, prs_len, prs_len]; omega), List.getElem?_append_right (by rw [prs_len]; omega), prs_len] at h
        have := hy _ p h
        exact ⟨this.1.imp (fun z => List.mem_append_right _ z) (fun z => by omega), this.2.imp (fun z => List.mem_append_right _ z) (fun z => by omega)⟩
      · rw [List.getElem?_append_right (by rw [List.length_append, prs_len, prs_len]; omega), List.length_append, prs_len, prs_len] at h
        have hi : i = jn x + jn y := by
          have := (List.getElem?_eq_some_iff.mp h).1
          rw [List.length_singleton] at this
          omega
        subst hi
        rw [Nat.sub_self] at h
        cases h
        constructor
        · cases x with
          | leaf k => exact .inl (List.mem_append_left _ (List.mem_singleton.mpr rfl))
          | two a b => exact .inr ⟨by show m ≤ m + jn a + jn b; omega, by show m + jn a + jn b < m + (jn a + jn b + 1 + jn y); omega⟩
        · cases y with
          | leaf k => exact .inl (List.mem_append_right _ (List.mem_singleton.mpr rfl))
          | two a b => exact .inr ⟨by show m ≤ m + jn x + jn a + jn b; omega, by show m + jn x + jn a + jn b < m + (jn x + (jn a + jn b + 1)); omega⟩
theorem prs_ok {t : Tree} {n : Nat} (h : ∀ k ∈ leavesOf t, k < n) : okPairs n (prs t n).1 := fun i p hp => by
  have := prs_mem t n i p hp
  exact ⟨this.1.elim (fun z => by have := h _ z; omega) (fun z => z.2), this.2.elim (fun z => by have := h _ z; omega) (fun z => z.2)⟩
/-! the outcomes, by number -/
def stO (S : List OD) (p : Nat × Nat) : List OD := S ++ [joinOD (S.getD p.1 .none) (S.getD p.2 .none)]
theorem ocs_fold (L : List LD) (ps : List (Nat × Nat)) : ∀ i, i ≤ ps.length → ocs L ps i = (ps.take i).foldl stO (ocs L ps 0)
  | 0, _ => rfl
  | i + 1, h => by
    have e : ps[i]? = some (ps.getD i (0, 0)) := getD_at (by omega)
    rw [List.take_add_one, e, List.foldl_append, ← ocs_fold L ps i (by omega)]
    rfl
theorem getD_left {α : Type} {A B : List α} {i : Nat} {d : α} (h : i < A.length) : (A ++ B).getD i d = A.getD i d := by
  rw [List.getD, List.getD, List.getElem?_append_left h]
theorem fold_od (L : List LD) : ∀ (t : Tree) (S : List OD), (∀ k ∈ leavesOf t, k < S.length ∧ S.getD k .none = odT L (.leaf k)) →
    (prs t S.length).1.foldl stO S = S ++ (joints t).map (odT L) ∧ (S ++ (joints t).map (odT L)).getD (rt t S.length) .none = odT L t
  | .leaf k, S, h => by
    refine ⟨by simp [prs, joints], ?_⟩
    have := h k (List.mem_singleton.mpr rfl)
    rw [getD_left (by exact this.1)]
    exact this.2
  | .two x y, S, h => by
    have hx := fold_od L x S fun k hk => h k (List.mem_append_left _ hk)
    have ln : (S ++ (joints x).map (odT L)).length = S.length + jn x := by rw [List.length_append, List.length_map, joints_len]
    have hy := fold_od L y (S ++ (joints x).map (odT L)) fun k hk => by
      have := h k (List.mem_append_right _ hk)
      exact ⟨by rw [ln]; omega, by rw [getD_left this.1]; exact this.2⟩
    rw [ln] at hy
    have lx : ∀ k ∈ leavesOf x, k < S.length := fun k hk => (h k (List.mem_append_left _ hk)).1
    have j : joints (.two x y) = joints x ++ joints y ++ [.two x y] := rfl
    rw [prs_two, List.foldl_append, List.foldl_append, hx.1, hy.1]
    constructor
    · show (S ++ (joints x).map (odT L) ++ (joints y).map (odT L)) ++ [joinOD ((S ++ (joints x).map (odT L) ++ (joints y).map (odT L)).getD (rt x S.length) .none) ((S ++ (joints x).map (odT L) ++ (joints y).map (odT L)).getD (rt y (S.length + jn x)) .none)] = _
      rw [hy.2, getD_left (by rw [ln]; exact rt_lt x _ lx), hx.2, j]
      simp [odT]
    · rw [j, List.map_append, List.map_append, ← List.append_assoc, ← List.append_assoc]
      show ((S ++ (joints x).map (odT L) ++ (joints y).map (odT L)) ++ [odT L (.two x y)]).getD (S.length + jn x + jn y) .none = _
      rw [List.getD, List.getElem?_append_right (by rw [List.length_append, ln, List.length_map, joints_len]; exact Nat.le_refl _)]
      rw [List.length_append, ln, List.length_map, joints_len, Nat.sub_self]
      rfl
theorem ocs_zero (L : List LD) (ps : List (Nat × Nat)) {k : Nat} (hk : k < L.length) : (ocs L ps 0).getD k .none = odT L (.leaf k) := by
  have e := getD_at (d := ld0) hk
  show (L.mapIdx fun k l => leafOD k l).getD k .none = leafOD k (L.getD k ld0)
  rw [List.getD, List.getElem?_mapIdx, e]
  rfl
theorem ocs_tree (L : List LD) {t : Tree} (h : ∀ k ∈ leavesOf t, k < L.length) : ocs L (prs t L.length).1 (prs t L.length).1.length = ocs L (prs t L.length).1 0 ++ (joints t).map (odT L) := by
  have l0 : (ocs L (prs t L.length).1 0).length = L.length := by rw [ocs_len]; rfl
  have := (fold_od L t (ocs L (prs t L.length).1 0) fun k hk => ⟨by rw [l0]; exact h k hk, ocs_zero L _ (h k hk)⟩).1
  rw [l0] at this
  rw [ocs_fold L _ _ (Nat.le_refl _), List.take_length, this]
theorem ocs_areas {ls : List Leaf} {ns : List Nat} (hl : ns.length = ls.length) {t : Tree} (h : ∀ k ∈ leavesOf t, k < ls.length) (hh : high t ≤ 7) : okAreas (ocs (ldOf ls ns) (prs t ls.length).1 (prs t ls.length).1.length) := by
  have ll := ld_len hl
  have := ocs_tree (ldOf ls ns) (t := t) (by rw [ll]; exact h)
  rw [ll] at this
  rw [this]
  intro o ho
  rcases List.mem_append.mp ho with z | z
  · have z : o ∈ (ldOf ls ns).mapIdx fun k l => leafOD k l := z
    obtain ⟨k, hk, rfl⟩ := List.mem_mapIdx.mp z
    exact ⟨Int.le_refl _, Int.le_refl _⟩
  · obtain ⟨x, hx, rfl⟩ := List.mem_map.mp z
    have := joints_sub t x hx
    exact (odT_good hl x (fun k hk => h k (this.1 k hk)) (by omega)).2
end CM
set_option linter.all false
set_option autoImplicit false
/-! The mirror held against the specification, third part: what is built, mended. -/
namespace CM
open Lr72 (Tree Leaf Laid leavesOf sum lay shapeOf laidJoints joints)
open Lr71 (Place Area)
def bdOf (n : Nat) (b : Lr74.Built) : BD := ⟨(prs (shapeOf b.tree) n).1, (laidJoints b.tree).map (·.1), (laidJoints b.tree).map (fun z => (z.2.1, z.2.2)), b.trunk⟩
theorem lj_len : ∀ x : Laid, (laidJoints x).length = jn (shapeOf x)
  | .leaf _ _ => rfl
  | .two p x wx y wy => by
    show (laidJoints x ++ laidJoints y ++ [_]).length = _
    rw [List.length_append, List.length_append, lj_len x, lj_len y]
    rfl
theorem lay_shape (ls : List Leaf) : ∀ (t : Tree) (p : Place), shapeOf (lay ls p t) = t
  | .leaf _, _ => rfl
  | .two x y, p => by
    show Tree.two (shapeOf (lay ls _ x)) (shapeOf (lay ls _ y)) = _
    rw [lay_shape ls x, lay_shape ls y]
theorem lay_place (ls : List Leaf) (t : Tree) (p : Place) : (lay ls p t).place = Lr71.near (sum ls t).area p := by
  cases t <;> rfl
/-! wires -/
def wrT (os : List OD) (m : Nat) (ps : List (Nat × Nat)) : List (Int × Int) := ps.mapIdx fun i p => ((os.getD (m + i) .none).time - (os.getD p.1 .none).time, (os.getD (m + i) .none).time - (os.getD p.2 .none).time)
/-- a tree's outcomes are where its numbers say -/
structure OsAt (L : List LD) (os : List OD) (t : Tree) (m : Nat) : Prop where
  lf : ∀ k ∈ leavesOf t, os.getD k .none = odT L (.leaf k)
  jt : ∀ (i : Nat) x, (joints t)[i]? = some x → os.getD (m + i) .none = odT L x
theorem joints_last (x y : Tree) : (joints (.two x y))[jn x + jn y]? = some (.two x y) := by
  show (joints x ++ joints y ++ [.two x y])[jn x + jn y]? = _
  rw [List.getElem?_append_right (by rw [List.length_append, joints_len, joints_len]; exact Nat.le_refl _), List.length_append, joints_len, joints_len, Nat.sub_self]
  rfl
theorem OsAt.root {L : List LD} {os : List OD} {t : Tree} {m : Nat} (h : OsAt L os t m) : os.getD (rt t m) .none = odT L t := by
  cases t with
  | leaf k => exact h.lf k (List.mem_singleton.mpr rfl)
  | two x y =>
    have := h.jt (jn x + jn y) _ (joints_last x y)
    show os.getD (m + jn x + jn y) .none = _
    rw [Nat.add_assoc]
    exact this
theorem OsAt.fst {L : List LD} {os : List OD} {x y : Tree} {m : Nat} (h : OsAt L os (.two x y) m) : OsAt L os x m :=
  ⟨fun k hk => h.lf k (List.mem_append_left _ hk), fun i z hz => h.jt i z (by
    show (joints x ++ joints y ++ [.two x y])[i]? = _
    rw [List.append_assoc, List.getElem?_append_left (List.getElem?_eq_some_iff.mp hz).1]
    exact hz)⟩
theorem OsAt.snd {L : List LD} {os : List OD} {x y : Tree} {m : Nat} (h : OsAt L os (.two x y) m) : OsAt L os y (m + jn x) :=
  ⟨fun k hk => h.lf k (List.mem_append_right _ hk), fun i z hz => by
    have := h.jt (jn x + i) z (by
      show (joints x ++ joints y ++ [.two x y])[jn x + i]? = _
      rw [List.append_assoc, List.getElem?_append_right (by rw [joints_len]; omega), joints_len, List.getElem?_append_left (by have := (List.getElem?_eq_some_iff.mp hz).1; omega)]
      rw [show jn x + i - jn x = i by omega]
      exact hz)
    rw [Nat.add_assoc]
    exact this⟩
theorem wr_tree {ls : List Leaf} {ns : List Nat} (hl : ns.length = ls.length) {os : List OD} : ∀ (t : Tree) (m : Nat) (q : Place), (∀ k ∈ leavesOf t, k < ls.length) → OsAt (ldOf ls ns) os t m → wrT os m (prs t m).1 = (laidJoints (lay ls q t)).map fun z => (z.2.1, z.2.2)
  | .leaf _, _, _, _, _ => rfl
  | .two x y, m, q, h, o => by
    have hx : ∀ k ∈ leavesOf x, k < ls.length := fun k hk => h k (List.mem_append_left _ hk)
    have hy : ∀ k ∈ leavesOf y, k < ls.length := fun k hk => h k (List.mem_append_right _ hk)
    have ex := wr_tree hl x m (Lr71.near (sum ls (.two x y)).area q) hx o.fst
    have ey := wr_tree hl y (m + jn x) (Lr71.near (sum ls (.two x y)).area q) hy o.snd
    have rr : os.getD (m + (jn x + jn y)) .none = odT (ldOf ls ns) (.two x y) := by
      have := o.root
      rw [← Nat.add_assoc]
      exact this
    show _ = (laidJoints (lay ls _ x) ++ laidJoints (lay ls _ y) ++ [(_, _, _)]).map _
    rw [List.map_append, List.map_append, ← ex, ← ey]
    unfold wrT
    rw [prs_two, List.mapIdx_append, List.mapIdx_append, prs_len]
    congr 1
    · congr 1
      refine List.ext_getElem? fun i => ?_
      rw [List.getElem?_mapIdx, List.getElem?_mapIdx]
      rw [show m + (i + jn x) = m + jn x + i by omega]
    · rw [List.length_append, prs_len, prs_len]
      show [((os.getD (m + (0 + (jn x + jn y))) .none).time - (os.getD (rt x m) .none).time, (os.getD (m + (0 + (jn x + jn y))) .none).time - (os.getD (rt y (m + jn x)) .none).time)] = [(_, _)]
      rw [Nat.zero_add, rr, o.fst.root, o.snd.root, (odT_sum hl x hx).2.1, (odT_sum hl y hy).2.1, (odT_sum hl (.two x y) h).2.1]
/-! places -/
def stP (os : List OD) (r : Nat) (p : Nat × Nat) (P : List Place) : List Place :=
  let P1 := P.set p.1 (Lr71.near (os.getD p.1 .none).area (P.getD r pl0))
  P1.set p.2 (Lr71.near (os.getD p.2 .none).area (P1.getD r pl0))
def plR (os : List OD) : List (Nat × Nat) → Nat → List Place → List Place
  | [], _, P => P
  | p :: ps, m, P => stP os m p (plR os ps (m + 1) P)
theorem plR_append (os : List OD) : ∀ (A B : List (Nat × Nat)) (m : Nat) (P : List Place), plR os (A ++ B) m P = plR os A m (plR os B (m + A.length) P)
  | [], B, m, P => rfl
  | p :: A, B, m, P => by
    show stP os m p (plR os (A ++ B) (m + 1) P) = stP os m p (plR os A (m + 1) (plR os B (m + (A.length + 1)) P))
    rw [plR_append os A B, show m + 1 + A.length = m + (A.length + 1) by omega]
theorem plUp_R (os : List OD) (ps : List (Nat × Nat)) (src : Place) : ∀ i, i ≤ ps.length → plUp os ps src i = plR os (ps.drop (ps.length - i)) (ps.length + 1 + (ps.length - i)) (plUp os ps src 0)
  | 0, _ => by
    rw [Nat.sub_zero, List.drop_length]
    rfl
  | i + 1, h => by
    have e : ps.drop (ps.length - (i + 1)) = ps.getD (ps.length - 1 - i) (0, 0) :: ps.drop (ps.length - i) := by
      have hk : ps.length - (i + 1) < ps.length := by omega
      rw [List.drop_eq_getElem_cons hk, show ps.length - (i + 1) + 1 = ps.length - i by omega]
      congr 1
      simp only [show ps.length - 1 - i = ps.length - (i + 1) by omega]
      simp [hk]
    rw [e]
    show plStep os ps (plUp os ps src i) (ps.length - 1 - i) = stP os _ _ (plR os _ _ _)
    rw [plUp_R os ps src i (by omega), show ps.length + 1 + (ps.length - (i + 1)) + 1 = ps.length + 1 + (ps.length - i) by omega, show ps.length + 1 + (ps.length - (i + 1)) = ps.length + 1 + (ps.length - 1 - i) by omega]
    rfl
theorem stP_len (os : List OD) (r : Nat) (p : Nat × Nat) (P : List Place) : (stP os r p P).length = P.length := by
  unfold stP
  rw [List.length_set, List.length_set]
theorem stP_ne (os : List OD) (r : Nat) (p : Nat × Nat) (P : List Place) {i : Nat} (h1 : i ≠ p.1) (h2 : i ≠ p.2) : (stP os r p P)[i]? = P[i]? := by
  unfold stP
  dsimp only
  rw [List.getElem?_set_ne (fun e => h2 e.symm), List.getElem?_set_ne (fun e => h1 e.symm)]
theorem stP_fst (os : List OD) (r : Nat) (p : Nat × Nat) (P : List Place) (h : p.1 ≠ p.2) (hl : p.1 < P.length) {q : Place} (hr : P[r]? = some q) : (stP os r p P)[p.1]? = some (Lr71.near (os.getD p.1 .none).area q) := by
  unfold stP
  dsimp only
  rw [List.getElem?_set_ne (fun e => h e.symm), List.getElem?_set_self hl, show P.getD r pl0 = q by rw [List.getD, hr]; rfl]
theorem stP_snd (os : List OD) (r : Nat) (p : Nat × Nat) (P : List Place) (h : p.1 ≠ r) (hl : p.2 < P.length) {q : Place} (hr : P[r]? = some q) : (stP os r p P)[p.2]? = some (Lr71.near (os.getD p.2 .none).area q) := by
  unfold stP
  dsimp only
  rw [List.getElem?_set_self (by rw [List.length_set]; exact hl)]
  have e : ∀ x, (P.set p.1 x).getD r pl0 = q := fun x => by rw [List.getD, List.getElem?_set_ne h, hr]; rfl
  rw [e]
theorem pl_tree {ls : List Leaf} {ns : List Nat} (hl : ns.length = ls.length) {os : List OD} : ∀ (t : Tree) (m : Nat) (P : List Place) (q : Place), (∀ k ∈ leavesOf t, k < ls.length) → ls.length ≤ m → m + jn t ≤ P.length → OsAt (ldOf ls ns) os t m →
    (jn t ≠ 0 → P[rt t m]? = some (lay ls q t).place) →
    (plR os (prs t m).1 m P).length = P.length ∧ (∀ i, ls.length ≤ i → i < m ∨ m + jn t ≤ i + 1 → (plR os (prs t m).1 m P)[i]? = P[i]?) ∧
    ∀ (i : Nat) z, (laidJoints (lay ls q t))[i]? = some z → (plR os (prs t m).1 m P)[m + i]? = some z.1
  | .leaf _, m, P, q, h, hm, hP, o, hr => ⟨rfl, fun i _ _ => rfl, fun i z hz => by cases hz⟩
  | .two x y, m, P, q, h, hm, hP, o, hr => by
    have hP : m + (jn x + jn y + 1) ≤ P.length := hP
    have hx : ∀ k ∈ leavesOf x, k < ls.length := fun k hk => h k (List.mem_append_left _ hk)
    have hy : ∀ k ∈ leavesOf y, k < ls.length := fun k hk => h k (List.mem_append_right _ hk)
    have hr : P[m + jn x + jn y]? = some (lay ls q (.two x y)).place := hr (by show jn x + jn y + 1 ≠ 0; omega)
    have ep : (lay ls q (.two x y)).place = Lr71.near (sum ls (.two x y)).area q := rfl
    rw [ep] at hr
    have rx := rt_lt x m (fun k hk => Nat.lt_of_lt_of_le (hx k hk) hm)
    have ry := rt_lt y (m + jn x) (fun k hk => by have := hy k hk; omega)
    -- where the roots of the sides are
    have rx2 : jn x ≠ 0 → rt x m + 1 = m + jn x := by
      cases x with
      | leaf k => intro z; exact absurd rfl z
      | two a b => intro _; show m + jn a + jn b + 1 = m + (jn a + jn b + 1); omega
    have ry2 : jn y ≠ 0 → rt y (m + jn x) + 1 = m + jn x + jn y := by
      cases y with
      | leaf k => intro z; exact absurd rfl z
      | two a b => intro _; show m + jn x + jn a + jn b + 1 = m + jn x + (jn a + jn b + 1); omega
    have rx0 : jn x = 0 → rt x m < ls.length := by
      cases x with
      | leaf k => intro _; exact hx k (List.mem_singleton.mpr rfl)
      | two a b => intro z; exact absurd z (by show jn a + jn b + 1 ≠ 0; omega)
    have ry0 : jn y = 0 → rt y (m + jn x) < ls.length := by
      cases y with
      | leaf k => intro _; exact hy k (List.mem_singleton.mpr rfl)
      | two a b => intro z; exact absurd z (by show jn a + jn b + 1 ≠ 0; omega)
    have lay2 : lay ls q (.two x y) = .two (Lr71.near (sum ls (.two x y)).area q) (lay ls (Lr71.near (sum ls (.two x y)).area q) x) ((sum ls (.two x y)).time - (sum ls x).time) (lay ls (Lr71.near (sum ls (.two x y)).area q) y) ((sum ls (.two x y)).time - (sum ls y).time) := rfl
    generalize hq : Lr71.near (sum ls (.two x y)).area q = q1 at hr lay2
    -- the root's own step
    let P1 := stP os (m + jn x + jn y) (rt x m, rt y (m + jn x)) P
    have l1 : P1.length = P.length := stP_len _ _ _ _
    have e1 : plR os (prs (.two x y) m).1 m P = plR os (prs x m).1 m (plR os (prs y (m + jn x)).1 (m + jn x) P1) := by
      rw [prs_two, plR_append, plR_append, List.length_append, prs_len, prs_len]
      show _ = plR os (prs x m).1 m (plR os (prs y (m + jn x)).1 (m + jn x) (stP os (m + jn x + jn y) _ P))
      rw [Nat.add_assoc m (jn x) (jn y)]
      rfl
    have py : jn y ≠ 0 → P1[rt y (m + jn x)]? = some (lay ls q1 y).place := fun z => by
      rw [lay_place, ← (odT_sum hl (ns := ns) y hy).1, ← o.snd.root]
      exact stP_snd os _ (rt x m, rt y (m + jn x)) P (by show rt x m ≠ _; omega) (by show rt y (m + jn x) < _; omega) hr
    have iy := pl_tree hl y (m + jn x) P1 q1 hy (by omega) (by rw [l1]; omega) o.snd py
    let P2 := plR os (prs y (m + jn x)).1 (m + jn x) P1
    have px : jn x ≠ 0 → P2[rt x m]? = some (lay ls q1 x).place := fun z => by
      have := rx2 z
      have e : P2[rt x m]? = P1[rt x m]? := iy.2.1 _ (by omega) (.inl (by omega))
      rw [e, lay_place, ← (odT_sum hl (ns := ns) x hx).1, ← o.fst.root]
      refine stP_fst os _ (rt x m, rt y (m + jn x)) P ?_ (by show rt x m < _; omega) hr
      show rt x m ≠ rt y (m + jn x)
      by_cases c : jn y = 0
      · have := ry0 c
        omega
      · have := ry2 c
        omega
    have ix := pl_tree hl x m P2 q1 hx hm (by show _ ≤ P2.length; rw [iy.1, l1]; omega) o.fst px
    rw [e1]
    have keep : ∀ i, ls.length ≤ i → i < m ∨ m + (jn x + jn y + 1) ≤ i + 1 → (plR os (prs x m).1 m P2)[i]? = P[i]? := fun i h1 h2 => by
      rw [ix.2.1 i h1 (by omega), iy.2.1 i h1 (by omega)]
      refine stP_ne _ _ _ _ ?_ ?_
      · show i ≠ rt x m
        by_cases c : jn x = 0
        · have := rx0 c
          omega
        · have := rx2 c
          omega
      · show i ≠ rt y (m + jn x)
        by_cases c : jn y = 0
        · have := ry0 c
          omega
        · have := ry2 c
          omega
    refine ⟨by rw [ix.1, iy.1, l1], keep, fun i z hz => ?_⟩
    rw [lay2] at hz
    have hz : (laidJoints (lay ls q1 x) ++ laidJoints (lay ls q1 y) ++ [(q1, _, _)])[i]? = some z := hz
    have lx : (laidJoints (lay ls q1 x)).length = jn x := by rw [lj_len, lay_shape]
    have ly : (laidJoints (lay ls q1 y)).length = jn y := by rw [lj_len, lay_shape]
    by_cases c1 : i < jn x
    · rw [List.append_assoc, List.getElem?_append_left (by omega)] at hz
      exact ix.2.2 i z hz
    · by_cases c2 : i < jn x + jn y
      · rw [List.append_assoc, List.getElem?_append_right (by omega), lx, List.getElem?_append_left (by omega)] at hz
        have e3 : (plR os (prs x m).1 m P2)[m + i]? = P2[m + i]? := ix.2.1 _ (by omega) (.inr (by omega))
        have e4 := iy.2.2 (i - jn x) z hz
        show (plR os (prs x m).1 m P2)[m + i]? = _
        rw [e3, show m + i = m + jn x + (i - jn x) by omega]
        exact e4
      · rw [List.getElem?_append_right (by rw [List.length_append]; omega), List.length_append, lx, ly] at hz
        have hi : i = jn x + jn y := by
          have := (List.getElem?_eq_some_iff.mp hz).1
          rw [List.length_singleton] at this
          omega
        subst hi
        rw [Nat.sub_self] at hz
        cases hz
        show (plR os (prs x m).1 m P2)[m + (jn x + jn y)]? = some q1
        rw [keep _ (by omega) (.inr (by omega)), ← Nat.add_assoc]
        exact hr
theorem osAt_ocs (L : List LD) {t : Tree} (h : ∀ k ∈ leavesOf t, k < L.length) : OsAt L (ocs L (prs t L.length).1 (prs t L.length).1.length) t L.length := by
  have l0 : (ocs L (prs t L.length).1 0).length = L.length := by rw [ocs_len]; rfl
  rw [ocs_tree L h]
  refine ⟨fun k hk => by rw [getD_left (by rw [l0]; exact h k hk)]; exact ocs_zero L _ (h k hk), fun i x hx => ?_⟩
  rw [List.getD, List.getElem?_append_right (by omega), l0, Nat.add_sub_cancel_left, List.getElem?_map, hx]
  rfl
/-- **built** -/
theorem build_eq {ls : List Leaf} {ns : List Nat} (hl : ns.length = ls.length) (h0 : 1 ≤ ls.length) {t : Tree} (h : (leavesOf t).Perm (List.range ls.length)) (c : Lr74.Chip) (hc : c.leaves = ls) :
    buildBD (ldOf ls ns) (prs t ls.length).1 (Lr74.place c.source) = bdOf ls.length (Lr74.build c t) := by
  have ll := ld_len hl
  have hm : ∀ k ∈ leavesOf t, k < ls.length := fun k hk => List.mem_range.mp (h.mem_iff.mp hk)
  have hj : jn t + 1 = ls.length := by rw [← leaves_len, h.length_eq, List.length_range]
  have o := osAt_ocs (ldOf ls ns) (t := t) (by rw [ll]; exact hm)
  rw [ll] at o
  have ol : (ocs (ldOf ls ns) (prs t ls.length).1 (prs t ls.length).1.length).length = ls.length + jn t := by rw [ocs_len, ll, prs_len]
  unfold buildBD
  dsimp only
  generalize ocs (ldOf ls ns) (prs t ls.length).1 (prs t ls.length).1.length = os at o ol
  have u := plUp_R os (prs t ls.length).1 (Lr74.place c.source) _ (Nat.le_refl _)
  rw [Nat.sub_self, List.drop_zero, prs_len, Nat.add_zero, hj] at u
  have l0 : (plUp os (prs t ls.length).1 (Lr74.place c.source) 0).length = ls.length + jn t := by rw [plUp_len, ol]
  have hrt : rt t ls.length = ls.length + jn t - 1 := by
    cases t with
    | leaf k =>
      have := hm k (List.mem_singleton.mpr rfl)
      have hj : 0 + 1 = ls.length := hj
      show k = ls.length + 0 - 1
      omega
    | two x y => show ls.length + jn x + jn y = ls.length + (jn x + jn y + 1) - 1; omega
  have p0 : (plUp os (prs t ls.length).1 (Lr74.place c.source) 0)[rt t ls.length]? = some (lay ls (Lr74.place c.source) t).place := by
    have : plUp os (prs t ls.length).1 (Lr74.place c.source) 0 = (List.replicate os.length (Lr74.place c.source)).set (os.length - 1) (Lr71.near (os.getD (os.length - 1) .none).area (Lr74.place c.source)) := rfl
    rw [this, ol, ← hrt, List.getElem?_set_self (by rw [List.length_replicate, hrt]; omega), o.root, (odT_sum hl t hm).1, lay_place]
  have z := pl_tree hl t ls.length (plUp os (prs t ls.length).1 (Lr74.place c.source) 0) (Lr74.place c.source) hm (Nat.le_refl _) (by omega) o (fun _ => p0)
  rw [prs_len, u]
  generalize hP : plR os (prs t ls.length).1 ls.length (plUp os (prs t ls.length).1 (Lr74.place c.source) 0) = P at z
  have hlast : P[ls.length + jn t - 1]? = some (lay ls (Lr74.place c.source) t).place := by
    by_cases c : jn t = 0
    · rw [← hP]
      cases t with
      | leaf k =>
        rw [← hrt]
        exact p0
      | two x y => exact absurd c (by show jn x + jn y + 1 ≠ 0; omega)
    · rw [← hrt]
      have := z.2.1 (rt t ls.length) (by omega) (.inr (by omega))
      rw [this]
      exact p0
  unfold bdOf Lr74.build
  dsimp only
  rw [hc, lay_shape]
  congr 1
  · refine List.ext_getElem? fun i => ?_
    rw [ll, List.getElem?_drop, List.getElem?_map]
    by_cases c : i < jn t
    · have hi : i < (laidJoints (lay ls (Lr74.place ‹Lr74.Chip›.source) t)).length := by rw [lj_len, lay_shape]; exact c
      have e := List.getElem?_eq_getElem hi
      rw [z.2.2 i _ e, e]
      rfl
    · rw [List.getElem?_eq_none (by rw [z.1, l0]; omega), List.getElem?_eq_none (by rw [lj_len, lay_shape]; omega)]
      rfl
  · rw [ll]
    exact wr_tree hl t ls.length (Lr74.place c.source) hm o
  · rw [List.getD, z.1, l0, hlast]
    rfl
end CM
set_option linter.all false
set_option autoImplicit false
/-! The mirror held against the specification, fourth part: mended, tied anew, and without a leaf. -/
namespace CM
open Lr72 (Tree Leaf Laid leavesOf sum lay shapeOf laidJoints joints)
open Lr71 (Place Area)
abbrev It := (Nat × Nat) × Place × (Int × Int)
def its : Laid → Nat → List It
  | .leaf _ _, _ => []
  | .two p x wx y wy, m => its x m ++ its y (m + jn (shapeOf x)) ++ [((rt (shapeOf x) m, rt (shapeOf y) (m + jn (shapeOf x))), p, (wx, wy))]
theorem its_len : ∀ (x : Laid) (m : Nat), (its x m).length = jn (shapeOf x)
  | .leaf _ _, _ => rfl
  | .two p x wx y wy, m => by
    show (its x m ++ its y _ ++ [_]).length = _
    rw [List.length_append, List.length_append, its_len x, its_len y]
    rfl
theorem its_pairs : ∀ (x : Laid) (m : Nat), (its x m).map (·.1) = (prs (shapeOf x) m).1
  | .leaf _ _, _ => rfl
  | .two p x wx y wy, m => by
    show (its x m ++ its y _ ++ [_]).map _ = (prs (.two (shapeOf x) (shapeOf y)) m).1
    rw [prs_two, List.map_append, List.map_append, its_pairs x, its_pairs y]
    rfl
theorem its_laid : ∀ (x : Laid) (m : Nat), (its x m).map (fun z => (z.2.1, z.2.2.1, z.2.2.2)) = laidJoints x
  | .leaf _ _, _ => rfl
  | .two p x wx y wy, m => by
    show (its x m ++ its y _ ++ [_]).map _ = laidJoints x ++ laidJoints y ++ [_]
    rw [List.map_append, List.map_append, its_laid x, its_laid y]
    rfl
theorem its_bd (n : Nat) (b : Lr74.Built) : bdOf n b = ⟨(its b.tree n).map (·.1), (its b.tree n).map (·.2.1), (its b.tree n).map (·.2.2), b.trunk⟩ := by
  unfold bdOf
  rw [its_pairs, ← its_laid b.tree n, List.map_map, List.map_map]
  rfl
def lvs : Laid → List (Nat × Place)
  | .leaf k p => [(k, p)]
  | .two _ x _ y _ => lvs x ++ lvs y
theorem lvs_leaves : ∀ x : Laid, (lvs x).map (·.1) = leavesOf (shapeOf x)
  | .leaf _ _ => rfl
  | .two p x wx y wy => by
    show (lvs x ++ lvs y).map _ = leavesOf (shapeOf x) ++ leavesOf (shapeOf y)
    rw [List.map_append, lvs_leaves x, lvs_leaves y]
/-! mended -/
def stM (PL : List Place) (S : List Int × List (Int × Int)) (i : It) : List Int × List (Int × Int) :=
  let t := max (S.1.getD i.1.1 0 + max (Lr71.far i.2.1 (PL.getD i.1.1 pl0)) i.2.2.1) (S.1.getD i.1.2 0 + max (Lr71.far i.2.1 (PL.getD i.1.2 pl0)) i.2.2.2)
  (S.1 ++ [t], S.2 ++ [(t - S.1.getD i.1.1 0, t - S.1.getD i.1.2 0)])
theorem md_fold (L : List LD) (I : List It) (tr : Int) : ∀ i, i ≤ I.length → (mdTs ⟨I.map (·.1), I.map (·.2.1), I.map (·.2.2), tr⟩ L i, mdWs ⟨I.map (·.1), I.map (·.2.1), I.map (·.2.2), tr⟩ L i) = (I.take i).foldl (stM (allPl ⟨I.map (·.1), I.map (·.2.1), I.map (·.2.2), tr⟩ L)) (L.map (·.late), [])
  | 0, _ => rfl
  | i + 1, h => by
    have e : I[i]? = some I[i] := List.getElem?_eq_getElem (by omega)
    have e1 : (I.map (·.1)).getD i (0, 0) = I[i].1 := by rw [List.getD, List.getElem?_map, e]; rfl
    have e2 : (I.map (·.2.1)).getD i pl0 = I[i].2.1 := by rw [List.getD, List.getElem?_map, e]; rfl
    have e3 : (I.map (·.2.2)).getD i (0, 0) = I[i].2.2 := by rw [List.getD, List.getElem?_map, e]; rfl
    rw [List.take_add_one, e, List.foldl_append, ← md_fold L I tr i (by omega)]
    show (mdTs _ L i ++ [mdT _ L (mdTs _ L i) i], mdWs _ L i ++ [(mdT _ L (mdTs _ L i) i - (mdTs _ L i).getD ((I.map (·.1)).getD i (0, 0)).1 0, mdT _ L (mdTs _ L i) i - (mdTs _ L i).getD ((I.map (·.1)).getD i (0, 0)).2 0)]) = _
    unfold mdT mdTo
    dsimp only
    rw [e1, e2, e3]
    rfl
def lateOf (ls : List Leaf) (k : Nat) : Int := match ls[k]? with
  | some x => x.late * Lr72.parts
  | none => 0
theorem md_place (keep : Bool) (ls : List Leaf) : ∀ x : Laid, (Lr74.mended keep ls x).1.place = x.place
  | .leaf _ _ => rfl
  | .two _ _ _ _ _ => rfl
theorem md_shape (keep : Bool) (ls : List Leaf) : ∀ x : Laid, shapeOf (Lr74.mended keep ls x).1 = shapeOf x
  | .leaf _ _ => rfl
  | .two p x wx y wy => by
    show Tree.two (shapeOf (Lr74.mended keep ls x).1) (shapeOf (Lr74.mended keep ls y).1) = _
    rw [md_shape keep ls x, md_shape keep ls y]
    rfl
theorem md_lvs (keep : Bool) (ls : List Leaf) : ∀ x : Laid, lvs (Lr74.mended keep ls x).1 = lvs x
  | .leaf _ _ => rfl
  | .two p x wx y wy => by
    show lvs (Lr74.mended keep ls x).1 ++ lvs (Lr74.mended keep ls y).1 = _
    rw [md_lvs keep ls x, md_lvs keep ls y]
    rfl
theorem md_pls (keep : Bool) (ls : List Leaf) : ∀ x : Laid, (laidJoints (Lr74.mended keep ls x).1).map (·.1) = (laidJoints x).map (·.1)
  | .leaf _ _ => rfl
  | .two p x wx y wy => by
    show (laidJoints (Lr74.mended keep ls x).1 ++ laidJoints (Lr74.mended keep ls y).1 ++ [(p, _, _)]).map _ = (laidJoints x ++ laidJoints y ++ [(p, _, _)]).map _
    rw [List.map_append, List.map_append, md_pls keep ls x, md_pls keep ls y, List.map_append, List.map_append]
    rfl
/-- all its places are where their numbers say -/
structure PlAt (PL : List Place) (x : Laid) (m : Nat) : Prop where
  lf : ∀ z ∈ lvs x, PL.getD z.1 pl0 = z.2
  jt : ∀ (i : Nat) z, (laidJoints x)[i]? = some z → PL.getD (m + i) pl0 = z.1
theorem PlAt.root {PL : List Place} {x : Laid} {m : Nat} (h : PlAt PL x m) : PL.getD (rt (shapeOf x) m) pl0 = x.place := by
  cases x with
  | leaf k p => exact h.lf (k, p) (List.mem_singleton.mpr rfl)
  | two p x wx y wy =>
    have := h.jt (jn (shapeOf x) + jn (shapeOf y)) (p, wx, wy) (by
      show (laidJoints x ++ laidJoints y ++ [(p, wx, wy)])[_]? = _
      rw [List.getElem?_append_right (by rw [List.length_append, lj_len, lj_len]; exact Nat.le_refl _), List.length_append, lj_len, lj_len, Nat.sub_self]
      rfl)
    show PL.getD (m + jn (shapeOf x) + jn (shapeOf y)) pl0 = _
    rw [Nat.add_assoc]
    exact this
theorem PlAt.fst {PL : List Place} {p : Place} {x y : Laid} {wx wy : Int} {m : Nat} (h : PlAt PL (.two p x wx y wy) m) : PlAt PL x m :=
  ⟨fun z hz => h.lf z (List.mem_append_left _ hz), fun i z hz => h.jt i z (by
    show (laidJoints x ++ laidJoints y ++ [_])[i]? = _
    rw [List.append_assoc, List.getElem?_append_left (List.getElem?_eq_some_iff.mp hz).1]
    exact hz)⟩
theorem PlAt.snd {PL : List Place} {p : Place} {x y : Laid} {wx wy : Int} {m : Nat} (h : PlAt PL (.two p x wx y wy) m) : PlAt PL y (m + jn (shapeOf x)) :=
  ⟨fun z hz => h.lf z (List.mem_append_right _ hz), fun i z hz => by
    have := h.jt (jn (shapeOf x) + i) z (by
      show (laidJoints x ++ laidJoints y ++ [_])[_]? = _
      rw [List.append_assoc, List.getElem?_append_right (by rw [lj_len]; omega), lj_len, List.getElem?_append_left (by have := (List.getElem?_eq_some_iff.mp hz).1; omega)]
      rw [Nat.add_sub_cancel_left]
      exact hz)
    rw [Nat.add_assoc]
    exact this⟩
def mts (ls : List Leaf) : Laid → List Int
  | .leaf _ _ => []
  | .two p x wx y wy => mts ls x ++ mts ls y ++ [(Lr74.mended true ls (.two p x wx y wy)).2]
theorem mts_len (ls : List Leaf) : ∀ x : Laid, (mts ls x).length = jn (shapeOf x)
  | .leaf _ _ => rfl
  | .two p x wx y wy => by
    show (mts ls x ++ mts ls y ++ [_]).length = _
    rw [List.length_append, List.length_append, mts_len ls x, mts_len ls y]
    rfl
theorem md_tree {ls : List Leaf} {PL : List Place} : ∀ (x : Laid) (S : List Int) (W : List (Int × Int)), (∀ k ∈ leavesOf (shapeOf x), k < S.length ∧ S.getD k 0 = lateOf ls k) → PlAt PL x S.length →
    (its x S.length).foldl (stM PL) (S, W) = (S ++ mts ls x, W ++ (laidJoints (Lr74.mended true ls x).1).map fun z => (z.2.1, z.2.2)) ∧ (S ++ mts ls x).getD (rt (shapeOf x) S.length) 0 = (Lr74.mended true ls x).2
  | .leaf k p, S, W, h, pl => by
    have := h k (List.mem_singleton.mpr rfl)
    refine ⟨by simp [its, mts, Lr74.mended, laidJoints], ?_⟩
    show (S ++ []).getD k 0 = _
    rw [List.append_nil]
    exact this.2
  | .two p x wx y wy, S, W, h, pl => by
    have hx := md_tree x S W (fun k hk => h k (List.mem_append_left _ hk)) pl.fst
    have ln : (S ++ mts ls x).length = S.length + jn (shapeOf x) := by rw [List.length_append, mts_len]
    have hy := md_tree y (S ++ mts ls x) (W ++ (laidJoints (Lr74.mended true ls x).1).map fun z => (z.2.1, z.2.2)) (fun k hk => by
      have := h k (List.mem_append_right _ hk)
      exact ⟨by rw [ln]; omega, by rw [getD_left this.1]; exact this.2⟩) (by rw [ln]; exact pl.snd)
    rw [ln] at hy
    have lx : ∀ k ∈ leavesOf (shapeOf x), k < S.length := fun k hk => (h k (List.mem_append_left _ hk)).1
    have tx : (S ++ mts ls x ++ mts ls y).getD (rt (shapeOf x) S.length) 0 = (Lr74.mended true ls x).2 := by
      rw [getD_left (by rw [ln]; exact rt_lt _ _ lx)]
      exact hx.2
    have et : (Lr74.mended true ls (.two p x wx y wy)).2 = max ((Lr74.mended true ls x).2 + max (Lr71.far p x.place) wx) ((Lr74.mended true ls y).2 + max (Lr71.far p y.place) wy) := by
      show max ((Lr74.mended true ls x).2 + max wx (Lr71.far p (Lr74.mended true ls x).1.place)) ((Lr74.mended true ls y).2 + max wy (Lr71.far p (Lr74.mended true ls y).1.place)) = _
      rw [md_place, md_place, Int.max_comm wx, Int.max_comm wy]
    have el : laidJoints (Lr74.mended true ls (.two p x wx y wy)).1 = laidJoints (Lr74.mended true ls x).1 ++ laidJoints (Lr74.mended true ls y).1 ++ [(p, (Lr74.mended true ls (.two p x wx y wy)).2 - (Lr74.mended true ls x).2, (Lr74.mended true ls (.two p x wx y wy)).2 - (Lr74.mended true ls y).2)] := rfl
    constructor
    · show (its x S.length ++ its y (S.length + jn (shapeOf x)) ++ [((rt (shapeOf x) S.length, rt (shapeOf y) (S.length + jn (shapeOf x))), p, (wx, wy))]).foldl (stM PL) (S, W) = _
      rw [List.foldl_append, List.foldl_append, hx.1, hy.1]
      show stM PL _ _ = _
      unfold stM
      dsimp only
      rw [tx, hy.2, pl.fst.root, pl.snd.root, ← et, el, List.map_append, List.map_append]
      simp [mts]
    · show (S ++ (mts ls x ++ mts ls y ++ [(Lr74.mended true ls (.two p x wx y wy)).2])).getD (S.length + jn (shapeOf x) + jn (shapeOf y)) 0 = _
      rw [← List.append_assoc, ← List.append_assoc, List.getD, List.getElem?_append_right (by rw [List.length_append, ln, mts_len]; exact Nat.le_refl _), List.length_append, ln, mts_len, Nat.sub_self]
      rfl
/-- a built tree over these leaves: each leaf once, and where it is -/
structure Sits (ls : List Leaf) (x : Laid) : Prop where
  perm : (leavesOf (shapeOf x)).Perm (List.range ls.length)
  at_ : ∀ z ∈ lvs x, ∃ l, ls[z.1]? = some l ∧ z.2 = Lr74.place l.at_
theorem Sits.lt {ls : List Leaf} {x : Laid} (h : Sits ls x) : ∀ k ∈ leavesOf (shapeOf x), k < ls.length := fun k hk => List.mem_range.mp (h.perm.mem_iff.mp hk)
theorem Sits.jn {ls : List Leaf} {x : Laid} (h : Sits ls x) : CM.jn (shapeOf x) + 1 = ls.length := by rw [← leaves_len, h.perm.length_eq, List.length_range]
theorem Sits.pl {ls : List Leaf} {ns : List Nat} (hl : ns.length = ls.length) {b : Lr74.Built} (h : Sits ls b.tree) : PlAt (allPl (bdOf ls.length b) (ldOf ls ns)) b.tree ls.length := by
  have e : allPl (bdOf ls.length b) (ldOf ls ns) = (ldOf ls ns).map (·.place) ++ (laidJoints b.tree).map (·.1) := rfl
  have ll : ((ldOf ls ns).map (·.place)).length = ls.length := by rw [List.length_map, ld_len hl]
  rw [e]
  refine ⟨fun z hz => ?_, fun i z hz => ?_⟩
  · obtain ⟨l, h1, h2⟩ := h.at_ z hz
    rw [getD_left (by rw [ll]; exact (List.getElem?_eq_some_iff.mp h1).1), List.getD, List.getElem?_map, ld_at hl h1, h2]
    rfl
  · rw [List.getD, List.getElem?_append_right (by omega), ll, Nat.add_sub_cancel_left, List.getElem?_map, hz]
    rfl
theorem rt_last {ls : List Leaf} {x : Laid} (h : Sits ls x) : rt (shapeOf x) ls.length = ls.length + jn (shapeOf x) - 1 := by
  have hj := h.jn
  have hm := h.lt
  cases hs : shapeOf x with
  | leaf k =>
    rw [hs] at hj hm
    have := hm k (List.mem_singleton.mpr rfl)
    have hj : 0 + 1 = ls.length := hj
    show k = ls.length + 0 - 1
    omega
  | two a b => show ls.length + jn a + jn b = ls.length + (jn a + jn b + 1) - 1; omega
theorem late_ld {ls : List Leaf} {ns : List Nat} (hl : ns.length = ls.length) {k : Nat} (hk : k < ls.length) : ((ldOf ls ns).map (·.late)).getD k 0 = lateOf ls k := by
  have e : ls[k]? = some ls[k] := List.getElem?_eq_getElem hk
  rw [List.getD, List.getElem?_map, ld_at hl e]
  unfold lateOf
  rw [e]
  rfl
/-- **mended** -/
theorem mend_eq {c : Lr74.Chip} {ns : List Nat} (hl : ns.length = c.leaves.length) {b : Lr74.Built} (h : Sits c.leaves b.tree) :
    mendBD (bdOf c.leaves.length b) (ldOf c.leaves ns) (Lr74.place c.source) = bdOf c.leaves.length (Lr74.mend true c b) := by
  have ll : ((ldOf c.leaves ns).map (·.late)).length = c.leaves.length := by rw [List.length_map, ld_len hl]
  have pl := h.pl hl
  have hj := h.jn
  have f := md_fold (ldOf c.leaves ns) (its b.tree c.leaves.length) b.trunk _ (Nat.le_refl _)
  have t := md_tree (ls := c.leaves) b.tree ((ldOf c.leaves ns).map (·.late)) [] (fun k hk => ⟨by rw [ll]; exact h.lt k hk, late_ld hl (h.lt k hk)⟩) (by rw [ll]; exact pl)
  rw [ll] at t
  rw [List.take_length, ← its_bd, t.1, its_len, List.nil_append] at f
  have f2 := congrArg Prod.snd f
  have f2 : mdWs (bdOf c.leaves.length b) (ldOf c.leaves ns) (jn (shapeOf b.tree)) = _ := f2
  unfold mendBD
  have e1 : (bdOf c.leaves.length b).pairs.length = jn (shapeOf b.tree) := prs_len _ _
  have e2 : (allPl (bdOf c.leaves.length b) (ldOf c.leaves ns)).length - 1 = rt (shapeOf b.tree) c.leaves.length := by
    rw [rt_last h]
    show ((ldOf c.leaves ns).map (·.place) ++ (laidJoints b.tree).map (·.1)).length - 1 = _
    rw [List.length_append, List.length_map, List.length_map, ld_len hl, lj_len]
  rw [e1, e2, f2, pl.root]
  unfold Lr74.mend bdOf
  dsimp only
  rw [md_shape, md_pls, md_place, Int.max_comm]
  rfl
/-! tied anew: the same with wires of no length -/
def zeroL : Laid → Laid
  | .leaf k p => .leaf k p
  | .two p x _ y _ => .two p (zeroL x) 0 (zeroL y) 0
theorem zero_shape : ∀ x, shapeOf (zeroL x) = shapeOf x
  | .leaf _ _ => rfl
  | .two p x wx y wy => by
    show Tree.two (shapeOf (zeroL x)) (shapeOf (zeroL y)) = _
    rw [zero_shape x, zero_shape y]
    rfl
theorem zero_lvs : ∀ x, lvs (zeroL x) = lvs x
  | .leaf _ _ => rfl
  | .two p x wx y wy => by
    show lvs (zeroL x) ++ lvs (zeroL y) = _
    rw [zero_lvs x, zero_lvs y]
    rfl
theorem zero_place : ∀ x, (zeroL x).place = x.place
  | .leaf _ _ => rfl
  | .two _ _ _ _ _ => rfl
theorem zero_joints : ∀ x, laidJoints (zeroL x) = (laidJoints x).map fun z => (z.1, 0, 0)
  | .leaf _ _ => rfl
  | .two p x wx y wy => by
    show laidJoints (zeroL x) ++ laidJoints (zeroL y) ++ [_] = (laidJoints x ++ laidJoints y ++ [_]).map _
    rw [zero_joints x, zero_joints y, List.map_append, List.map_append]
    rfl
theorem zero_mended (ls : List Leaf) : ∀ x, Lr74.mended true ls (zeroL x) = Lr74.mended false ls x
  | .leaf _ _ => rfl
  | .two p x wx y wy => by
    show Lr74.mended true ls (.two p (zeroL x) 0 (zeroL y) 0) = _
    unfold Lr74.mended
    rw [zero_mended ls x, zero_mended ls y]
    rfl
theorem bare_eq (n : Nat) (b : Lr74.Built) : bareBD (bdOf n b) = bdOf n ⟨0, zeroL b.tree⟩ := by
  unfold bareBD bdOf
  dsimp only
  rw [zero_shape, zero_joints, List.map_map, List.map_map, prs_len]
  congr 1
  refine List.ext_getElem? fun i => ?_
  rw [List.getElem?_replicate, List.getElem?_map, ← lj_len b.tree]
  by_cases c : i < (laidJoints b.tree).length
  · rw [if_pos c, List.getElem?_eq_getElem c]
    rfl
  · rw [if_neg c, List.getElem?_eq_none (by omega)]
    rfl
/-- **tied anew** -/
theorem retie_eq {c : Lr74.Chip} {ns : List Nat} (hl : ns.length = c.leaves.length) {b : Lr74.Built} (h : Sits c.leaves b.tree) :
    mendBD (bareBD (bdOf c.leaves.length b)) (ldOf c.leaves ns) (Lr74.place c.source) = bdOf c.leaves.length (Lr74.mend false c b) := by
  rw [bare_eq]
  have hz : Sits c.leaves (zeroL b.tree) := ⟨by rw [zero_shape]; exact h.perm, by rw [zero_lvs]; exact h.at_⟩
  rw [mend_eq hl (b := ⟨0, zeroL b.tree⟩) hz]
  unfold Lr74.mend
  dsimp only
  rw [zero_mended]
  rfl
end CM
set_option linter.all false
set_option autoImplicit false
/-! The mirror held against the specification, fifth part: without a leaf. -/
namespace CM
open Lr72 (Tree Leaf Laid leavesOf sum lay shapeOf laidJoints joints)
open Lr71 (Place Area)
open Lr74 (cut cutLaid renumber)
def renL (k : Nat) : Laid → Laid
  | .leaf j p => .leaf (renumber k j) p
  | .two p x wx y wy => .two p (renL k x) wx (renL k y) wy
theorem ren_jn (k : Nat) : ∀ x, jn (shapeOf (renL k x)) = jn (shapeOf x)
  | .leaf _ _ => rfl
  | .two p x wx y wy => by
    show jn (shapeOf (renL k x)) + jn (shapeOf (renL k y)) + 1 = _
    rw [ren_jn k x, ren_jn k y]
    rfl
theorem ren_its (k : Nat) (f : Nat → Nat) : ∀ (x : Laid) (m m' : Nat), (∀ j ∈ leavesOf (shapeOf x), f j = renumber k j) → (∀ i, i < jn (shapeOf x) → f (m + i) = m' + i) →
    its (renL k x) m' = (its x m).map (fun z => ((f z.1.1, f z.1.2), z.2)) ∧ rt (shapeOf (renL k x)) m' = f (rt (shapeOf x) m)
  | .leaf j p, m, m', h1, h2 => ⟨rfl, (h1 j (List.mem_singleton.mpr rfl)).symm⟩
  | .two p x wx y wy, m, m', h1, h2 => by
    have h2 : ∀ i, i < jn (shapeOf x) + jn (shapeOf y) + 1 → f (m + i) = m' + i := h2
    have ix := ren_its k f x m m' (fun j hj => h1 j (List.mem_append_left _ hj)) (fun i hi => h2 i (by omega))
    have iy := ren_its k f y (m + jn (shapeOf x)) (m' + jn (shapeOf x)) (fun j hj => h1 j (List.mem_append_right _ hj)) (fun i hi => by
      have := h2 (jn (shapeOf x) + i) (by omega)
      rw [Nat.add_assoc, this, Nat.add_assoc])
    constructor
    · show its (renL k x) m' ++ its (renL k y) (m' + jn (shapeOf (renL k x))) ++ [((rt (shapeOf (renL k x)) m', rt (shapeOf (renL k y)) (m' + jn (shapeOf (renL k x)))), p, (wx, wy))] = (its x m ++ its y (m + jn (shapeOf x)) ++ [((rt (shapeOf x) m, rt (shapeOf y) (m + jn (shapeOf x))), p, (wx, wy))]).map _
      rw [ren_jn, ix.1, ix.2, iy.1, iy.2, List.map_append, List.map_append]
      rfl
    · show m' + jn (shapeOf (renL k x)) + jn (shapeOf (renL k y)) = f (m + jn (shapeOf x) + jn (shapeOf y))
      rw [ren_jn, ren_jn, Nat.add_assoc, Nat.add_assoc, h2 _ (by omega)]
theorem cut_no (k : Nat) : ∀ x : Laid, k ∉ leavesOf (shapeOf x) → cutLaid k x = some (renL k x, 0)
  | .leaf j p, h => by
    have : j ≠ k := fun e => h (List.mem_singleton.mpr e.symm)
    simp only [cutLaid]
    rw [if_neg this]
    rfl
  | .two p x wx y wy, h => by
    have hx := cut_no k x fun z => h (List.mem_append_left _ z)
    have hy := cut_no k y fun z => h (List.mem_append_right _ z)
    simp only [cutLaid, hx, hy, renL, Int.add_zero]
theorem its_sides (x : Laid) (m : Nat) : ∀ z ∈ its x m, (z.1.1 ∈ leavesOf (shapeOf x) ∨ (m ≤ z.1.1 ∧ z.1.1 + 1 < m + jn (shapeOf x))) ∧ (z.1.2 ∈ leavesOf (shapeOf x) ∨ (m ≤ z.1.2 ∧ z.1.2 + 1 < m + jn (shapeOf x))) := fun z hz => by
  obtain ⟨i, hi, e⟩ := List.getElem_of_mem hz
  have e1 : (prs (shapeOf x) m).1[i]? = some z.1 := by
    rw [← its_pairs, List.getElem?_map, List.getElem?_eq_getElem hi, e]
    rfl
  rw [its_len] at hi
  have := prs_mem _ _ _ _ e1
  exact ⟨this.1.imp id (fun q => by omega), this.2.imp id (fun q => by omega)⟩
theorem jn_pos {x : Laid} (h : jn (shapeOf x) ≠ 0) (m : Nat) : rt (shapeOf x) m + 1 = m + jn (shapeOf x) := by
  cases x with
  | leaf k p => exact absurd rfl h
  | two p x wx y wy => show m + jn (shapeOf x) + jn (shapeOf y) + 1 = m + (jn (shapeOf x) + jn (shapeOf y) + 1); omega
/-- what becomes of a joint's row -/
def itW (k g o : Nat) (d : Int) (z : It) : It := ((numW z.1.1 k g o, numW z.1.2 k g o), z.2.1, longer z.1 z.2.2 g d)
def moreI (k : Nat) (z : It) : Int := if z.1.1 = k then z.2.2.2 else z.2.2.1
structure CutI (k : Nat) (x : Laid) (m : Nat) (A : List It) (z : It) (B : List It) (x' : Laid) : Prop where
  eq : its x m = A ++ z :: B
  here : z.1.1 = k ∨ z.1.2 = k
  none : ∀ a ∈ A, a.1.1 ≠ k ∧ a.1.2 ≠ k
  cut : cutLaid k x = some (x', if B = [] then moreI k z else 0)
  its : its x' (m - 1) = (A ++ B).map (itW k (m + A.length) (other z.1 k) (moreI k z))
  rt : rt (shapeOf x') (m - 1) = numW (rt (shapeOf x) m) k (m + A.length) (other z.1 k)
  jn : jn (shapeOf x') + 1 = jn (shapeOf x)
theorem numW_ne {x k g o : Nat} (h : x ≠ g) : numW x k g o = numV x k g := by
  unfold numW
  rw [if_neg h]
theorem numW_leaf {x k g o : Nat} (h : x < g) : numW x k g o = renumber k x := by
  rw [numW_ne (by omega)]
  unfold numV renumber
  rw [if_neg (by omega)]
theorem numW_low {x k g o : Nat} (h : x < g) (hk : k < x) : numW x k g o = x - 1 := by
  rw [numW_ne (by omega)]
  unfold numV
  rw [if_neg (by omega), if_pos hk]
theorem numW_high {x k g o : Nat} (h : g < x) : numW x k g o = x - 2 := by
  rw [numW_ne (by omega)]
  unfold numV
  rw [if_pos h]
theorem longer_no {p : Nat × Nat} {w : Int × Int} {g : Nat} {d : Int} (h1 : p.1 ≠ g) (h2 : p.2 ≠ g) : longer p w g d = w := by
  unfold longer
  rw [if_neg h1, if_neg h2]
/-- a side that keeps all its leaves -/
theorem side_its {k g o : Nat} {d : Int} (x : Laid) (m m' : Nat) (h1 : ∀ j ∈ leavesOf (shapeOf x), j < g) (h2 : ∀ i, i < jn (shapeOf x) → m + i ≠ g ∧ numW (m + i) k g o = m' + i) :
    its (renL k x) m' = (its x m).map (itW k g o d) ∧ rt (shapeOf (renL k x)) m' = numW (rt (shapeOf x) m) k g o := by
  have := ren_its k (fun x => numW x k g o) x m m' (fun j hj => numW_leaf (h1 j hj)) (fun i hi => (h2 i hi).2)
  refine ⟨?_, this.2⟩
  rw [this.1]
  refine List.map_congr_left fun z hz => ?_
  have s := its_sides x m z hz
  have ne : ∀ a, (a ∈ leavesOf (shapeOf x) ∨ (m ≤ a ∧ a + 1 < m + jn (shapeOf x))) → a ≠ g := fun a ha => by
    rcases ha with ha | ha
    · have := h1 a ha
      omega
    · have := (h2 (a - m) (by omega)).1
      omega
  unfold itW
  rw [longer_no (ne _ s.1) (ne _ s.2)]
theorem side_none {k : Nat} (x : Laid) (m : Nat) (hk : k < m) (h : k ∉ leavesOf (shapeOf x)) : ∀ a ∈ its x m, a.1.1 ≠ k ∧ a.1.2 ≠ k := fun a ha => by
  have s := its_sides x m a ha
  constructor
  · rcases s.1 with z | z
    · exact fun e => h (e ▸ z)
    · omega
  · rcases s.2 with z | z
    · exact fun e => h (e ▸ z)
    · omega
theorem cut_its (k : Nat) : ∀ (x : Laid) (m : Nat), (leavesOf (shapeOf x)).Nodup → (∀ j ∈ leavesOf (shapeOf x), j < m) → k ∈ leavesOf (shapeOf x) → jn (shapeOf x) ≠ 0 → ∃ A z B x', CutI k x m A z B x'
  | .leaf _ _, _, _, _, _, h => absurd rfl h
  | .two p x wx y wy, m, nd, lt, hk, _ => by
    have nd : (leavesOf (shapeOf x) ++ leavesOf (shapeOf y)).Nodup := nd
    have hk : k ∈ leavesOf (shapeOf x) ++ leavesOf (shapeOf y) := hk
    have lt : ∀ j ∈ leavesOf (shapeOf x) ++ leavesOf (shapeOf y), j < m := lt
    have km := lt k hk
    have nds := List.nodup_append.mp nd
    have lx : ∀ j ∈ leavesOf (shapeOf x), j < m := fun j hj => lt j (List.mem_append_left _ hj)
    have ly : ∀ j ∈ leavesOf (shapeOf y), j < m := fun j hj => lt j (List.mem_append_right _ hj)
    have e2 : its (.two p x wx y wy) m = its x m ++ its y (m + jn (shapeOf x)) ++ [((rt (shapeOf x) m, rt (shapeOf y) (m + jn (shapeOf x))), p, (wx, wy))] := rfl
    have er : rt (shapeOf (.two p x wx y wy)) m = m + jn (shapeOf x) + jn (shapeOf y) := rfl
    have ej : jn (shapeOf (.two p x wx y wy)) = jn (shapeOf x) + jn (shapeOf y) + 1 := rfl
    have rx := rt_lt (shapeOf x) m lx
    have ry := rt_lt (shapeOf y) (m + jn (shapeOf x)) (fun j hj => by have := ly j hj; omega)
    by_cases cx : k ∈ leavesOf (shapeOf x)
    · have cy : k ∉ leavesOf (shapeOf y) := fun z => nds.2.2 k cx k z rfl
      have ky := cut_no k y cy
      by_cases jx : jn (shapeOf x) = 0
      · -- the first side is the leaf
        cases x with
        | two _ _ _ _ _ => exact absurd jx (by show jn _ + jn _ + 1 ≠ 0; omega)
        | leaf j q =>
          obtain rfl : k = j := List.mem_singleton.mp cx
          have e2 : its (.two p (.leaf k q) wx y wy) m = its y m ++ ((k, rt (shapeOf y) m), p, (wx, wy)) :: [] := by
            rw [e2]
            rfl
          have ry : rt (shapeOf y) m < m + jn (shapeOf y) := ry
          have ln := its_len y m
          have oth : other ((k, rt (shapeOf y) m), p, (wx, wy)).1 k = rt (shapeOf y) m := by unfold other; rw [if_pos rfl]
          have s := side_its (k := k) (g := m + jn (shapeOf y)) (o := rt (shapeOf y) m) (d := wy) y m (m - 1) (fun j hj => by have := ly j hj; omega) (fun i hi => ⟨by omega, by rw [numW_low (by omega) (by omega)]; omega⟩)
          refine ⟨_, _, _, renL k y, ⟨e2, .inl rfl, side_none y m km cy, ?_, ?_, ?_, ?_⟩⟩
          · simp only [cutLaid, ky]
            simp [moreI]
          · rw [List.append_nil, ln, oth]
            show _ = (its y m).map (itW k (m + jn (shapeOf y)) (rt (shapeOf y) m) (if k = k then wy else wx))
            rw [if_pos rfl]
            exact s.1
          · rw [ln, oth, s.2, er]
            show _ = numW (m + 0 + jn (shapeOf y)) k (m + jn (shapeOf y)) (rt (shapeOf y) m)
            rw [Nat.add_zero, numW_ne (by omega)]
            unfold numW
            rw [if_pos rfl]
          · rw [ren_jn, ej]
            show _ = 0 + _ + 1
            omega
      · obtain ⟨A, z, B, x', c⟩ := cut_its k x m nds.1 lx cx jx
        have hln : (its x m).length = A.length + (B.length + 1) := by rw [c.eq, List.length_append, List.length_cons]
        rw [its_len] at hln
        have hj := c.jn
        have s := side_its (k := k) (g := m + A.length) (o := other z.1 k) (d := moreI k z) y (m + jn (shapeOf x)) (m - 1 + jn (shapeOf x')) (fun j hj => by have := ly j hj; omega) (fun i hi => ⟨by omega, by rw [numW_high (by omega)]; omega⟩)
        have rx2 := jn_pos jx m
        refine ⟨A, z, B ++ its y (m + jn (shapeOf x)) ++ [((rt (shapeOf x) m, rt (shapeOf y) (m + jn (shapeOf x))), p, (wx, wy))], .two p x' (wx + if B = [] then moreI k z else 0) (renL k y) wy, ⟨?_, c.here, c.none, ?_, ?_, ?_, ?_⟩⟩
        · rw [e2, c.eq]
          simp
        · simp only [cutLaid, c.cut, ky]
          simp
        · show CM.its x' (m - 1) ++ CM.its (renL k y) (m - 1 + CM.jn (shapeOf x')) ++ [((CM.rt (shapeOf x') (m - 1), CM.rt (shapeOf (renL k y)) (m - 1 + CM.jn (shapeOf x'))), p, (wx + if B = [] then moreI k z else 0, wy))] = _
          rw [c.its, c.rt, s.1, s.2]
          rw [show A ++ (B ++ CM.its y (m + CM.jn (shapeOf x)) ++ [((CM.rt (shapeOf x) m, CM.rt (shapeOf y) (m + CM.jn (shapeOf x))), p, (wx, wy))]) = A ++ B ++ CM.its y (m + CM.jn (shapeOf x)) ++ [((CM.rt (shapeOf x) m, CM.rt (shapeOf y) (m + CM.jn (shapeOf x))), p, (wx, wy))] by simp]
          simp only [List.map_append]
          congr 1
          show [_] = [itW k (m + A.length) (other z.1 k) (moreI k z) ((CM.rt (shapeOf x) m, CM.rt (shapeOf y) (m + CM.jn (shapeOf x))), p, (wx, wy))]
          unfold itW longer
          dsimp only
          have hry : CM.rt (shapeOf y) (m + CM.jn (shapeOf x)) ≠ m + A.length := by
            by_cases jy : CM.jn (shapeOf y) = 0
            · cases y with
              | two _ _ _ _ _ => exact absurd jy (by show CM.jn _ + CM.jn _ + 1 ≠ 0; omega)
              | leaf j q =>
                have := ly j (List.mem_singleton.mpr rfl)
                show j ≠ _
                omega
            · have := jn_pos jy (m + CM.jn (shapeOf x))
              omega
          by_cases hB : B = []
          · subst hB
            rw [if_pos rfl, if_pos (by rw [List.length_nil] at hln; omega)]
          · have : B.length ≠ 0 := fun e => hB (List.length_eq_zero_iff.mp e)
            rw [if_neg hB, if_neg (by omega), if_neg hry, Int.add_zero]
        · show m - 1 + CM.jn (shapeOf x') + CM.jn (shapeOf (renL k y)) = _
          rw [ren_jn, er, numW_high (by omega)]
          omega
        · show CM.jn (shapeOf x') + CM.jn (shapeOf (renL k y)) + 1 + 1 = _
          rw [ren_jn, ej]
          omega
    · have cy : k ∈ leavesOf (shapeOf y) := (List.mem_append.mp hk).resolve_left cx
      have kx := cut_no k x cx
      have rxk : rt (shapeOf x) m ≠ k := by
        by_cases jx : jn (shapeOf x) = 0
        · cases x with
          | two _ _ _ _ _ => exact absurd jx (by show jn _ + jn _ + 1 ≠ 0; omega)
          | leaf j q =>
            intro e
            exact cx (List.mem_singleton.mpr (show k = j from e.symm))
        · have := jn_pos jx m
          omega
      by_cases jy : jn (shapeOf y) = 0
      · cases y with
        | two _ _ _ _ _ => exact absurd jy (by show jn _ + jn _ + 1 ≠ 0; omega)
        | leaf j q =>
          obtain rfl : k = j := List.mem_singleton.mp cy
          have e2 : its (.two p x wx (.leaf k q) wy) m = its x m ++ ((rt (shapeOf x) m, k), p, (wx, wy)) :: [] := by
            rw [e2]
            show its x m ++ [] ++ [_] = _
            rw [List.append_nil]
            rfl
          have ln := its_len x m
          have oth : other ((rt (shapeOf x) m, k), p, (wx, wy)).1 k = rt (shapeOf x) m := by unfold other; rw [if_neg rxk]
          have s := side_its (k := k) (g := m + jn (shapeOf x)) (o := rt (shapeOf x) m) (d := wx) x m (m - 1) (fun j hj => by have := lx j hj; omega) (fun i hi => ⟨by omega, by rw [numW_low (by omega) (by omega)]; omega⟩)
          refine ⟨_, _, _, renL k x, ⟨e2, .inr rfl, side_none x m km cx, ?_, ?_, ?_, ?_⟩⟩
          · simp only [cutLaid, kx]
            simp [moreI, rxk]
          · rw [List.append_nil, ln, oth]
            show _ = (its x m).map (itW k (m + jn (shapeOf x)) (rt (shapeOf x) m) (if rt (shapeOf x) m = k then wy else wx))
            rw [if_neg rxk]
            exact s.1
          · rw [ln, oth, s.2, er]
            show _ = numW (m + jn (shapeOf x) + 0) k (m + jn (shapeOf x)) (rt (shapeOf x) m)
            rw [Nat.add_zero, numW_ne (by omega)]
            unfold numW
            rw [if_pos rfl]
          · rw [ren_jn, ej]
            show _ = _ + 0 + 1
            omega
      · obtain ⟨A, z, B, y', c⟩ := cut_its k y (m + jn (shapeOf x)) nds.2.1 (fun j hj => by have := ly j hj; omega) cy jy
        have hln : (its y (m + jn (shapeOf x))).length = A.length + (B.length + 1) := by rw [c.eq, List.length_append, List.length_cons]
        rw [its_len] at hln
        have hj := c.jn
        have eA : m + (its x m ++ A).length = m + jn (shapeOf x) + A.length := by rw [List.length_append, its_len]; omega
        have em : m + jn (shapeOf x) - 1 = m - 1 + jn (shapeOf x) := by omega
        have s := side_its (k := k) (g := m + jn (shapeOf x) + A.length) (o := other z.1 k) (d := moreI k z) x m (m - 1) (fun j hj => by have := lx j hj; omega) (fun i hi => ⟨by omega, by rw [numW_low (by omega) (by omega)]; omega⟩)
        have ry2 := jn_pos jy (m + jn (shapeOf x))
        have ci := c.its
        have cr := c.rt
        rw [em] at ci cr
        refine ⟨its x m ++ A, z, B ++ [((rt (shapeOf x) m, rt (shapeOf y) (m + jn (shapeOf x))), p, (wx, wy))], .two p (renL k x) wx y' (wy + if B = [] then moreI k z else 0), ⟨?_, c.here, ?_, ?_, ?_, ?_, ?_⟩⟩
        · rw [e2, c.eq]
          simp
        · intro a ha
          rcases List.mem_append.mp ha with ha | ha
          · exact side_none x m km cx a ha
          · exact c.none a ha
        · simp only [cutLaid, c.cut, kx]
          simp
        · rw [eA]
          show CM.its (renL k x) (m - 1) ++ CM.its y' (m - 1 + CM.jn (shapeOf (renL k x))) ++ [((CM.rt (shapeOf (renL k x)) (m - 1), CM.rt (shapeOf y') (m - 1 + CM.jn (shapeOf (renL k x)))), p, (wx, wy + if B = [] then moreI k z else 0))] = _
          rw [ren_jn, ci, cr, s.1, s.2]
          rw [show CM.its x m ++ A ++ (B ++ [((CM.rt (shapeOf x) m, CM.rt (shapeOf y) (m + CM.jn (shapeOf x))), p, (wx, wy))]) = CM.its x m ++ (A ++ B) ++ [((CM.rt (shapeOf x) m, CM.rt (shapeOf y) (m + CM.jn (shapeOf x))), p, (wx, wy))] by simp]
          simp only [List.map_append]
          congr 1
          show [_] = [itW k (m + CM.jn (shapeOf x) + A.length) (other z.1 k) (moreI k z) ((CM.rt (shapeOf x) m, CM.rt (shapeOf y) (m + CM.jn (shapeOf x))), p, (wx, wy))]
          unfold itW longer
          dsimp only
          rw [if_neg (show ¬ CM.rt (shapeOf x) m = m + CM.jn (shapeOf x) + A.length by omega)]
          by_cases hB : B = []
          · subst hB
            rw [if_pos rfl, if_pos (by rw [List.length_nil] at hln; omega)]
          · have : B.length ≠ 0 := fun e => hB (List.length_eq_zero_iff.mp e)
            rw [if_neg hB, if_neg (by omega), Int.add_zero]
        · show m - 1 + CM.jn (shapeOf (renL k x)) + CM.jn (shapeOf y') = _
          rw [ren_jn, er, eA, numW_high (by omega)]
          omega
        · show CM.jn (shapeOf (renL k x)) + CM.jn (shapeOf y') + 1 + 1 = _
          rw [ren_jn, ej]
          omega
end CM
set_option linter.all false
set_option autoImplicit false
/-! The mirror held against the specification, sixth part: what a drop and a move leave. -/
namespace CM
open Lr72 (Tree Leaf Laid leavesOf sum lay shapeOf laidJoints joints)
open Lr71 (Place Area)
open Lr74 (cut cutLaid renumber moveLaid)
theorem above_at {k : Nat} {A B : List It} {z : It} (hA : ∀ a ∈ A, a.1.1 ≠ k ∧ a.1.2 ≠ k) (hz : z.1.1 = k ∨ z.1.2 = k) : above ((A ++ z :: B).map (·.1)) k = some A.length := by
  unfold above
  rw [List.map_append, List.findIdx?_append]
  have e1 : (A.map (·.1)).findIdx? (fun p => p.1 == k || p.2 == k) = none := by
    rw [List.findIdx?_eq_none_iff]
    intro p hp
    obtain ⟨a, ha, rfl⟩ := List.mem_map.mp hp
    have := hA a ha
    simp [this.1, this.2]
  rw [e1, List.map_cons, List.findIdx?_cons]
  have e2 : (z.1.1 == k || z.1.2 == k) = true := by
    rcases hz with h | h <;> simp [h]
  rw [e2]
  simp
theorem take_drop_mid {α : Type} (A : List α) (z : α) (B : List α) : (A ++ z :: B).take A.length ++ (A ++ z :: B).drop (A.length + 1) = A ++ B := by
  rw [List.take_left' rfl, List.drop_append, List.drop_eq_nil_of_le (by omega)]
  simp
theorem without_eq {k : Nat} {x : Laid} {n : Nat} {A B : List It} {z : It} {x' : Laid} (c : CutI k x n A z B x') (hn : jn (shapeOf x) + 1 = n) :
    without (prs (shapeOf x) n).1 k A.length = (prs (shapeOf x') (n - 1)).1 := by
  have ln := prs_len (shapeOf x) n
  unfold without cutP
  rw [ln, ← its_pairs, ← its_pairs, c.its, c.eq, hn]
  have e : ((A ++ z :: B).map (·.1)).getD A.length (0, 0) = z.1 := by
    rw [List.getD, List.getElem?_map, List.getElem?_append_right (Nat.le_refl _), Nat.sub_self]
    rfl
  rw [e, ← List.map_take, ← List.map_drop, ← List.map_append, take_drop_mid, List.map_map, List.map_map]
  rfl
theorem drop_bd {k : Nat} {b : Lr74.Built} {n : Nat} {A B : List It} {z : It} {x' : Laid} (c : CutI k b.tree n A z B x') (hn : jn (shapeOf b.tree) + 1 = n) :
    dropBD (bdOf n b) k A.length = bdOf (n - 1) ⟨b.trunk + (if B = [] then moreI k z else 0), x'⟩ := by
  have hln : (its b.tree n).length = A.length + (B.length + 1) := by rw [c.eq, List.length_append, List.length_cons]
  rw [its_len] at hln
  have w := without_eq c hn
  have e1 : (bdOf n b).pairs.getD A.length (0, 0) = z.1 := by
    show ((prs (shapeOf b.tree) n).1).getD _ _ = _
    rw [← its_pairs, c.eq, List.getD, List.getElem?_map, List.getElem?_append_right (Nat.le_refl _), Nat.sub_self]
    rfl
  have e2 : (bdOf n b).wires.getD A.length (0, 0) = z.2.2 := by
    rw [its_bd, c.eq]
    show ((A ++ z :: B).map (·.2.2)).getD _ _ = _
    rw [List.getD, List.getElem?_map, List.getElem?_append_right (Nat.le_refl _), Nat.sub_self]
    rfl
  have em : moreOf (bdOf n b) k A.length = moreI k z := by
    unfold moreOf moreI
    rw [e1, e2]
  have el : (bdOf n b).pairs.length = jn (shapeOf b.tree) := prs_len _ _
  have elg : longers (bdOf n b) k A.length = (A ++ z :: B).map fun y => longer y.1 y.2.2 (n + A.length) (moreI k z) := by
    unfold longers
    rw [em, el, hn, its_bd, c.eq]
    show List.zipWith _ ((A ++ z :: B).map (·.1)) ((A ++ z :: B).map (·.2.2)) = _
    rw [List.zipWith_map, List.zipWith_self]
  unfold dropBD
  rw [elg, em, el]
  have ep : (bdOf n b).places = (A ++ z :: B).map (·.2.1) := by rw [its_bd, c.eq]
  rw [ep, ← List.map_take, ← List.map_drop, ← List.map_append, take_drop_mid, ← List.map_take, ← List.map_drop, ← List.map_append, take_drop_mid]
  rw [its_bd (n - 1)]
  show (⟨without (prs (shapeOf b.tree) n).1 k A.length, _, _, _⟩ : BD) = ⟨(its x' (n - 1)).map (·.1), (its x' (n - 1)).map (·.2.1), (its x' (n - 1)).map (·.2.2), b.trunk + _⟩
  rw [w, ← its_pairs, c.its, List.map_map, List.map_map]
  congr 1
  · rw [List.map_map]
    rfl
  by_cases hB : B = []
  · subst hB
    rw [if_pos (by rw [hln]; rfl), if_pos rfl]
    rfl
  · have : B.length ≠ 0 := fun e => hB (List.length_eq_zero_iff.mp e)
    rw [if_neg (by omega), if_neg hB, Int.add_zero]
    rfl
/-! which leaves stay -/
theorem lvs_cut (k : Nat) : ∀ x : Laid, match cutLaid k x with
    | none => (lvs x).filter (fun z => z.1 != k) = []
    | some z => lvs z.1 = ((lvs x).filter (fun z => z.1 != k)).map fun z => (renumber k z.1, z.2)
  | .leaf j p => by
    by_cases h : j = k
    · simp [cutLaid, h, lvs]
    · simp [cutLaid, h, lvs]
  | .two p x wx y wy => by
    have hx := lvs_cut k x
    have hy := lvs_cut k y
    have e : lvs (.two p x wx y wy) = lvs x ++ lvs y := rfl
    rw [e, List.filter_append]
    simp only [cutLaid]
    cases cx : cutLaid k x with
    | none =>
      rw [cx] at hx
      cases cy : cutLaid k y with
      | none =>
        rw [cy] at hy
        dsimp only at hx hy ⊢
        rw [hx, hy]
        rfl
      | some b =>
        rw [cy] at hy
        dsimp only at hx hy ⊢
        rw [hx, hy]
        rfl
    | some a =>
      rw [cx] at hx
      cases cy : cutLaid k y with
      | none =>
        rw [cy] at hy
        dsimp only at hx hy ⊢
        rw [hx, hy, List.append_nil]
      | some b =>
        rw [cy] at hy
        dsimp only at hx hy ⊢
        rw [List.map_append, ← hx, ← hy]
        rfl
theorem range_cut {n k : Nat} (h : k < n) : ((List.range n).filter (fun j => j != k)).map (renumber k) = List.range (n - 1) := by
  obtain ⟨r, rfl⟩ : ∃ r, n = k + 1 + r := ⟨n - k - 1, by omega⟩
  rw [show k + 1 + r - 1 = k + r by omega, List.range_add, List.range_succ, List.range_add, List.filter_append, List.filter_append, List.map_append, List.map_append]
  have e1 : (List.range k).filter (fun j => j != k) = List.range k := List.filter_eq_self.mpr fun j hj => by
    have := List.mem_range.mp hj
    simp; omega
  have e2 : ((List.range r).map (fun x => k + 1 + x)).filter (fun j => j != k) = (List.range r).map (fun x => k + 1 + x) := List.filter_eq_self.mpr fun j hj => by
    obtain ⟨i, _, rfl⟩ := List.mem_map.mp hj
    simp; omega
  have e3 : [k].filter (fun j => j != k) = [] := by simp
  rw [e1, e2, e3, List.map_nil, List.append_nil, List.map_map]
  congr 1
  · rw [List.map_congr_left (g := id)]
    · simp
    · intro j hj
      have := List.mem_range.mp hj
      unfold renumber
      rw [if_neg (by omega)]
      rfl
  · refine List.map_congr_left fun j _ => ?_
    show renumber k (k + 1 + j) = k + j
    unfold renumber
    rw [if_pos (by omega)]
    omega
theorem drop_at {α : Type} {l : List α} {k j : Nat} (h : j ≠ k) : (Lr73.drop l k)[renumber k j]? = l[j]? := by
  unfold Lr73.drop renumber
  by_cases c : k < j
  · rw [if_pos c]
    by_cases hk : k ≤ l.length
    · rw [List.getElem?_append_right (by rw [List.length_take]; omega), List.length_take, List.getElem?_drop]
      congr 1
      omega
    · rw [List.getElem?_eq_none (by rw [List.length_append, List.length_take, List.length_drop]; omega), List.getElem?_eq_none (by omega)]
  · rw [if_neg c]
    by_cases hj : j < l.length
    · rw [List.getElem?_append_left (by rw [List.length_take]; omega), List.getElem?_take, if_pos (by omega)]
    · rw [List.getElem?_eq_none (by rw [List.length_append, List.length_take, List.length_drop]; omega), List.getElem?_eq_none (by omega)]
theorem drop_len {α : Type} {l : List α} {k : Nat} (h : k < l.length) : (Lr73.drop l k).length = l.length - 1 := by
  unfold Lr73.drop
  rw [List.length_append, List.length_take, List.length_drop]
  omega
theorem Sits.cut {ls : List Leaf} {x : Laid} (h : Sits ls x) {k : Nat} (hk : k < ls.length) {z : Laid × Int} (e : cutLaid k x = some z) : Sits (Lr73.drop ls k) z.1 := by
  have q := lvs_cut k x
  rw [e] at q
  dsimp only at q
  refine ⟨?_, fun y hy => ?_⟩
  · rw [drop_len hk, ← range_cut hk, ← lvs_leaves, q, List.map_map]
    have p := h.perm
    rw [← lvs_leaves] at p
    have := (p.filter (fun j => j != k)).map (renumber k)
    rw [List.filter_map, List.map_map] at this
    exact this
  · rw [q] at hy
    obtain ⟨w, hw, rfl⟩ := List.mem_map.mp hy
    obtain ⟨hw1, hw2⟩ := List.mem_filter.mp hw
    obtain ⟨l, h1, h2⟩ := h.at_ w hw1
    exact ⟨l, by rw [← h1]; exact drop_at (by simpa using hw2), h2⟩
theorem Sits.nodup {ls : List Leaf} {x : Laid} (h : Sits ls x) : (leavesOf (shapeOf x)).Nodup := h.perm.nodup_iff.mpr List.nodup_range
/-- **dropped, of what is built** -/
theorem drop_eq {ls : List Leaf} {b : Lr74.Built} (h : Sits ls b.tree) (h2 : 2 ≤ ls.length) {k : Nat} (hk : k < ls.length) :
    ∃ j z, above (bdOf ls.length b).pairs k = some j ∧ cutLaid k b.tree = some z ∧ dropBD (bdOf ls.length b) k j = bdOf (ls.length - 1) ⟨b.trunk + z.2, z.1⟩ := by
  have hj := h.jn
  obtain ⟨A, z, B, x', c⟩ := cut_its k b.tree ls.length h.nodup h.lt (h.perm.mem_iff.mpr (List.mem_range.mpr hk)) (by omega)
  refine ⟨A.length, _, ?_, c.cut, drop_bd c hj⟩
  show above (prs (shapeOf b.tree) ls.length).1 k = _
  rw [← its_pairs, c.eq]
  exact above_at c.none c.here
theorem cut_shape (k : Nat) : ∀ x : Laid, cut k (shapeOf x) = (cutLaid k x).map fun z => shapeOf z.1
  | .leaf j p => by
    show (if j = k then none else some _) = (if j = k then none else some _ : Option (Laid × Int)).map _
    by_cases h : j = k
    · rw [if_pos h, if_pos h]
      rfl
    · rw [if_neg h, if_neg h]
      rfl
  | .two p x wx y wy => by
    have hx := cut_shape k x
    have hy := cut_shape k y
    show cut k (.two (shapeOf x) (shapeOf y)) = _
    simp only [cut, cutLaid, hx, hy]
    cases cutLaid k x <;> cases cutLaid k y <;> rfl
def layZ : Tree → Laid
  | .leaf k => .leaf k pl0
  | .two x y => .two pl0 (layZ x) 0 (layZ y) 0
theorem layZ_shape : ∀ t, shapeOf (layZ t) = t
  | .leaf _ => rfl
  | .two x y => by
    show Tree.two (shapeOf (layZ x)) (shapeOf (layZ y)) = _
    rw [layZ_shape x, layZ_shape y]
/-- **dropped, of a plan** -/
theorem cut_eq {n : Nat} {t : Tree} (h : (leavesOf t).Perm (List.range n)) (h2 : 2 ≤ n) {k : Nat} (hk : k < n) :
    ∃ j t', above (prs t n).1 k = some j ∧ cut k t = some t' ∧ without (prs t n).1 k j = (prs t' (n - 1)).1 ∧ (leavesOf t').Perm (List.range (n - 1)) := by
  have hs := layZ_shape t
  have hj : jn t + 1 = n := by rw [← leaves_len, h.length_eq, List.length_range]
  obtain ⟨A, z, B, x', c⟩ := cut_its k (layZ t) n (by rw [hs]; exact h.nodup_iff.mpr List.nodup_range) (by rw [hs]; exact fun j hj => List.mem_range.mp (h.mem_iff.mp hj)) (by rw [hs]; exact h.mem_iff.mpr (List.mem_range.mpr hk)) (by rw [hs]; omega)
  have w := without_eq c (by rw [hs]; exact hj)
  rw [hs] at w
  have q := lvs_cut k (layZ t)
  rw [c.cut] at q
  dsimp only at q
  refine ⟨A.length, shapeOf x', ?_, ?_, w, ?_⟩
  · rw [← hs, ← its_pairs, c.eq]
    exact above_at c.none c.here
  · rw [← hs, cut_shape, c.cut]
    rfl
  · rw [← range_cut hk, ← lvs_leaves, q, List.map_map]
    have p := h
    rw [← hs, ← lvs_leaves] at p
    have := (p.filter (fun j => j != k)).map (renumber k)
    rw [List.filter_map, List.map_map] at this
    exact this
theorem cut_one {t : Tree} (h : (leavesOf t).Perm (List.range 1)) : cut 0 t = none := by
  have hj : jn t + 1 = 1 := by rw [← leaves_len, h.length_eq, List.length_range]
  cases t with
  | two x y => exact absurd hj (by show jn x + jn y + 1 + 1 ≠ 1; omega)
  | leaf k =>
    have : k ∈ List.range 1 := h.mem_iff.mp (List.mem_singleton.mpr rfl)
    obtain rfl : k = 0 := by have := List.mem_range.mp this; omega
    rfl
theorem cutLaid_one {x : Laid} (h : (leavesOf (shapeOf x)).Perm (List.range 1)) : cutLaid 0 x = none := by
  have := cut_one h
  rw [cut_shape] at this
  cases hc : cutLaid 0 x with
  | none => rfl
  | some z => rw [hc] at this; cases this
/-! a leaf moved -/
theorem mv_shape (k : Nat) (q : Place) : ∀ x, shapeOf (moveLaid k q x) = shapeOf x
  | .leaf _ _ => rfl
  | .two p x wx y wy => by
    show Tree.two (shapeOf (moveLaid k q x)) (shapeOf (moveLaid k q y)) = _
    rw [mv_shape k q x, mv_shape k q y]
    rfl
theorem mv_joints (k : Nat) (q : Place) : ∀ x, laidJoints (moveLaid k q x) = laidJoints x
  | .leaf _ _ => rfl
  | .two p x wx y wy => by
    show laidJoints (moveLaid k q x) ++ laidJoints (moveLaid k q y) ++ [_] = _
    rw [mv_joints k q x, mv_joints k q y]
    rfl
theorem mv_lvs (k : Nat) (q : Place) : ∀ x, lvs (moveLaid k q x) = (lvs x).map fun z => (z.1, if z.1 = k then q else z.2)
  | .leaf _ _ => rfl
  | .two p x wx y wy => by
    show lvs (moveLaid k q x) ++ lvs (moveLaid k q y) = (lvs x ++ lvs y).map _
    rw [mv_lvs k q x, mv_lvs k q y, List.map_append]
theorem move_bd (n k : Nat) (q : Place) (b : Lr74.Built) : bdOf n { b with tree := moveLaid k q b.tree } = bdOf n b := by
  unfold bdOf
  dsimp only
  rw [mv_shape, mv_joints]
theorem Sits.move {ls : List Leaf} {x : Laid} (h : Sits ls x) {k : Nat} {l : Leaf} : Sits (ls.set k l) (moveLaid k (Lr74.place l.at_) x) := by
  refine ⟨by rw [mv_shape, List.length_set]; exact h.perm, fun z hz => ?_⟩
  rw [mv_lvs] at hz
  obtain ⟨w, hw, rfl⟩ := List.mem_map.mp hz
  obtain ⟨l', h1, h2⟩ := h.at_ w hw
  dsimp only
  by_cases c : w.1 = k
  · subst c
    exact ⟨l, by rw [List.getElem?_set_self (List.getElem?_eq_some_iff.mp h1).1], if_pos rfl⟩
  · exact ⟨l', by rw [List.getElem?_set_ne (fun e => c e.symm)]; exact h1, by rw [if_neg c]; exact h2⟩
theorem lay_lvs (ls : List Leaf) : ∀ (t : Tree) (p : Place), (∀ k ∈ leavesOf t, k < ls.length) → ∀ z ∈ lvs (lay ls p t), ∃ l, ls[z.1]? = some l ∧ z.2 = Lr74.place l.at_
  | .leaf k, p, h, z, hz => by
    have hk := h k (List.mem_singleton.mpr rfl)
    have e : ls[k]? = some ls[k] := List.getElem?_eq_getElem hk
    have hz : z ∈ [(k, Lr71.near (sum ls (.leaf k)).area p)] := hz
    rw [List.mem_singleton.mp hz]
    refine ⟨ls[k], e, ?_⟩
    simp only [Lr72.sum, e]
    unfold Lr72.leafSum Lr71.near Lr71.point Lr71.within Lr74.place
    dsimp only
    congr 1
    · split
      · rfl
      · split
        · rfl
        · omega
    · split
      · rfl
      · split
        · rfl
        · omega
  | .two x y, p, h, z, hz => by
    rcases List.mem_append.mp (show z ∈ lvs (lay ls _ x) ++ lvs (lay ls _ y) from hz) with hz | hz
    · exact lay_lvs ls x _ (fun k hk => h k (List.mem_append_left _ hk)) z hz
    · exact lay_lvs ls y _ (fun k hk => h k (List.mem_append_right _ hk)) z hz
theorem Sits.lay {ls : List Leaf} {t : Tree} (h : (leavesOf t).Perm (List.range ls.length)) (p : Place) : Sits ls (lay ls p t) :=
  ⟨by rw [lay_shape]; exact h, lay_lvs ls t p fun k hk => List.mem_range.mp (h.mem_iff.mp hk)⟩
theorem Sits.mend {ls : List Leaf} {x : Laid} (h : Sits ls x) (keep : Bool) : Sits ls (Lr74.mended keep ls x).1 := ⟨by rw [md_shape]; exact h.perm, by rw [md_lvs]; exact h.at_⟩
/-! the wire of what is built -/
theorem wire_sum : ∀ x : Laid, Lr72.wireOf x = ((laidJoints x).map fun z => z.2.1 + z.2.2).sum
  | .leaf _ _ => rfl
  | .two p x wx y wy => by
    show Lr72.wireOf x + Lr72.wireOf y + wx + wy = ((laidJoints x ++ laidJoints y ++ [(p, wx, wy)]).map fun z => z.2.1 + z.2.2).sum
    rw [List.map_append, List.map_append, List.sum_append, List.sum_append, ← wire_sum x, ← wire_sum y]
    simp [Int.add_assoc]
theorem wire_eq (n : Nat) (b : Lr74.Built) : (bdOf n b).all = b.wire := by
  unfold BD.all Lr74.Built.wire bdOf
  dsimp only
  rw [wire_sum, List.map_map]
  rfl
end CM
set_option linter.all false
set_option autoImplicit false
/-! The mirror held against the specification, seventh part: a shape told by numbers. -/
namespace CM
open Lr72 (Tree Leaf Laid leavesOf fromPairs treeOf)
abbrev NT := Nat × Tree
def KN (f : List NT) : Prop := f.Pairwise fun x y => x.1 ≠ y.1
theorem KN.nodup {f : List NT} (h : KN f) : f.Nodup := h.imp fun n e => n (congrArg Prod.fst e)
/-- what is there after the first i pairs -/
structure TI (n : Nat) (ns : List Nat) (i : Nat) (f : List NT) : Prop where
  kn : KN f
  mem : ∀ z : NT, z ∈ f ↔ z.1 < n + i ∧ z.1 ∉ ns.take (2 * i) ∧ z.2 = (trs n ns i).getD z.1 (.leaf 0)
  len : f.length + i = n
  perm : (f.flatMap fun z => leavesOf z.2).Perm (List.range n)
  pre : ∀ (j x : Nat), j < 2 * i → ns[j]? = some x → x < n + j / 2 ∧ x ∉ ns.take j
theorem TI.low {n : Nat} {ns : List Nat} {i : Nat} {f : List NT} (h : TI n ns i f) : ∀ x ∈ ns.take (2 * i), x + 1 < n + i := fun x hx => by
  obtain ⟨j, hj, e⟩ := List.getElem_of_mem hx
  rw [List.getElem_take] at e
  rw [List.length_take] at hj
  have hl : j < ns.length := by omega
  have := (h.pre j x (by omega) (by rw [List.getElem?_eq_getElem hl, e])).1
  omega
theorem TI.start (n : Nat) (ns : List Nat) : TI n ns 0 ((List.range n).map fun k => (k, Tree.leaf k)) := by
  refine ⟨?_, fun z => ?_, by rw [List.length_map, List.length_range]; rfl, ?_, fun j x hj => by omega⟩
  · unfold KN
    rw [List.pairwise_map]
    exact List.nodup_range.imp fun h => h
  · have e : ∀ k, k < n → (trs n ns 0).getD k (.leaf 0) = .leaf k := fun k hk => by
      show ((List.range n).map Tree.leaf).getD k _ = _
      rw [List.getD, List.getElem?_map, List.getElem?_range hk]
      rfl
    constructor
    · intro hz
      obtain ⟨k, hk, rfl⟩ := List.mem_map.mp hz
      have := List.mem_range.mp hk
      exact ⟨this, by simp, (e k this).symm⟩
    · rintro ⟨h1, _, h3⟩
      obtain ⟨k, t⟩ := z
      have h1 : k < n := h1
      have h3 : t = _ := h3
      rw [e k h1] at h3
      subst h3
      exact List.mem_map.mpr ⟨k, List.mem_range.mpr h1, rfl⟩
  · rw [List.flatMap_map]
    have : (List.range n).flatMap (fun k => leavesOf (k, Tree.leaf k).2) = List.range n := by
      show (List.range n).flatMap (fun k => [k]) = _
      rw [List.flatMap_def]
      induction List.range n with
      | nil => rfl
      | cons a b ih => rw [List.map_cons, List.flatten_cons, ih]; rfl
    rw [this]
theorem TI.next {n : Nat} {ns : List Nat} {i : Nat} {f : List NT} (h : TI n ns i f) {a b : Nat} (ha : ns[2 * i]? = some a) (hb : ns[2 * i + 1]? = some b) (hab : a ≠ b) {x y : NT} (hx : x ∈ f) (hy : y ∈ f) (ex : x.1 = a) (ey : y.1 = b) :
    TI n ns (i + 1) ((f.filter fun z => z.1 != a && z.1 != b) ++ [(n + i, .two x.2 y.2)]) := by
  have t1 : ns.take (2 * (i + 1)) = ns.take (2 * i) ++ [a, b] := by
    rw [show 2 * (i + 1) = 2 * i + 1 + 1 by omega, List.take_add_one, List.take_add_one, ha, hb]
    simp
  have hxx := (h.mem x).mp hx
  have hyy := (h.mem y).mp hy
  rw [ex] at hxx
  rw [ey] at hyy
  have low := h.low
  have ga : ns.getD (2 * i) 0 = a := by rw [List.getD, ha]; rfl
  have gb : ns.getD (2 * i + 1) 0 = b := by rw [List.getD, hb]; rfl
  have tl := trs_len n ns i
  have tr : trs n ns (i + 1) = trs n ns i ++ [.two x.2 y.2] := by
    show trs n ns i ++ [_] = _
    rw [ga, gb, hxx.2.2, hyy.2.2]
  have mf : ∀ z ∈ f.filter (fun z => z.1 != a && z.1 != b), z ∈ f ∧ z.1 ≠ a ∧ z.1 ≠ b := fun z hz => by
    have := List.mem_filter.mp hz
    exact ⟨this.1, by simpa using this.2⟩
  have pm : f.Perm (x :: y :: f.filter fun z => z.1 != a && z.1 != b) := by
    refine (List.perm_ext_iff_of_nodup h.kn.nodup ?_).mpr fun z => ?_
    · refine List.nodup_cons.mpr ⟨fun z => ?_, List.nodup_cons.mpr ⟨fun z => ?_, h.kn.nodup.sublist List.filter_sublist⟩⟩
      · rcases List.mem_cons.mp z with z | z
        · rw [z, ey] at ex
          exact hab ex.symm
        · exact (mf _ z).2.1 ex
      · exact (mf _ z).2.2 ey
    · constructor
      · intro hz
        by_cases c1 : z.1 = a
        · have q := (h.mem z).mp hz
          have : z = x := by
            obtain ⟨z1, z2⟩ := z
            obtain ⟨x1, x2⟩ := x
            have c1 : z1 = a := c1
            have ex : x1 = a := ex
            subst c1
            subst ex
            rw [Prod.mk.injEq]
            exact ⟨rfl, q.2.2.trans hxx.2.2.symm⟩
          rw [this]
          exact List.mem_cons_self
        · by_cases c2 : z.1 = b
          · have q := (h.mem z).mp hz
            have : z = y := by
              obtain ⟨z1, z2⟩ := z
              obtain ⟨y1, y2⟩ := y
              have c2 : z1 = b := c2
              have ey : y1 = b := ey
              subst c2
              subst ey
              rw [Prod.mk.injEq]
              exact ⟨rfl, q.2.2.trans hyy.2.2.symm⟩
            rw [this]
            exact List.mem_cons_of_mem _ List.mem_cons_self
          · exact List.mem_cons_of_mem _ (List.mem_cons_of_mem _ (List.mem_filter.mpr ⟨hz, by simp [c1, c2]⟩))
      · intro hz
        rcases List.mem_cons.mp hz with rfl | hz
        · exact hx
        · rcases List.mem_cons.mp hz with rfl | hz
          · exact hy
          · exact (mf _ hz).1
  refine ⟨?_, fun z => ?_, ?_, ?_, ?_⟩
  · refine List.pairwise_append.mpr ⟨h.kn.sublist List.filter_sublist, List.pairwise_singleton _ _, fun z hz w hw => ?_⟩
    rw [List.mem_singleton.mp hw]
    have := ((h.mem z).mp (mf z hz).1).1
    show z.1 ≠ n + i
    omega
  · rw [t1, tr]
    constructor
    · intro hz
      rcases List.mem_append.mp hz with hz | hz
      · obtain ⟨h1, h2, h3⟩ := mf z hz
        have q := (h.mem z).mp h1
        refine ⟨by omega, ?_, ?_⟩
        · simp only [List.mem_append, List.mem_cons, List.not_mem_nil, or_false, not_or]
          exact ⟨q.2.1, h2, h3⟩
        · rw [getD_left (by omega)]
          exact q.2.2
      · rw [List.mem_singleton.mp hz]
        refine ⟨by show n + i < n + (i + 1); omega, ?_, ?_⟩
        · simp only [List.mem_append, List.mem_cons, List.not_mem_nil, or_false, not_or]
          exact ⟨fun z => by have := low _ z; omega, by omega, by omega⟩
        · show Tree.two x.2 y.2 = (trs n ns i ++ [Tree.two x.2 y.2]).getD (n + i) _
          rw [List.getD, List.getElem?_append_right (by omega), tl, Nat.sub_self]
          rfl
    · rintro ⟨h1, h2, h3⟩
      simp only [List.mem_append, List.mem_cons, List.not_mem_nil, or_false, not_or] at h2
      by_cases c : z.1 = n + i
      · refine List.mem_append_right _ (List.mem_singleton.mpr ?_)
        obtain ⟨z1, z2⟩ := z
        have c : z1 = n + i := c
        subst c
        rw [Prod.mk.injEq]
        refine ⟨rfl, ?_⟩
        have h3 : z2 = (trs n ns i ++ [Tree.two x.2 y.2]).getD (n + i) _ := h3
        rw [h3, List.getD, List.getElem?_append_right (by omega), tl, Nat.sub_self]
        rfl
      · rw [getD_left (by omega)] at h3
        exact List.mem_append_left _ (List.mem_filter.mpr ⟨(h.mem z).mpr ⟨by omega, h2.1, h3⟩, by simp [h2.2.1, h2.2.2]⟩)
  · have := pm.length_eq
    have := h.len
    simp only [List.length_cons] at *
    rw [List.length_append, List.length_singleton]
    omega
  · refine List.Perm.trans ?_ h.perm
    have q := pm.flatMap_right (fun z : NT => leavesOf z.2)
    refine List.Perm.trans ?_ q.symm
    simp only [List.flatMap_append, List.flatMap_cons, List.flatMap_nil, List.append_nil]
    refine List.perm_append_comm.trans ?_
    show ((leavesOf x.2 ++ leavesOf y.2) ++ _).Perm _
    rw [List.append_assoc]
  · intro j z hj hz
    by_cases c : j < 2 * i
    · exact h.pre j z c hz
    · by_cases c2 : j = 2 * i
      · subst c2
        rw [ha] at hz
        cases hz
        exact ⟨by omega, hxx.2.1⟩
      · obtain rfl : j = 2 * i + 1 := by omega
        rw [hb] at hz
        cases hz
        refine ⟨by omega, ?_⟩
        rw [List.take_add_one, ha]
        simp only [Option.toList, List.mem_append, List.mem_singleton, not_or]
        exact ⟨hyy.2.1, fun e => hab e.symm⟩
theorem find_key {f : List NT} {a : Nat} {x : NT} (h : f.find? (fun z => z.1 == a) = some x) : x ∈ f ∧ x.1 = a := ⟨List.mem_of_find?_eq_some h, by simpa using List.find?_some h⟩
theorem drop_two {ns : List Nat} {j a b : Nat} {l : List Nat} (h : ns.drop j = a :: b :: l) : ns[j]? = some a ∧ ns[j + 1]? = some b ∧ ns.drop (j + 2) = l := by
  have h0 : (ns.drop j)[0]? = some a := by rw [h]; rfl
  have h1 : (ns.drop j)[1]? = some b := by rw [h]; rfl
  rw [List.getElem?_drop] at h0 h1
  refine ⟨h0, h1, ?_⟩
  rw [← List.drop_drop, h]
  rfl
/-- **a shape**: refused or told, as the numbers are -/
theorem from_eq {n : Nat} (hn : 1 ≤ n) {ns : List Nat} : ∀ (r i : Nat) (f : List NT), ns.length = 2 * i + r → TI n ns i f →
    fromPairs f (n + i) (ns.drop (2 * i)) = (if okB n ns then some (treeNums n ns) else none) ∧ (okB n ns = true → (leavesOf (treeNums n ns)).Perm (List.range n))
  | 0, i, f, hr, h => by
    rw [List.drop_eq_nil_of_le (by omega)]
    have top : (n + i - 1, (trs n ns i).getD (n + i - 1) (.leaf 0)) ∈ f := (h.mem _).mpr ⟨by show n + i - 1 < _; omega, fun z => by have := h.low _ z; omega, rfl⟩
    have hlen := h.len
    match f, h, top, hlen with
    | [], h, top, _ => cases top
    | [z], h, top, hlen =>
      have hlen : 1 + i = n := hlen
      rw [List.mem_singleton] at top
      have e1 : fromPairs [z] (n + i) [] = some z.2 := rfl
      have okk : okB n ns = true := okB_iff.mpr ⟨by omega, fun j x hx => h.pre j x (by have := (List.getElem?_eq_some_iff.mp hx).1; omega) hx⟩
      have et : treeNums n ns = z.2 := by
        unfold treeNums
        rw [← top, show n - 1 = i by omega, show 2 * n - 2 = n + i - 1 by omega]
      rw [e1, okk, et]
      refine ⟨rfl, fun _ => ?_⟩
      have := h.perm
      simpa using this
    | z :: w :: f', h, top, hlen =>
      have hlen : f'.length + 1 + 1 + i = n := hlen
      have no : okB n ns = false := by
        rw [← Bool.not_eq_true]
        intro c
        have := (okB_iff.mp c).1
        omega
      rw [no]
      exact ⟨rfl, fun z => by cases z⟩
  | 1, i, f, hr, h => by
    have no : okB n ns = false := by
      rw [← Bool.not_eq_true]
      intro c
      have := (okB_iff.mp c).1
      omega
    rw [no]
    refine ⟨?_, fun z => by cases z⟩
    cases hd : ns.drop (2 * i) with
    | nil =>
      have := congrArg List.length hd
      rw [List.length_drop] at this
      simp at this
      omega
    | cons a l =>
      cases l with
      | nil =>
        match f with
        | [] => rfl
        | [z] => rfl
        | z :: w :: f' => rfl
      | cons b l =>
        have := congrArg List.length hd
        rw [List.length_drop] at this
        simp at this
        omega
  | r + 2, i, f, hr, h => by
    cases hd : ns.drop (2 * i) with
    | nil =>
      have := congrArg List.length hd
      rw [List.length_drop] at this
      simp at this
      omega
    | cons a l =>
      cases l with
      | nil =>
        have := congrArg List.length hd
        rw [List.length_drop] at this
        simp at this
        omega
      | cons b l =>
        obtain ⟨ha, hb, hl⟩ := drop_two hd
        have fe : fromPairs f (n + i) (a :: b :: l) = if a = b then none else match f.find? (fun z => z.1 == a), f.find? (fun z => z.1 == b) with
          | some x, some y => fromPairs ((f.filter fun z => z.1 != a && z.1 != b) ++ [(n + i, .two x.2 y.2)]) (n + i + 1) l
          | _, _ => none := by
          rw [fromPairs]
          rfl
        rw [fe]
        have nope : ¬ ((a < n + i ∧ a ∉ ns.take (2 * i)) ∧ (b < n + i ∧ b ∉ ns.take (2 * i)) ∧ a ≠ b) → okB n ns = false := fun q => by
          rw [← Bool.not_eq_true]
          intro c
          have ok := (okB_iff.mp c).2
          have o1 := ok _ _ ha
          have o2 := ok _ _ hb
          rw [List.take_add_one, ha] at o2
          simp only [Option.toList, List.mem_append, List.mem_singleton, not_or] at o2
          exact q ⟨⟨by omega, o1.2⟩, ⟨by omega, o2.2.1⟩, fun e => o2.2.2 e.symm⟩
        by_cases hab : a = b
        · rw [if_pos hab, nope fun q => q.2.2 hab]
          exact ⟨rfl, fun z => by cases z⟩
        · rw [if_neg hab]
          have there : ∀ c, f.find? (fun z => z.1 == c) = none → ¬ (c < n + i ∧ c ∉ ns.take (2 * i)) := fun c e q => by
            have := List.find?_eq_none.mp e (c, (trs n ns i).getD c (.leaf 0)) ((h.mem _).mpr ⟨q.1, q.2, rfl⟩)
            simp at this
          cases fa : f.find? (fun z => z.1 == a) with
          | none =>
            rw [nope fun q => there a fa q.1]
            exact ⟨rfl, fun z => by cases z⟩
          | some x =>
            cases fb : f.find? (fun z => z.1 == b) with
            | none =>
              rw [nope fun q => there b fb q.2.1]
              exact ⟨rfl, fun z => by cases z⟩
            | some y =>
              obtain ⟨hx, ex⟩ := find_key fa
              obtain ⟨hy, ey⟩ := find_key fb
              have ih := from_eq hn r (i + 1) _ (by omega) (h.next ha hb hab hx hy ex ey)
              rw [show 2 * (i + 1) = 2 * i + 2 by omega, hl] at ih
              exact ih
theorem tree_eq {n : Nat} (hn : 1 ≤ n) (ns : List Nat) : treeOf n ns = (if okB n ns then some (treeNums n ns) else none) ∧ (okB n ns = true → (leavesOf (treeNums n ns)).Perm (List.range n)) := by
  have := from_eq hn (ns := ns) ns.length 0 _ (by omega) (TI.start n ns)
  exact this
/-! told -/
theorem pairs_eq : ∀ (t : Tree) (m : Nat), Lr72.pairsFrom t m = ((prs t m).1.flatMap (fun p => [p.1, p.2]), (prs t m).2.1, (prs t m).2.2)
  | .leaf _, _ => rfl
  | .two x y, m => by
    have hx := pairs_eq x m
    have hy := pairs_eq y (prs x m).2.2
    simp only [Lr72.pairsFrom, hx, hy, prs, List.flatMap_append]
    rfl
end CM
set_option linter.all false
set_option autoImplicit false
/-! The mirror held against the specification, eighth part: the list handed in, the chip. -/
namespace CM
open Lr72 (Tree Leaf Laid leavesOf sum lay shapeOf laidJoints joints)
open Lr71 (Place Area)
/-! calls, each its number and its whole numbers -/
abbrev Cl := Int × List Int
def encC (c : Cl) : List Int := if c.1 = 5 then 5 :: (c.2.length : Int) :: c.2 else c.1 :: c.2
def rawC (c : Cl) : List (List Int) := if c.1 = 5 then [[5], c.2] else [c.1 :: c.2]
def FormC (c : Cl) : Prop := c.1 = 5 ∨ (c.1 ≠ 5 ∧ PyLr74.shape c.1 = some (c.2.length, 0))
theorem ite_k {q : Prop} [Decidable q] {a n k : Nat} {X : Option (Nat × Nat)} (h : (if q then some (a, 0) else X) = some (n, k)) : k = 0 ∨ X = some (n, k) := by
  by_cases c : q
  · rw [if_pos c] at h
    cases h
    exact .inl rfl
  · rw [if_neg c] at h
    exact .inr h
theorem shape_cases {p : Int} {n k : Nat} (h : PyLr74.shape p = some (n, k)) : (p = 5 ∧ n = 0 ∧ k = 1) ∨ (p ≠ 5 ∧ k = 0) := by
  unfold PyLr74.shape at h
  by_cases c : p = 5
  · subst c
    left
    simp at h
    omega
  · right
    refine ⟨c, ?_⟩
    rcases ite_k h with r | h
    · exact r
    rcases ite_k h with r | h
    · exact r
    rcases ite_k h with r | h
    · exact r
    rcases ite_k h with r | h
    · exact r
    rcases ite_k h with r | h
    · exact r
    rw [if_neg c] at h
    rcases ite_k h with r | h
    · exact r
    rcases ite_k h with r | h
    · exact r
    rcases ite_k h with r | h
    · exact r
    rcases ite_k h with r | h
    · exact r
    rcases ite_k h with r | h
    · exact r
    rcases ite_k h with r | h
    · exact r
    rcases ite_k h with r | h
    · exact r
    rcases ite_k h with r | h
    · exact r
    rcases ite_k h with r | h
    · exact r
    rcases ite_k h with r | h
    · exact r
    rcases ite_k h with r | h
    · exact r
    rcases ite_k h with r | h
    · exact r
    rcases ite_k h with r | h
    · exact r
    rcases ite_k h with r | h
    · exact r
    cases h
theorem flat_calls : ∀ (f : Nat) (l : List Int) (raw : List (List (List Int))), PyFlat.calls PyLr74.shape f l = some raw → ∃ cs : List Cl, l = cs.flatMap encC ∧ raw = cs.map rawC ∧ ∀ c ∈ cs, FormC c
  | _, [], raw, h => by
    have : raw = [] := by
      cases f : (‹Nat› : Nat) <;> (rw [PyFlat.calls] at h; cases h; rfl)
    exact ⟨[], rfl, this, fun c hc => nomatch hc⟩
  | 0, p :: r, raw, h => by
    rw [PyFlat.calls] at h
    cases h
  | f + 1, p :: r, raw, h => by
    rw [PyFlat.calls] at h
    cases hc : PyFlat.call PyLr74.shape (p :: r) with
    | none => rw [hc] at h; cases h
    | some ct =>
      obtain ⟨c, t⟩ := ct
      rw [hc] at h
      dsimp only at h
      cases hr : PyFlat.calls PyLr74.shape f t with
      | none => rw [hr] at h; cases h
      | some cs' =>
        rw [hr] at h
        cases h
        obtain ⟨cs, e1, e2, e3⟩ := flat_calls f t cs' hr
        rw [PyFlat.call] at hc
        cases hs : PyLr74.shape p with
        | none => rw [hs] at hc; cases hc
        | some nk =>
          obtain ⟨n, k⟩ := nk
          rw [hs] at hc
          dsimp only at hc
          by_cases hl : r.length < n
          · rw [if_pos hl] at hc; cases hc
          · rw [if_neg hl] at hc
            rcases shape_cases hs with ⟨rfl, rfl, rfl⟩ | ⟨hp, rfl⟩
            · rw [List.drop_zero] at hc
              cases r with
              | nil => cases hc
              | cons a r' =>
                simp only [PyFlat.rows, PyFlat.row] at hc
                by_cases ha : 0 ≤ a ∧ a.toNat ≤ r'.length
                · rw [if_pos ha] at hc
                  cases hc
                  refine ⟨(5, r'.take a.toNat) :: cs, ?_, ?_, ?_⟩
                  · rw [List.flatMap_cons, ← e1]
                    show _ = (if (5 : Int) = 5 then _ else _) ++ _
                    rw [if_pos rfl, List.length_take]
                    show 5 :: a :: r' = 5 :: ((min a.toNat r'.length : Nat) : Int) :: (r'.take a.toNat ++ r'.drop a.toNat)
                    rw [List.take_append_drop, Nat.min_eq_left ha.2, Int.toNat_of_nonneg ha.1]
                  · rw [List.map_cons, ← e2]
                    rfl
                  · intro c hc
                    rcases List.mem_cons.mp hc with rfl | hc
                    · exact .inl rfl
                    · exact e3 c hc
                · rw [if_neg ha] at hc; cases hc
            · simp only [PyFlat.rows] at hc
              cases hc
              refine ⟨(p, r.take n) :: cs, ?_, ?_, ?_⟩
              · rw [List.flatMap_cons, ← e1]
                show _ = (if p = 5 then _ else _) ++ _
                rw [if_neg hp]
                show p :: r = p :: (r.take n ++ r.drop n)
                rw [List.take_append_drop]
              · rw [List.map_cons, ← e2]
                show _ = (if p = 5 then _ else _) :: _
                rw [if_neg hp]
              · intro c hc
                rcases List.mem_cons.mp hc with rfl | hc
                · exact .inr ⟨hp, by rw [hs, List.length_take, Nat.min_eq_left (by omega)]⟩
                · exact e3 c hc
theorem whole_id (c : List (List Int)) : PyLr74.whole c = c := by
  unfold PyLr74.whole
  split <;> rfl
/-- what is told, call by call -/
def tell : Lr74.State → List Cl → List Int
  | _, [] => []
  | s, c :: cs => ((Lr74Neutral.step s (rawC c)).2.length : Int) :: (Lr74Neutral.step s (rawC c)).2 ++ tell (Lr74Neutral.step s (rawC c)).1 cs
theorem told_tell : ∀ (cs : List Cl) (s : Lr74.State), PyFlat.told (PyFlat.played Lr74Neutral.step s (cs.map rawC)) = tell s cs
  | [], _ => rfl
  | c :: cs, s => by
    have := told_tell cs (Lr74Neutral.step s (rawC c)).1
    unfold PyFlat.told at this ⊢
    rw [List.map_cons, PyFlat.played, List.flatMap_cons, this]
    rfl
structure OkC (c : Cl) : Prop where
  form : FormC c
  inn : PyInside.call PyLr74.bound (rawC c) = true
theorem asked_calls {l : List Int} (h : PyLr74.answers_asked l = true) : ∃ cs : List Cl, l = cs.flatMap encC ∧ PyLr74.answers l = tell Lr74.start cs ∧ (∀ c ∈ cs, OkC c) ∧ cs.length ≤ 150 := by
  unfold PyLr74.answers_asked at h
  cases hc : PyFlat.calls PyLr74.shape l.length l with
  | none => rw [hc] at h; cases h
  | some raw =>
    rw [hc] at h
    dsimp only at h
    simp only [Bool.and_eq_true] at h
    obtain ⟨⟨⟨⟨h1, h2⟩, h3⟩, h4⟩, h5⟩ := h
    obtain ⟨cs, e1, e2, e3⟩ := flat_calls _ _ _ hc
    refine ⟨cs, e1, ?_, ?_, ?_⟩
    · unfold PyLr74.answers PyLr74.calls
      rw [hc]
      dsimp only
      have : raw.map PyLr74.whole = cs.map rawC := by
        rw [List.map_congr_left (g := id) (fun c _ => whole_id c), List.map_id, e2]
      rw [this]
      exact told_tell cs _
    · intro c hc'
      refine ⟨e3 c hc', ?_⟩
      unfold PyInside.calls at h3
      rw [List.all_eq_true] at h3
      exact h3 _ (by rw [e2]; exact List.mem_map.mpr ⟨c, hc', rfl⟩)
    · unfold PyFlat.atMost at h2
      rw [e2, List.length_map] at h2
      exact of_decide_eq_true h2
/-! the chip -/
structure PC where
  src : Place
  leaves : List LD
  plan : Option (List (Nat × Nat))
  built : Option BD
def pcOf (c : Lr74.Chip) : PC := ⟨Lr74.place c.source, ldOf c.leaves c.needs, c.plan.map fun t => (prs t c.leaves.length).1, c.built.map (bdOf c.leaves.length)⟩
structure InvC (c : Lr74.Chip) : Prop where
  len : c.needs.length = c.leaves.length
  few : c.leaves.length ≤ 8
  need : ∀ m ∈ c.needs, m < 65536
  plan : ∀ t, c.plan = some t → 1 ≤ c.leaves.length ∧ (leavesOf t).Perm (List.range c.leaves.length)
  built : ∀ b, c.built = some b → 1 ≤ c.leaves.length ∧ Sits c.leaves b.tree
structure InvS (s : Lr74.State) : Prop where
  chip : InvC s.chip
  back : ∀ c ∈ s.back, InvC c
  fore : ∀ c ∈ s.fore, InvC c
theorem inv_empty : InvC Lr74.empty := ⟨rfl, by decide, (fun m h => nomatch h), (fun t h => nomatch h), (fun b h => nomatch h)⟩
theorem inv_start : InvS Lr74.start := ⟨inv_empty, (fun c h => nomatch h), (fun c h => nomatch h)⟩
theorem inv_changed {s : Lr74.State} {c : Lr74.Chip} (h : InvS s) (hc : InvC c) : InvS (Lr74.changed s c) := ⟨hc, fun x hx => by
  have := List.mem_of_mem_take hx
  rcases List.mem_cons.mp this with rfl | z
  · exact h.chip
  · exact h.back x z, fun x hx => nomatch hx⟩
theorem InvC.src {c : Lr74.Chip} (h : InvC c) (p : Place) : InvC { c with source := p } := ⟨h.len, h.few, h.need, h.plan, h.built⟩
theorem InvC.leaf {c : Lr74.Chip} (h : InvC c) {l : Leaf} {m : Nat} (h8 : c.leaves.length < 8) (hm : m < 65536) : InvC { c with leaves := c.leaves ++ [l], needs := c.needs ++ [m], plan := none, built := none } := by
  refine ⟨?_, ?_, ?_, (fun t z => nomatch z), (fun t z => nomatch z)⟩
  · show (c.needs ++ [m]).length = (c.leaves ++ [l]).length
    rw [List.length_append, List.length_append, h.len]
    rfl
  · show (c.leaves ++ [l]).length ≤ 8
    rw [List.length_append, List.length_singleton]
    omega
  · intro x hx
    rcases List.mem_append.mp hx with z | z
    · exact h.need x z
    · rw [List.mem_singleton.mp z]
      exact hm
theorem InvC.move {c : Lr74.Chip} (h : InvC c) {k : Nat} {l : Leaf} {m : Nat} (hm : m < 65536) : InvC { c with leaves := c.leaves.set k l, needs := c.needs.set k m, built := c.built.map fun b => { b with tree := Lr74.moveLaid k (Lr74.place l.at_) b.tree } } := by
  refine ⟨?_, ?_, ?_, ?_, ?_⟩
  · show (c.needs.set k m).length = (c.leaves.set k l).length
    rw [List.length_set, List.length_set, h.len]
  · show (c.leaves.set k l).length ≤ 8
    rw [List.length_set]
    exact h.few
  · intro x hx
    rcases List.mem_or_eq_of_mem_set hx with z | rfl
    · exact h.need x z
    · exact hm
  · intro t ht
    show 1 ≤ (c.leaves.set k l).length ∧ (leavesOf t).Perm (List.range (c.leaves.set k l).length)
    rw [List.length_set]
    exact h.plan t ht
  · intro b hb
    obtain ⟨b', e1, rfl⟩ := Option.map_eq_some_iff.mp hb
    refine ⟨?_, (h.built b' e1).2.move⟩
    show 1 ≤ (c.leaves.set k l).length
    rw [List.length_set]
    exact (h.built b' e1).1
theorem drop_zipWith {α β γ : Type} (f : α → β → γ) (as : List α) (bs : List β) (k : Nat) (h : as.length = bs.length) : List.zipWith f (Lr73.drop as k) (Lr73.drop bs k) = Lr73.drop (List.zipWith f as bs) k := by
  unfold Lr73.drop
  rw [List.zipWith_append (by rw [List.length_take, List.length_take, h]), ← List.take_zipWith, ← List.drop_zipWith]
theorem mem_dropk {α : Type} {l : List α} {k : Nat} {x : α} (h : x ∈ Lr73.drop l k) : x ∈ l := by
  unfold Lr73.drop at h
  rcases List.mem_append.mp h with z | z
  · exact List.mem_of_mem_take z
  · exact List.mem_of_mem_drop z
def dropC (c : Lr74.Chip) (k : Nat) : Lr74.Chip := { c with leaves := Lr73.drop c.leaves k, needs := Lr73.drop c.needs k, plan := c.plan.bind (Lr74.cut k), built := c.built.bind fun b => (Lr74.cutLaid k b.tree).map fun z => ⟨b.trunk + z.2, z.1⟩ }
/-- what a drop leaves -/
theorem drop_pc {c : Lr74.Chip} (h : InvC c) {k : Nat} (hk : k < c.leaves.length) : InvC (dropC c k) ∧ (pcOf (dropC c k)).src = (pcOf c).src ∧ (pcOf (dropC c k)).leaves = (pcOf c).leaves.take k ++ (pcOf c).leaves.drop (k + 1) ∧
    (c.leaves.length = 1 → (dropC c k).plan = none ∧ (dropC c k).built = none) ∧
    (2 ≤ c.leaves.length → (∀ ps, (pcOf c).plan = some ps → ∃ j, above ps k = some j ∧ (pcOf (dropC c k)).plan = some (without ps k j)) ∧ (∀ b, (pcOf c).built = some b → ∃ j, above b.pairs k = some j ∧ (pcOf (dropC c k)).built = some (dropBD b k j))) ∧
    (c.plan = none → (dropC c k).plan = none) ∧ (c.built = none → (dropC c k).built = none) := by
  have dl : (dropC c k).leaves.length = c.leaves.length - 1 := drop_len hk
  refine ⟨⟨?_, ?_, ?_, ?_, ?_⟩, rfl, ?_, ?_, ?_, ?_, ?_⟩
  · show (Lr73.drop c.needs k).length = (Lr73.drop c.leaves k).length
    rw [drop_len hk, drop_len (by rw [h.len]; exact hk), h.len]
  · rw [dl]
    have := h.few
    omega
  · intro m hm
    exact h.need m (mem_dropk hm)
  · intro t ht
    have ht : c.plan.bind (Lr74.cut k) = some t := ht
    cases hp : c.plan with
    | none => rw [hp] at ht; cases ht
    | some t0 =>
      rw [hp] at ht
      have q := (h.plan t0 hp).2
      by_cases c2 : 2 ≤ c.leaves.length
      · obtain ⟨j, t', _, e2, _, e4⟩ := cut_eq q c2 hk
        have ht : Lr74.cut k t0 = some t := ht
        rw [e2] at ht
        cases ht
        rw [dl]
        exact ⟨by omega, e4⟩
      · have h1 : c.leaves.length = 1 := by omega
        rw [h1] at q
        obtain rfl : k = 0 := by omega
        have ht : Lr74.cut 0 t0 = some t := ht
        rw [cut_one q] at ht
        cases ht
  · intro b hb
    have hb : (c.built.bind fun b => (Lr74.cutLaid k b.tree).map fun z => (⟨b.trunk + z.2, z.1⟩ : Lr74.Built)) = some b := hb
    cases hp : c.built with
    | none => rw [hp] at hb; cases hb
    | some b0 =>
      rw [hp] at hb
      have q := (h.built b0 hp).2
      have hb : ((Lr74.cutLaid k b0.tree).map fun z => (⟨b0.trunk + z.2, z.1⟩ : Lr74.Built)) = some b := hb
      by_cases c2 : 2 ≤ c.leaves.length
      · obtain ⟨z, e, rfl⟩ := Option.map_eq_some_iff.mp hb
        rw [dl]
        exact ⟨by omega, q.cut hk e⟩
      · have h1 : c.leaves.length = 1 := by omega
        have q := q.perm
        rw [h1] at q
        obtain rfl : k = 0 := by omega
        rw [cutLaid_one q] at hb
        cases hb
  · show ldOf (Lr73.drop c.leaves k) (Lr73.drop c.needs k) = _
    unfold ldOf
    rw [drop_zipWith _ _ _ _ h.len.symm]
    rfl
  · intro h1
    obtain rfl : k = 0 := by omega
    constructor
    · show c.plan.bind (Lr74.cut 0) = none
      cases hp : c.plan with
      | none => rfl
      | some t0 =>
        have q := (h.plan t0 hp).2
        rw [h1] at q
        exact cut_one q
    · show (c.built.bind fun b => (Lr74.cutLaid 0 b.tree).map fun z => (⟨b.trunk + z.2, z.1⟩ : Lr74.Built)) = none
      cases hp : c.built with
      | none => rfl
      | some b0 =>
        have q := (h.built b0 hp).2.perm
        rw [h1] at q
        show (Lr74.cutLaid 0 b0.tree).map _ = none
        rw [cutLaid_one q]
        rfl
  · intro h2
    constructor
    · intro ps hps
      obtain ⟨t0, hp, rfl⟩ := Option.map_eq_some_iff.mp hps
      obtain ⟨j, t', e1, e2, e3, _⟩ := cut_eq (h.plan t0 hp).2 h2 hk
      refine ⟨j, e1, ?_⟩
      show (c.plan.bind (Lr74.cut k)).map (fun t => (prs t (dropC c k).leaves.length).1) = _
      rw [hp]
      show (Lr74.cut k t0).map _ = _
      rw [e2, e3, dl]
      rfl
    · intro b hb
      obtain ⟨b0, hp, rfl⟩ := Option.map_eq_some_iff.mp hb
      obtain ⟨j, z, e1, e2, e3⟩ := drop_eq (h.built b0 hp).2 h2 hk
      refine ⟨j, e1, ?_⟩
      show (c.built.bind fun b => (Lr74.cutLaid k b.tree).map fun z => (⟨b.trunk + z.2, z.1⟩ : Lr74.Built)).map (bdOf (dropC c k).leaves.length) = _
      rw [hp]
      show ((Lr74.cutLaid k b0.tree).map _).map _ = _
      rw [e2, e3, dl]
      rfl
  · intro e
    show c.plan.bind _ = none
    rw [e]
    rfl
  · intro e
    show c.built.bind _ = none
    rw [e]
    rfl
theorem InvC.planned {c : Lr74.Chip} (h : InvC c) {t : Tree} (h1 : 1 ≤ c.leaves.length) (p : (leavesOf t).Perm (List.range c.leaves.length)) : InvC { c with plan := some t } := ⟨h.len, h.few, h.need, fun t' e => by cases e; exact ⟨h1, p⟩, h.built⟩
theorem InvC.built_ {c : Lr74.Chip} (h : InvC c) {b : Lr74.Built} (h1 : 1 ≤ c.leaves.length) (p : Sits c.leaves b.tree) : InvC { c with built := some b } := ⟨h.len, h.few, h.need, h.plan, fun b' e => by cases e; exact ⟨h1, p⟩⟩
theorem ld_append {ls : List Leaf} {ns : List Nat} (h : ns.length = ls.length) (l : Leaf) (m : Nat) : ldOf (ls ++ [l]) (ns ++ [m]) = ldOf ls ns ++ [⟨Lr74.place l.at_, l.late * 256, m⟩] := by
  unfold ldOf
  rw [List.zipWith_append h.symm]
  rfl
theorem ld_set {ls : List Leaf} {ns : List Nat} (h : ns.length = ls.length) (k : Nat) (l : Leaf) (m : Nat) : ldOf (ls.set k l) (ns.set k m) = (ldOf ls ns).set k ⟨Lr74.place l.at_, l.late * 256, m⟩ := by
  unfold ldOf
  refine List.ext_getElem? fun i => ?_
  rw [List.getElem?_zipWith, List.getElem?_set, List.getElem?_set, List.getElem?_set, List.length_zipWith]
  by_cases c : k = i
  · subst c
    rw [if_pos rfl, if_pos rfl, if_pos rfl]
    by_cases d : k < ls.length
    · rw [if_pos d, if_pos (by omega), if_pos (by omega)]
    · rw [if_neg d, if_neg (by omega), if_neg (by omega)]
  · rw [if_neg c, if_neg c, if_neg c, List.getElem?_zipWith]
/-! the best -/
def okey (b : Bool) (o : OD) : Int × Int := if b then (o.power, o.wire) else (o.wire, o.time)
theorem plan_best {ls : List Leaf} {ns : List Nat} (hl : ns.length = ls.length) (hn : ∀ m ∈ ns, m < 65536) (h1 : 1 ≤ ls.length) (b : Bool) {t : Tree} (h : (if b then Lr73.least ls ns (Lr72.allShapes ls.length) else Lr72.best ls (Lr72.allShapes ls.length)) = some t) :
    (leavesOf t).Perm (List.range ls.length) ∧ ∃ i : Nat, (allC (ldOf ls ns) (List.range ls.length))[i]? = some (odT (ldOf ls ns) t) ∧ ∀ (j : Nat) x, (allC (ldOf ls ns) (List.range ls.length))[j]? = some x → ¬ lt2 (okey b x) (okey b (odT (ldOf ls ns) t)) ∧ (j < i → lt2 (okey b (odT (ldOf ls ns) t)) (okey b x)) := by
  have e := allC_shapes (ldOf ls ns) h1
  rw [e]
  have pm : ∀ x ∈ Lr72.allShapes ls.length, (leavesOf x).Perm (List.range ls.length) := fun x hx => shapes_perm _ _ x hx
  have key : ∀ x ∈ Lr72.allShapes ls.length, okey b (odT (ldOf ls ns) x) = if b then (Lr73.power ls ns x, (sum ls x).wire) else ((sum ls x).wire, (sum ls x).time) := fun x hx => by
    have lt : ∀ k ∈ leavesOf x, k < ls.length := fun k hk => List.mem_range.mp ((pm x hx).mem_iff.mp hk)
    have s := odT_sum hl (ns := ns) x lt
    unfold okey
    rw [s.2.1, s.2.2, odT_power hl hn x lt]
  have h2 : bst (fun x => if b then (Lr73.power ls ns x, (sum ls x).wire) else ((sum ls x).wire, (sum ls x).time)) (Lr72.allShapes ls.length) = some t := by
    cases b with
    | true => rw [if_pos rfl, least_bst] at h; exact h
    | false => rw [if_neg (by decide), best_bst] at h; exact h
  obtain ⟨i, hi, hl'⟩ := bst_least _ _ _ h2
  have ht := List.mem_of_getElem? hi
  refine ⟨pm t ht, i, by rw [List.getElem?_map, hi]; rfl, fun j x hx => ?_⟩
  rw [List.getElem?_map] at hx
  obtain ⟨y, hy, rfl⟩ := Option.map_eq_some_iff.mp hx
  have q := hl' j y hy
  rw [key t ht, key y (List.mem_of_getElem? hy)]
  exact q
theorem shapes_some : ∀ (n : Nat) (l : List Nat), 1 ≤ l.length → l.length ≤ n → Lr72.shapes n l ≠ []
  | 0, l, h1, h2 => by omega
  | n + 1, [], h1, h2 => absurd h1 (by decide)
  | n + 1, [k], h1, h2 => by
    show [Tree.leaf k] ≠ []
    simp
  | n + 1, k :: a :: l, h1, h2 => by
    have h2 : l.length + 1 + 1 ≤ n + 1 := h2
    have e := split_sides k (a :: l)
    have ln : 1 ≤ (split (k :: a :: l)).length := by
      unfold split
      rw [List.length_drop, ways_len]
      show 1 ≤ 2 ^ (l.length + 1) * 1 - 1
      rw [Nat.pow_succ]
      have := Nat.two_pow_pos l.length
      omega
    rw [e, List.length_map] at ln
    intro hc
    have hc : (((Lr72.sides (a :: l)).filter fun z => !z.2.isEmpty).flatMap fun z => (Lr72.shapes n (k :: z.1)).flatMap fun x => (Lr72.shapes n z.2).map fun y => Tree.two x y) = [] := hc
    rw [List.flatMap_eq_nil_iff] at hc
    obtain ⟨z, hz⟩ := List.exists_mem_of_length_pos ln
    have q := split_mem (l := k :: a :: l) (by simp) (k :: z.1, z.2) (by rw [e]; exact List.mem_map.mpr ⟨z, hz, rfl⟩)
    have q1 : 1 ≤ z.1.length + 1 := q.1
    have q3 : z.1.length + 1 + z.2.length = l.length + 1 + 1 := q.2.2.1
    have q2 : 1 ≤ z.2.length := q.2.1
    have hx := shapes_some n (k :: z.1) q.1 (by show z.1.length + 1 ≤ n; omega)
    have hy := shapes_some n z.2 q2 (by omega)
    have := hc z hz
    rw [List.flatMap_eq_nil_iff] at this
    obtain ⟨x, hx'⟩ := List.exists_mem_of_ne_nil _ hx
    have := this x hx'
    rw [List.map_eq_nil_iff] at this
    exact hy this
termination_by n => n
theorem plan_some {ls : List Leaf} {ns : List Nat} (h1 : 1 ≤ ls.length) (b : Bool) : ∃ t, (if b then Lr73.least ls ns (Lr72.allShapes ls.length) else Lr72.best ls (Lr72.allShapes ls.length)) = some t := by
  have hs : Lr72.allShapes ls.length ≠ [] := shapes_some _ _ (by rw [List.length_range]; exact h1) (by rw [List.length_range]; exact Nat.le_refl _)
  cases b with
  | true => rw [if_pos rfl, least_bst]; exact bst_some _ _ hs
  | false => rw [if_neg (by decide), best_bst]; exact bst_some _ _ hs
end CM
set_option linter.all false
set_option autoImplicit false
/-! The mirror held against the specification, ninth part: each call that may be handed in; what always holds. -/
namespace CM
open Lr72 (Tree Leaf Laid leavesOf sum lay shapeOf laidJoints joints)
inductive CallIs : Cl → Lr74.Call → Prop where
  | new : CallIs (0, []) .new
  | source (a b : Int) : CallIs (1, [a, b]) (.source ⟨a, b⟩)
  | leaf (a b : Int) (w m : Nat) : CallIs (2, [a, b, (w : Int), (m : Int)]) (.leaf ⟨a, b⟩ w m)
  | move (k : Nat) (a b : Int) (w m : Nat) : CallIs (3, [(k : Int), a, b, (w : Int), (m : Int)]) (.move k ⟨a, b⟩ w m)
  | drop (k : Nat) : CallIs (4, [(k : Int)]) (.drop k)
  | shape (l : List Nat) (h : l.length ≤ 20) : CallIs (5, l.map fun n : Nat => (n : Int)) (.shape l)
  | plan (b : Nat) : CallIs (6, [(b : Int)]) (.plan b)
  | build : CallIs (7, []) .build
  | mend : CallIs (8, []) .mend
  | retie : CallIs (9, []) .retie
  | undo : CallIs (10, []) .undo
  | redo : CallIs (11, []) .redo
  | told : CallIs (12, []) .told
  | sums : CallIs (13, []) .sums
  | ends : CallIs (14, []) .ends
  | when_ (k : Nat) : CallIs (15, [(k : Int)]) (.when_ k)
  | joint (k : Nat) : CallIs (16, [(k : Int)]) (.joint k)
  | short : CallIs (17, []) .short
  | anew : CallIs (18, []) .anew
  | ticking (i : Nat) : CallIs (19, [(i : Int)]) (.ticking i)
theorem len0 {l : List Int} (h : 0 = l.length) : l = [] := List.length_eq_zero_iff.mp h.symm
theorem len1 {l : List Int} (h : 1 = l.length) : ∃ a, l = [a] := List.length_eq_one_iff.mp h.symm
theorem len2 {l : List Int} (h : 2 = l.length) : ∃ a b, l = [a, b] := match l, h with | [a, b], _ => ⟨a, b, rfl⟩
theorem len4 {l : List Int} (h : 4 = l.length) : ∃ a b c d, l = [a, b, c, d] := match l, h with | [a, b, c, d], _ => ⟨a, b, c, d, rfl⟩
theorem len5 {l : List Int} (h : 5 = l.length) : ∃ a b c d e, l = [a, b, c, d, e] := match l, h with | [a, b, c, d, e], _ => ⟨a, b, c, d, e, rfl⟩
theorem nat_of {z : Int} (h : 0 ≤ z) : ∃ n : Nat, z = (n : Int) := ⟨z.toNat, (Int.toNat_of_nonneg h).symm⟩
theorem in_lo {lo hi z : Int} {r : List Int} {b : List (Int × Int)} (h : PyInside.each ((lo, hi) :: b) (z :: r) = true) : lo ≤ z ∧ PyInside.each b r = true := by
  unfold PyInside.each PyInside.within at h
  simp only [Bool.and_eq_true, decide_eq_true_eq] at h
  exact ⟨h.1.1, h.2⟩
theorem ite_get {q : Prop} [Decidable q] {a b n k : Nat} {X : Option (Nat × Nat)} (h : (if q then some (a, b) else X) = some (n, k)) : (q ∧ a = n) ∨ (¬ q ∧ X = some (n, k)) := by
  by_cases c : q
  · rw [if_pos c] at h
    cases h
    exact .inl ⟨c, rfl⟩
  · rw [if_neg c] at h
    exact .inr ⟨c, h⟩
theorem nats_map : ∀ (l : List Int), (∀ z ∈ l, 0 ≤ z) → ∃ ns : List Nat, l = ns.map (fun n : Nat => (n : Int)) ∧ Lr74Neutral.nats l = ns
  | [], _ => ⟨[], rfl, rfl⟩
  | z :: l, h => by
    obtain ⟨ns, e1, e2⟩ := nats_map l fun y hy => h y (List.mem_cons_of_mem _ hy)
    obtain ⟨n, hn⟩ := nat_of (h z List.mem_cons_self)
    refine ⟨n :: ns, by rw [List.map_cons, ← e1, hn], ?_⟩
    show z.toNat :: Lr74Neutral.nats l = _
    rw [e2, hn]
    rfl
theorem okc_is {c : Cl} (h : OkC c) : ∃ x, CallIs c x ∧ Lr74Neutral.callOf (rawC c) = some x := by
  obtain ⟨p, ns⟩ := c
  obtain ⟨f, i⟩ := h
  rcases f with f | ⟨f5, f⟩
  · obtain rfl : p = 5 := f
    have i : (PyInside.each [] [] && PyInside.lists [(0, 4294967295, 0, 20)] [ns]) = true := i
    simp only [PyInside.lists, PyInside.within, Bool.and_eq_true, decide_eq_true_eq, List.all_eq_true] at i
    obtain ⟨l, e1, e2⟩ := nats_map ns fun z hz => (i.2.1.2 z hz).1
    refine ⟨.shape l, ?_, ?_⟩
    · rw [e1]
      refine .shape l ?_
      have := i.2.1.1.2
      rw [e1, List.length_map] at this
      exact this
    · show Lr74Neutral.callOf [[5], ns] = _
      rw [← e2]
      rfl
  · have f : PyLr74.shape p = some (ns.length, 0) := f
    have f5 : p ≠ 5 := f5
    have er : rawC (p, ns) = [p :: ns] := if_neg f5
    rw [er] at i ⊢
    have i : (PyInside.each (PyLr74.bound p).1 ns && PyInside.lists (PyLr74.bound p).2 []) = true := i
    rw [Bool.and_eq_true] at i
    have i := i.1
    unfold PyLr74.shape at f
    rcases ite_get f with ⟨rfl, e⟩ | ⟨_, f⟩
    · obtain rfl := len0 e
      exact ⟨_, .new, rfl⟩
    rcases ite_get f with ⟨rfl, e⟩ | ⟨_, f⟩
    · obtain ⟨a, b, rfl⟩ := len2 e
      exact ⟨_, .source a b, rfl⟩
    rcases ite_get f with ⟨rfl, e⟩ | ⟨_, f⟩
    · obtain ⟨a, b, w, m, rfl⟩ := len4 e
      have i := (in_lo i).2
      have i := (in_lo i).2
      obtain ⟨w, rfl⟩ := nat_of (in_lo i).1
      obtain ⟨m, rfl⟩ := nat_of (in_lo (in_lo i).2).1
      exact ⟨_, .leaf a b w m, rfl⟩
    rcases ite_get f with ⟨rfl, e⟩ | ⟨_, f⟩
    · obtain ⟨k, a, b, w, m, rfl⟩ := len5 e
      obtain ⟨k, rfl⟩ := nat_of (in_lo i).1
      have i := (in_lo i).2
      have i := (in_lo i).2
      have i := (in_lo i).2
      obtain ⟨w, rfl⟩ := nat_of (in_lo i).1
      obtain ⟨m, rfl⟩ := nat_of (in_lo (in_lo i).2).1
      exact ⟨_, .move k a b w m, rfl⟩
    rcases ite_get f with ⟨rfl, e⟩ | ⟨_, f⟩
    · obtain ⟨k, rfl⟩ := len1 e
      obtain ⟨k, rfl⟩ := nat_of (in_lo i).1
      exact ⟨_, .drop k, rfl⟩
    rcases ite_get f with ⟨e, _⟩ | ⟨_, f⟩
    · exact absurd e f5
    rcases ite_get f with ⟨rfl, e⟩ | ⟨_, f⟩
    · obtain ⟨k, rfl⟩ := len1 e
      obtain ⟨k, rfl⟩ := nat_of (in_lo i).1
      exact ⟨_, .plan k, rfl⟩
    rcases ite_get f with ⟨rfl, e⟩ | ⟨_, f⟩
    · obtain rfl := len0 e
      exact ⟨_, .build, rfl⟩
    rcases ite_get f with ⟨rfl, e⟩ | ⟨_, f⟩
    · obtain rfl := len0 e
      exact ⟨_, .mend, rfl⟩
    rcases ite_get f with ⟨rfl, e⟩ | ⟨_, f⟩
    · obtain rfl := len0 e
      exact ⟨_, .retie, rfl⟩
    rcases ite_get f with ⟨rfl, e⟩ | ⟨_, f⟩
    · obtain rfl := len0 e
      exact ⟨_, .undo, rfl⟩
    rcases ite_get f with ⟨rfl, e⟩ | ⟨_, f⟩
    · obtain rfl := len0 e
      exact ⟨_, .redo, rfl⟩
    rcases ite_get f with ⟨rfl, e⟩ | ⟨_, f⟩
    · obtain rfl := len0 e
      exact ⟨_, .told, rfl⟩
    rcases ite_get f with ⟨rfl, e⟩ | ⟨_, f⟩
    · obtain rfl := len0 e
      exact ⟨_, .sums, rfl⟩
    rcases ite_get f with ⟨rfl, e⟩ | ⟨_, f⟩
    · obtain rfl := len0 e
      exact ⟨_, .ends, rfl⟩
    rcases ite_get f with ⟨rfl, e⟩ | ⟨_, f⟩
    · obtain ⟨k, rfl⟩ := len1 e
      obtain ⟨k, rfl⟩ := nat_of (in_lo i).1
      exact ⟨_, .when_ k, rfl⟩
    rcases ite_get f with ⟨rfl, e⟩ | ⟨_, f⟩
    · obtain ⟨k, rfl⟩ := len1 e
      obtain ⟨k, rfl⟩ := nat_of (in_lo i).1
      exact ⟨_, .joint k, rfl⟩
    rcases ite_get f with ⟨rfl, e⟩ | ⟨_, f⟩
    · obtain rfl := len0 e
      exact ⟨_, .short, rfl⟩
    rcases ite_get f with ⟨rfl, e⟩ | ⟨_, f⟩
    · obtain rfl := len0 e
      exact ⟨_, .anew, rfl⟩
    rcases ite_get f with ⟨rfl, e⟩ | ⟨_, f⟩
    · obtain ⟨k, rfl⟩ := len1 e
      obtain ⟨k, rfl⟩ := nat_of (in_lo i).1
      exact ⟨_, .ticking k, rfl⟩
    cases f
/-! what always holds -/
theorem inv_ite {q : Prop} [Decidable q] {a b : Lr74.State × List Int} (h1 : q → InvS a.1) (h2 : ¬ q → InvS b.1) : InvS (if q then a else b).1 := by
  by_cases c : q
  · rw [if_pos c]
    exact h1 c
  · rw [if_neg c]
    exact h2 c
theorem inv_act {s : Lr74.State} (I : InvS s) {c : Cl} {x : Lr74.Call} (h : CallIs c x) : InvS (Lr74.act s x).1 := by
  cases h with
  | new => exact inv_start
  | source a b => exact inv_ite (fun _ => I) fun _ => inv_changed I (I.chip.src _)
  | leaf a b w m =>
    refine inv_ite (fun _ => I) fun q => inv_ite (fun _ => I) fun q8 => inv_changed I (I.chip.leaf (by omega) ?_)
    have : ¬ 65535 < m := fun z => q (.inr (.inr z))
    omega
  | move k a b w m =>
    refine inv_ite (fun _ => I) fun _ => inv_ite (fun _ => I) fun q => inv_changed I (I.chip.move ?_)
    have : ¬ 65535 < m := fun z => q (.inr (.inr z))
    omega
  | drop k => exact inv_ite (fun _ => I) fun q => inv_changed I (drop_pc I.chip (by omega)).1
  | shape l hl =>
    refine inv_ite (fun _ => I) fun q => ?_
    have h0 : 1 ≤ s.chip.leaves.length := by
      have : s.chip.leaves.length ≠ 0 := fun z => q (List.length_eq_zero_iff.mp z)
      omega
    have te := tree_eq h0 l
    show InvS (match Lr72.treeOf s.chip.leaves.length l with | none => (s, [-22]) | some t => (Lr74.changed s { s.chip with plan := some t }, [0]) : Lr74.State × List Int).1
    rw [te.1]
    cases o : okB s.chip.leaves.length l with
    | false => exact I
    | true => exact inv_changed I (I.chip.planned h0 (te.2 o))
  | plan b =>
    refine inv_ite (fun _ => I) fun q1 => inv_ite (fun _ => I) fun q => inv_ite (fun _ => I) fun _ => ?_
    have h0 : 1 ≤ s.chip.leaves.length := by
      have : s.chip.leaves.length ≠ 0 := fun z => q (List.length_eq_zero_iff.mp z)
      omega
    have eb : (if b = 0 then Lr72.best s.chip.leaves (Lr72.allShapes s.chip.leaves.length) else Lr73.least s.chip.leaves s.chip.needs (Lr72.allShapes s.chip.leaves.length)) = (if decide (b = 1) then Lr73.least s.chip.leaves s.chip.needs (Lr72.allShapes s.chip.leaves.length) else Lr72.best s.chip.leaves (Lr72.allShapes s.chip.leaves.length)) := by
      by_cases z : b = 0
      · rw [if_pos z, if_neg (by rw [decide_eq_true_eq]; omega)]
      · rw [if_neg z, if_pos (by rw [decide_eq_true_eq]; omega)]
    show InvS (match (if b = 0 then Lr72.best s.chip.leaves (Lr72.allShapes s.chip.leaves.length) else Lr73.least s.chip.leaves s.chip.needs (Lr72.allShapes s.chip.leaves.length)) with | none => (s, [-16]) | some t => (Lr74.changed s { s.chip with plan := some t }, [(Lr72.sum s.chip.leaves t).wire, (Lr72.sum s.chip.leaves t).time, Lr73.power s.chip.leaves s.chip.needs t]) : Lr74.State × List Int).1
    rw [eb]
    obtain ⟨t, ht⟩ := plan_some (ls := s.chip.leaves) (ns := s.chip.needs) h0 (decide (b = 1))
    rw [ht]
    exact inv_changed I (I.chip.planned h0 (plan_best I.chip.len I.chip.need h0 _ ht).1)
  | build =>
    show InvS (match s.chip.plan with | none => (s, [-16]) | some t => (Lr74.changed s { s.chip with built := some (Lr74.build s.chip t) }, [(Lr74.build s.chip t).wire]) : Lr74.State × List Int).1
    cases hp : s.chip.plan with
    | none => exact I
    | some t => exact inv_changed I (I.chip.built_ (I.chip.plan t hp).1 (Sits.lay (I.chip.plan t hp).2 _))
  | mend =>
    show InvS (match s.chip.built with | none => (s, [-16]) | some b => (Lr74.changed s { s.chip with built := some (Lr74.mend true s.chip b) }, [(Lr74.mend true s.chip b).wire - b.wire]) : Lr74.State × List Int).1
    cases hp : s.chip.built with
    | none => exact I
    | some b => exact inv_changed I (I.chip.built_ (I.chip.built b hp).1 ((I.chip.built b hp).2.mend true))
  | retie =>
    show InvS (match s.chip.built with | none => (s, [-16]) | some b => (Lr74.changed s { s.chip with built := some (Lr74.mend false s.chip b) }, [(Lr74.mend false s.chip b).wire]) : Lr74.State × List Int).1
    cases hp : s.chip.built with
    | none => exact I
    | some b => exact inv_changed I (I.chip.built_ (I.chip.built b hp).1 ((I.chip.built b hp).2.mend false))
  | undo =>
    show InvS (match s.back with | [] => (s, [-6]) | x :: l => (⟨x, l, s.chip :: s.fore⟩, [Lr71.int l.length]) : Lr74.State × List Int).1
    cases hb : s.back with
    | nil => exact I
    | cons x l => exact ⟨I.back x (by rw [hb]; exact List.mem_cons_self), fun c hc => I.back c (by rw [hb]; exact List.mem_cons_of_mem _ hc), fun c hc => by
        rcases List.mem_cons.mp hc with rfl | hc
        · exact I.chip
        · exact I.fore c hc⟩
  | redo =>
    show InvS (match s.fore with | [] => (s, [-6]) | x :: l => (⟨x, s.chip :: s.back, l⟩, [Lr71.int l.length]) : Lr74.State × List Int).1
    cases hb : s.fore with
    | nil => exact I
    | cons x l => exact ⟨I.fore x (by rw [hb]; exact List.mem_cons_self), fun c hc => by
        rcases List.mem_cons.mp hc with rfl | hc
        · exact I.chip
        · exact I.back c hc, fun c hc => I.fore c (by rw [hb]; exact List.mem_cons_of_mem _ hc)⟩
  | told =>
    show InvS (match s.chip.plan with | none => (s, [-16]) | some t => (s, _) : Lr74.State × List Int).1
    cases s.chip.plan <;> exact I
  | sums =>
    show InvS (match s.chip.built with | none => (s, [-16]) | some t => (s, _) : Lr74.State × List Int).1
    cases s.chip.built <;> exact I
  | ends =>
    show InvS (match s.chip.built with | none => (s, [-16]) | some t => (s, _) : Lr74.State × List Int).1
    cases s.chip.built <;> exact I
  | when_ k =>
    show InvS (match s.chip.built with | none => (s, [-16]) | some b => (match Lr74.whenAt s.chip.leaves k b.tree with | none => (s, [-2]) | some t => (s, _)) : Lr74.State × List Int).1
    cases s.chip.built with
    | none => exact I
    | some b =>
      dsimp only
      cases Lr74.whenAt s.chip.leaves k b.tree <;> exact I
  | joint k =>
    show InvS (match s.chip.built with | none => (s, [-16]) | some b => (match (laidJoints b.tree)[k]? with | none => (s, [-2]) | some (q, wx, wy) => (s, _)) : Lr74.State × List Int).1
    cases s.chip.built with
    | none => exact I
    | some b =>
      dsimp only
      cases (laidJoints b.tree)[k]? <;> exact I
  | short =>
    show InvS (match s.chip.built with | none => (s, [-16]) | some t => (s, _) : Lr74.State × List Int).1
    cases s.chip.built <;> exact I
  | anew =>
    show InvS (match s.chip.built with | none => (s, [-16]) | some b => (match s.chip.plan with | none => (s, [-2]) | some t => (s, _)) : Lr74.State × List Int).1
    cases s.chip.built with
    | none => exact I
    | some b =>
      dsimp only
      cases s.chip.plan <;> exact I
  | ticking i =>
    refine inv_ite (fun _ => I) fun _ => ?_
    show InvS (match s.chip.built with | none => (s, [-16]) | some t => (s, _) : Lr74.State × List Int).1
    cases s.chip.built <;> exact I
end CM
set_option linter.all false
set_option autoImplicit false
/-! The mirror held against the specification, tenth part: wires as they are now, and moments. -/
namespace CM
open Lr72 (Tree Leaf Laid leavesOf sum lay shapeOf laidJoints joints)
open Lr71 (Place Area)
/-- a wire: how long, how far from end to end, the needs behind it -/
structure WD where
  length : Int
  span : Int
  needs : Nat
def nds (b : BD) (ls : List LD) (i : Nat) : List Nat := (ocs ls b.pairs i).map (·.needs)
theorem nds_len (b : BD) (ls : List LD) (i : Nat) : (nds b ls i).length = ls.length + i := by unfold nds; rw [List.length_map, ocs_len]
theorem nds_zero (b : BD) (ls : List LD) : nds b ls 0 = ls.map (·.need) := by
  unfold nds
  show (ls.mapIdx fun k l => leafOD k l).map _ = _
  refine List.ext_getElem? fun i => ?_
  rw [List.getElem?_map, List.getElem?_mapIdx, List.getElem?_map]
  cases ls[i]? <;> rfl
theorem getD_needs (l : List OD) (k : Nat) : (l.map (·.needs)).getD k 0 = (l.getD k .none).needs := by
  rw [List.getD, List.getD, List.getElem?_map]
  cases l[k]? <;> rfl
theorem nds_succ (b : BD) (ls : List LD) (i : Nat) : nds b ls (i + 1) = nds b ls i ++ [(nds b ls i).getD (b.pairs.getD i (0, 0)).1 0 ||| (nds b ls i).getD (b.pairs.getD i (0, 0)).2 0] := by
  unfold nds
  show (ocs ls b.pairs i ++ [joinOD _ _]).map _ = _
  rw [List.map_append, getD_needs, getD_needs]
  rfl
def wdAt (b : BD) (ls : List LD) (i : Nat) : List WD :=
  [⟨(b.wires.getD i (0, 0)).1, Lr71.far (b.places.getD i pl0) ((allPl b ls).getD (b.pairs.getD i (0, 0)).1 pl0), (nds b ls b.pairs.length).getD (b.pairs.getD i (0, 0)).1 0⟩,
   ⟨(b.wires.getD i (0, 0)).2, Lr71.far (b.places.getD i pl0) ((allPl b ls).getD (b.pairs.getD i (0, 0)).2 pl0), (nds b ls b.pairs.length).getD (b.pairs.getD i (0, 0)).2 0⟩]
def wd0 (b : BD) (ls : List LD) (src : Place) : WD := ⟨b.trunk, Lr71.far src ((allPl b ls).getD ((allPl b ls).length - 1) pl0), (nds b ls b.pairs.length).getD ((nds b ls b.pairs.length).length - 1) 0⟩
def wrs (b : BD) (ls : List LD) (src : Place) : Nat → List WD
  | 0 => [wd0 b ls src]
  | i + 1 => wrs b ls src i ++ wdAt b ls i
theorem wrs_len (b : BD) (ls : List LD) (src : Place) : ∀ i, (wrs b ls src i).length = 2 * i + 1
  | 0 => rfl
  | i + 1 => by
    show (wrs b ls src i ++ wdAt b ls i).length = _
    rw [List.length_append, wrs_len b ls src i]
    show 2 * i + 1 + 2 = _
    omega
/-- the same of a tree -/
def wdI (os : List OD) (PL : List Place) (z : It) : List WD :=
  [⟨z.2.2.1, Lr71.far z.2.1 (PL.getD z.1.1 pl0), (os.getD z.1.1 .none).needs⟩, ⟨z.2.2.2, Lr71.far z.2.1 (PL.getD z.1.2 pl0), (os.getD z.1.2 .none).needs⟩]
theorem wrs_its (n : Nat) (B : Lr74.Built) (ls : List LD) (src : Place) : ∀ i, i ≤ (its B.tree n).length →
    wrs (bdOf n B) ls src i = wd0 (bdOf n B) ls src :: ((its B.tree n).take i).flatMap (wdI (ocs ls (bdOf n B).pairs (bdOf n B).pairs.length) (allPl (bdOf n B) ls))
  | 0, _ => rfl
  | i + 1, h => by
    show wrs (bdOf n B) ls src i ++ wdAt (bdOf n B) ls i = _
    have e : (its B.tree n)[i]? = some (its B.tree n)[i] := List.getElem?_eq_getElem (by omega)
    rw [wrs_its n B ls src i (by omega), flat_snoc _ e]
    have eb := its_bd n B
    have e1 : (bdOf n B).pairs.getD i (0, 0) = (its B.tree n)[i].1 := by rw [eb]; show ((its B.tree n).map (·.1)).getD i (0, 0) = _; rw [List.getD, List.getElem?_map, e]; rfl
    have e2 : (bdOf n B).places.getD i pl0 = (its B.tree n)[i].2.1 := by rw [eb]; show ((its B.tree n).map (·.2.1)).getD i pl0 = _; rw [List.getD, List.getElem?_map, e]; rfl
    have e3 : (bdOf n B).wires.getD i (0, 0) = (its B.tree n)[i].2.2 := by rw [eb]; show ((its B.tree n).map (·.2.2)).getD i (0, 0) = _; rw [List.getD, List.getElem?_map, e]; rfl
    have ew : wdAt (bdOf n B) ls i = wdI (ocs ls (bdOf n B).pairs (bdOf n B).pairs.length) (allPl (bdOf n B) ls) (its B.tree n)[i] := by
      unfold wdAt wdI nds
      rw [e1, e2, e3, getD_needs, getD_needs]
    rw [ew]
    rfl
theorem flat_two (os : List OD) (PL : List Place) (p : Place) (x y : Laid) (wx wy : Int) (m : Nat) : (its (.two p x wx y wy) m).flatMap (wdI os PL) = (its x m).flatMap (wdI os PL) ++ (its y (m + jn (shapeOf x))).flatMap (wdI os PL) ++
    [⟨wx, Lr71.far p (PL.getD (rt (shapeOf x) m) pl0), (os.getD (rt (shapeOf x) m) .none).needs⟩, ⟨wy, Lr71.far p (PL.getD (rt (shapeOf y) (m + jn (shapeOf x))) pl0), (os.getD (rt (shapeOf y) (m + jn (shapeOf x))) .none).needs⟩] := by
  show (its x m ++ its y (m + jn (shapeOf x)) ++ [_]).flatMap _ = _
  rw [List.flatMap_append, List.flatMap_append]
  rfl
/-! power, ticking, short -/
def pwr (l : List WD) : Int := (l.map fun w => w.length * (pop w.needs : Int)).sum
def tick (i : Nat) (l : List WD) : Int := ((l.filter fun w => decide ((w.needs >>> i) &&& 1 = 1)).map (·.length)).sum
def shrt (l : List WD) : Nat := (l.filter fun w => decide (w.length < w.span)).length
theorem pwr_app (a b : List WD) : pwr (a ++ b) = pwr a + pwr b := by unfold pwr; rw [List.map_append, List.sum_append]
theorem tick_app (i : Nat) (a b : List WD) : tick i (a ++ b) = tick i a + tick i b := by unfold tick; rw [List.filter_append, List.map_append, List.sum_append]
theorem shrt_app (a b : List WD) : shrt (a ++ b) = shrt a + shrt b := by unfold shrt; rw [List.filter_append, List.length_append]
theorem pwr_one (w : WD) : pwr [w] = w.length * (pop w.needs : Int) := by unfold pwr; simp
theorem bit_iff (n i : Nat) : decide ((n >>> i) &&& 1 = 1) = n.testBit i := by
  rw [Nat.and_one_is_mod, Nat.shiftRight_eq_div_pow, Nat.testBit_eq_decide_div_mod_eq]
theorem tick_one (i : Nat) (w : WD) : tick i [w] = if w.needs.testBit i then w.length else 0 := by
  unfold tick
  rw [List.filter_cons, bit_iff]
  cases w.needs.testBit i <;> simp
theorem shrt_one (w : WD) : shrt [w] = if w.length < w.span then 1 else 0 := by
  unfold shrt
  by_cases c : w.length < w.span <;> simp [c]
section
variable {ls : List Leaf} {ns : List Nat} (hl : ns.length = ls.length) (hn : ∀ m ∈ ns, m < 65536) {os : List OD} {PL : List Place}
include hl hn in
theorem pwr_tree : ∀ (x : Laid) (m : Nat), (∀ k ∈ leavesOf (shapeOf x), k < ls.length) → OsAt (ldOf ls ns) os (shapeOf x) m → pwr ((its x m).flatMap (wdI os PL)) = Lr73.powerOf ns x
  | .leaf _ _, _, _, _ => rfl
  | .two p x wx y wy, m, h, o => by
    have hx : ∀ k ∈ leavesOf (shapeOf x), k < ls.length := fun k hk => h k (List.mem_append_left _ hk)
    have hy : ∀ k ∈ leavesOf (shapeOf y), k < ls.length := fun k hk => h k (List.mem_append_right _ hk)
    have o : OsAt (ldOf ls ns) os (.two (shapeOf x) (shapeOf y)) m := o
    have ex := pwr_tree x m hx o.fst
    have ey := pwr_tree y (m + jn (shapeOf x)) hy o.snd
    have sx := odT_steps hl hn hx
    have sy := odT_steps hl hn hy
    unfold OD.steps at sx sy
    rw [flat_two, pwr_app, pwr_app, ex, ey, show ∀ a b : WD, [a, b] = [a] ++ [b] from fun _ _ => rfl, pwr_app, pwr_one, pwr_one]
    dsimp only
    rw [o.fst.root, o.snd.root, sx, sy]
    show _ = Lr73.powerOf ns x + Lr73.powerOf ns y + Lr73.steps ns (shapeOf x) * wx + Lr73.steps ns (shapeOf y) * wy
    rw [Int.mul_comm wx, Int.mul_comm wy]
    omega
include hl in
theorem tick_tree (i : Nat) : ∀ (x : Laid) (m : Nat), (∀ k ∈ leavesOf (shapeOf x), k < ls.length) → OsAt (ldOf ls ns) os (shapeOf x) m → tick i ((its x m).flatMap (wdI os PL)) = Lr73.tickingOf ns i x
  | .leaf _ _, _, _, _ => rfl
  | .two p x wx y wy, m, h, o => by
    have hx : ∀ k ∈ leavesOf (shapeOf x), k < ls.length := fun k hk => h k (List.mem_append_left _ hk)
    have hy : ∀ k ∈ leavesOf (shapeOf y), k < ls.length := fun k hk => h k (List.mem_append_right _ hk)
    have o : OsAt (ldOf ls ns) os (.two (shapeOf x) (shapeOf y)) m := o
    have ex := tick_tree i x m hx o.fst
    have ey := tick_tree i y (m + jn (shapeOf x)) hy o.snd
    rw [flat_two, tick_app, tick_app, ex, ey, show ∀ a b : WD, [a, b] = [a] ++ [b] from fun _ _ => rfl, tick_app, tick_one, tick_one]
    dsimp only
    rw [o.fst.root, o.snd.root, odT_bit ls ns hl _ hx, odT_bit ls ns hl _ hy]
    show _ = Lr73.tickingOf ns i x + Lr73.tickingOf ns i y + (if Lr73.on ns (shapeOf x) i then wx else 0) + (if Lr73.on ns (shapeOf y) i then wy else 0)
    omega
theorem shrt_tree : ∀ (x : Laid) (m : Nat), PlAt PL x m → shrt ((its x m).flatMap (wdI os PL)) = Lr74.short x
  | .leaf _ _, _, _ => rfl
  | .two p x wx y wy, m, pl => by
    have ex := shrt_tree x m pl.fst
    have ey := shrt_tree y (m + jn (shapeOf x)) pl.snd
    rw [flat_two, shrt_app, shrt_app, ex, ey, show ∀ a b : WD, [a, b] = [a] ++ [b] from fun _ _ => rfl, shrt_app, shrt_one, shrt_one]
    dsimp only
    rw [pl.fst.root, pl.snd.root]
    show _ = Lr74.short x + Lr74.short y + (if wx < Lr71.far p x.place then 1 else 0) + (if wy < Lr71.far p y.place then 1 else 0)
    omega
end
/-- all wires of what is built -/
def wrsAll (b : BD) (ls : List LD) (src : Place) : List WD := wrs b ls src b.pairs.length
section
variable {ls : List Leaf} {ns : List Nat} (hl : ns.length = ls.length) {B : Lr74.Built} (h : Sits ls B.tree) (src : Place)
include hl h in
theorem wrs_all : wrsAll (bdOf ls.length B) (ldOf ls ns) src = ⟨B.trunk, Lr71.far src B.tree.place, (odT (ldOf ls ns) (shapeOf B.tree)).needs⟩ ::
    (its B.tree ls.length).flatMap (wdI (ocs (ldOf ls ns) (bdOf ls.length B).pairs (bdOf ls.length B).pairs.length) (allPl (bdOf ls.length B) (ldOf ls ns))) := by
  have e1 : (bdOf ls.length B).pairs.length = jn (shapeOf B.tree) := prs_len _ _
  unfold wrsAll
  rw [wrs_its _ _ _ _ _ (by rw [its_len, e1]; exact Nat.le_refl _)]
  rw [show ((its B.tree ls.length).take (bdOf ls.length B).pairs.length) = its B.tree ls.length by rw [e1, ← its_len B.tree ls.length, List.take_length]]
  congr 1
  unfold wd0
  have ll := ld_len hl
  have o := osAt_ocs (ldOf ls ns) (t := shapeOf B.tree) (by rw [ll]; exact h.lt)
  rw [ll] at o
  have e2 : (allPl (bdOf ls.length B) (ldOf ls ns)).length - 1 = rt (shapeOf B.tree) ls.length := by
    rw [rt_last h]
    show ((ldOf ls ns).map (·.place) ++ (laidJoints B.tree).map (·.1)).length - 1 = _
    rw [List.length_append, List.length_map, List.length_map, ld_len hl, lj_len]
  have e3 : (nds (bdOf ls.length B) (ldOf ls ns) (bdOf ls.length B).pairs.length).length - 1 = rt (shapeOf B.tree) ls.length := by
    rw [rt_last h, nds_len, ll, e1]
  rw [e2, e3, (h.pl hl).root]
  have e4 : (nds (bdOf ls.length B) (ldOf ls ns) (bdOf ls.length B).pairs.length).getD (rt (shapeOf B.tree) ls.length) 0 = (odT (ldOf ls ns) (shapeOf B.tree)).needs := by
    unfold nds
    rw [getD_needs]
    have := o.root
    show ((ocs (ldOf ls ns) (prs (shapeOf B.tree) ls.length).1 (prs (shapeOf B.tree) ls.length).1.length).getD _ OD.none).needs = _
    rw [this]
  rw [e4]
  rfl
include hl h in
theorem osAt_bd : OsAt (ldOf ls ns) (ocs (ldOf ls ns) (bdOf ls.length B).pairs (bdOf ls.length B).pairs.length) (shapeOf B.tree) ls.length := by
  have ll := ld_len hl
  have o := osAt_ocs (ldOf ls ns) (t := shapeOf B.tree) (by rw [ll]; exact h.lt)
  rw [ll] at o
  exact o
include hl h in
theorem power_eq (hn : ∀ m ∈ ns, m < 65536) : pwr (wrsAll (bdOf ls.length B) (ldOf ls ns) src) = B.power ns := by
  rw [wrs_all hl h src, show ∀ (a : WD) l, a :: l = [a] ++ l from fun _ _ => rfl, pwr_app, pwr_one, pwr_tree hl hn _ _ h.lt (osAt_bd hl h)]
  dsimp only
  have sx := odT_steps hl hn h.lt
  unfold OD.steps at sx
  rw [sx, Int.mul_comm]
  rfl
include hl h in
theorem ticking_eq (i : Nat) : tick i (wrsAll (bdOf ls.length B) (ldOf ls ns) src) = Lr74.tickingOf ns B i := by
  rw [wrs_all hl h src, show ∀ (a : WD) l, a :: l = [a] ++ l from fun _ _ => rfl, tick_app, tick_one, tick_tree hl i _ _ h.lt (osAt_bd hl h)]
  dsimp only
  rw [odT_bit ls ns hl _ h.lt]
  rfl
include hl h in
theorem short_eq (c : Place) : shrt (wrsAll (bdOf ls.length B) (ldOf ls ns) (Lr74.place c)) = B.short c := by
  rw [wrs_all hl h (Lr74.place c), show ∀ (a : WD) l, a :: l = [a] ++ l from fun _ _ => rfl, shrt_app, shrt_one, shrt_tree _ _ (h.pl hl)]
  rfl
end
/-! moments -/
def moStep (b : BD) (n : Nat) (M : List Int) (k : Nat) : List Int :=
  let M1 := M.set (b.pairs.getD k (0, 0)).1 (M.getD (n + k) 0 + (b.wires.getD k (0, 0)).1)
  M1.set (b.pairs.getD k (0, 0)).2 (M1.getD (n + k) 0 + (b.wires.getD k (0, 0)).2)
def moUp (b : BD) (n : Nat) : Nat → List Int
  | 0 => List.replicate (n + b.pairs.length) b.trunk
  | i + 1 => moStep b n (moUp b n i) (b.pairs.length - 1 - i)
theorem moUp_len (b : BD) (n : Nat) : ∀ i, (moUp b n i).length = n + b.pairs.length
  | 0 => List.length_replicate
  | i + 1 => by
    show (moStep b n (moUp b n i) _).length = _
    unfold moStep
    rw [List.length_set, List.length_set, moUp_len b n i]
/-- when it is at each leaf's end -/
def moms (b : BD) (ls : List LD) : List Int := ls.mapIdx fun k l => (moUp b ls.length b.pairs.length).getD k 0 + l.late
def stT (r : Nat) (z : It) (M : List Int) : List Int :=
  let M1 := M.set z.1.1 (M.getD r 0 + z.2.2.1)
  M1.set z.1.2 (M1.getD r 0 + z.2.2.2)
def moR : List It → Nat → List Int → List Int
  | [], _, M => M
  | z :: zs, m, M => stT m z (moR zs (m + 1) M)
theorem moR_append : ∀ (A B : List It) (m : Nat) (M : List Int), moR (A ++ B) m M = moR A m (moR B (m + A.length) M)
  | [], B, m, M => rfl
  | z :: A, B, m, M => by
    show stT m z (moR (A ++ B) (m + 1) M) = stT m z (moR A (m + 1) (moR B (m + (A.length + 1)) M))
    rw [moR_append A B, show m + 1 + A.length = m + (A.length + 1) by omega]
theorem moUp_R (n m : Nat) (B : Lr74.Built) : ∀ i, i ≤ (its B.tree n).length → moUp (bdOf n B) m i = moR ((its B.tree n).drop ((its B.tree n).length - i)) (m + ((its B.tree n).length - i)) (moUp (bdOf n B) m 0)
  | 0, _ => by
    rw [Nat.sub_zero, List.drop_length]
    rfl
  | i + 1, h => by
    have e0 : (bdOf n B).pairs.length = (its B.tree n).length := by rw [its_len]; exact prs_len _ _
    have hk : (its B.tree n).length - (i + 1) < (its B.tree n).length := by omega
    have e : (its B.tree n)[(its B.tree n).length - (i + 1)]? = some (its B.tree n)[(its B.tree n).length - (i + 1)] := List.getElem?_eq_getElem hk
    have eb := its_bd n B
    have e1 : (bdOf n B).pairs.getD ((its B.tree n).length - (i + 1)) (0, 0) = (its B.tree n)[(its B.tree n).length - (i + 1)].1 := by rw [eb]; show ((its B.tree n).map (·.1)).getD _ (0, 0) = _; rw [List.getD, List.getElem?_map, e]; rfl
    have e3 : (bdOf n B).wires.getD ((its B.tree n).length - (i + 1)) (0, 0) = (its B.tree n)[(its B.tree n).length - (i + 1)].2.2 := by rw [eb]; show ((its B.tree n).map (·.2.2)).getD _ (0, 0) = _; rw [List.getD, List.getElem?_map, e]; rfl
    rw [List.drop_eq_getElem_cons hk, show (its B.tree n).length - (i + 1) + 1 = (its B.tree n).length - i by omega]
    show moStep (bdOf n B) m (moUp (bdOf n B) m i) ((bdOf n B).pairs.length - 1 - i) = stT _ _ (moR _ _ _)
    rw [moUp_R n m B i (by omega), show m + ((its B.tree n).length - (i + 1)) + 1 = m + ((its B.tree n).length - i) by omega, e0, show (its B.tree n).length - 1 - i = (its B.tree n).length - (i + 1) by omega]
    unfold moStep stT
    rw [e1, e3]
theorem stT_len (r : Nat) (z : It) (M : List Int) : (stT r z M).length = M.length := by
  unfold stT
  rw [List.length_set, List.length_set]
theorem stT_ne (r : Nat) (z : It) (M : List Int) {i : Nat} (h1 : i ≠ z.1.1) (h2 : i ≠ z.1.2) : (stT r z M)[i]? = M[i]? := by
  unfold stT
  dsimp only
  rw [List.getElem?_set_ne (fun e => h2 e.symm), List.getElem?_set_ne (fun e => h1 e.symm)]
theorem stT_fst (r : Nat) (z : It) (M : List Int) (h : z.1.1 ≠ z.1.2) (hl : z.1.1 < M.length) {q : Int} (hr : M[r]? = some q) : (stT r z M)[z.1.1]? = some (q + z.2.2.1) := by
  unfold stT
  dsimp only
  rw [List.getElem?_set_ne (fun e => h e.symm), List.getElem?_set_self hl, show M.getD r 0 = q by rw [List.getD, hr]; rfl]
theorem stT_snd (r : Nat) (z : It) (M : List Int) (h : z.1.1 ≠ r) (hl : z.1.2 < M.length) {q : Int} (hr : M[r]? = some q) : (stT r z M)[z.1.2]? = some (q + z.2.2.2) := by
  unfold stT
  dsimp only
  rw [List.getElem?_set_self (by rw [List.length_set]; exact hl)]
  have e : ∀ x, (M.set z.1.1 x).getD r 0 = q := fun x => by rw [List.getD, List.getElem?_set_ne h, hr]; rfl
  rw [e]
/-- when it is at each leaf, but for how late that is by itself -/
def tmL : Laid → Int → List (Nat × Int)
  | .leaf k _, t => [(k, t)]
  | .two _ x wx y wy, t => tmL x (t + wx) ++ tmL y (t + wy)
theorem tmL_leaves : ∀ (x : Laid) (t : Int), (tmL x t).map (·.1) = leavesOf (shapeOf x)
  | .leaf _ _, _ => rfl
  | .two p x wx y wy, t => by
    show (tmL x (t + wx) ++ tmL y (t + wy)).map _ = leavesOf (shapeOf x) ++ leavesOf (shapeOf y)
    rw [List.map_append, tmL_leaves x, tmL_leaves y]
theorem tmL_mem {x : Laid} {t : Int} {z : Nat × Int} (h : z ∈ tmL x t) : z.1 ∈ leavesOf (shapeOf x) := by
  rw [← tmL_leaves x t]
  exact List.mem_map.mpr ⟨z, h, rfl⟩
theorem rt_side (t : Tree) (m : Nat) : (jn t = 0 ∧ rt t m ∈ leavesOf t) ∨ (jn t ≠ 0 ∧ rt t m + 1 = m + jn t ∧ m ≤ rt t m) := by
  cases t with
  | leaf k => exact .inl ⟨rfl, List.mem_singleton.mpr rfl⟩
  | two x y => exact .inr ⟨by show jn x + jn y + 1 ≠ 0; omega, by show m + jn x + jn y + 1 = m + (jn x + jn y + 1); omega, by show m ≤ m + jn x + jn y; omega⟩
theorem mo_tree {n : Nat} : ∀ (x : Laid) (m : Nat) (M : List Int) (t : Int), (∀ k ∈ leavesOf (shapeOf x), k < n) → (leavesOf (shapeOf x)).Nodup → n ≤ m → m + jn (shapeOf x) ≤ M.length → M[rt (shapeOf x) m]? = some t →
    (moR (its x m) m M).length = M.length ∧ (∀ i, i ∉ leavesOf (shapeOf x) → i < m ∨ m + jn (shapeOf x) ≤ i + 1 → (moR (its x m) m M)[i]? = M[i]?) ∧ ∀ z ∈ tmL x t, (moR (its x m) m M)[z.1]? = some z.2
  | .leaf k p, m, M, t, h, nd, hm, hM, hr => ⟨rfl, fun i _ _ => rfl, fun z hz => by
      rw [List.mem_singleton.mp hz]
      exact hr⟩
  | .two p x wx y wy, m, M, t, h, nd, hm, hM, hr => by
    have hM : m + (jn (shapeOf x) + jn (shapeOf y) + 1) ≤ M.length := hM
    have hx : ∀ k ∈ leavesOf (shapeOf x), k < n := fun k hk => h k (List.mem_append_left _ hk)
    have hy : ∀ k ∈ leavesOf (shapeOf y), k < n := fun k hk => h k (List.mem_append_right _ hk)
    have nd : (leavesOf (shapeOf x) ++ leavesOf (shapeOf y)).Nodup := nd
    obtain ⟨ndx, ndy, dj⟩ := List.nodup_append.mp nd
    have dj : ∀ a ∈ leavesOf (shapeOf x), a ∉ leavesOf (shapeOf y) := fun a ha hb => dj a ha a hb rfl
    have hr : M[m + jn (shapeOf x) + jn (shapeOf y)]? = some t := hr
    have rx := rt_side (shapeOf x) m
    have ry := rt_side (shapeOf y) (m + jn (shapeOf x))
    generalize hX : rt (shapeOf x) m = X at rx
    generalize hY : rt (shapeOf y) (m + jn (shapeOf x)) = Y at ry
    have X1 : X < m + jn (shapeOf x) := by
      rcases rx with ⟨_, z⟩ | ⟨_, z, _⟩
      · have := hx X z
        omega
      · omega
    have Y1 : Y < m + jn (shapeOf x) + jn (shapeOf y) := by
      rcases ry with ⟨_, z⟩ | ⟨_, z, _⟩
      · have := hy Y z
        omega
      · omega
    have XY : X ≠ Y := by
      rcases rx with ⟨_, z⟩ | ⟨_, z, z2⟩
      · rcases ry with ⟨_, u⟩ | ⟨_, u, u2⟩
        · intro e
          exact dj X z (e ▸ u)
        · have := hx X z
          omega
      · rcases ry with ⟨_, u⟩ | ⟨_, u, u2⟩
        · have := hy Y u
          omega
        · omega
    have Xy : X ∉ leavesOf (shapeOf y) := fun z => by
      rcases rx with ⟨_, u⟩ | ⟨_, u, u2⟩
      · exact dj X u z
      · have := hy X z
        omega
    let M1 := stT (m + jn (shapeOf x) + jn (shapeOf y)) ((X, Y), p, (wx, wy)) M
    have l1 : M1.length = M.length := stT_len _ _ _
    have e1 : moR (its (.two p x wx y wy) m) m M = moR (its x m) m (moR (its y (m + jn (shapeOf x))) (m + jn (shapeOf x)) M1) := by
      show moR (its x m ++ its y (m + jn (shapeOf x)) ++ [((rt (shapeOf x) m, rt (shapeOf y) (m + jn (shapeOf x))), p, (wx, wy))]) m M = _
      rw [moR_append, moR_append, List.length_append, its_len, its_len, hX, hY, ← Nat.add_assoc]
      rfl
    have pX : M1[X]? = some (t + wx) := stT_fst _ ((X, Y), p, (wx, wy)) M XY (by show X < _; omega) hr
    have pY : M1[Y]? = some (t + wy) := stT_snd _ ((X, Y), p, (wx, wy)) M (by show X ≠ _; omega) (by show Y < _; omega) hr
    have iy := mo_tree (n := n) y (m + jn (shapeOf x)) M1 (t + wy) hy ndy (by omega) (by rw [l1]; omega) (by rw [hY]; exact pY)
    let M2 := moR (its y (m + jn (shapeOf x))) (m + jn (shapeOf x)) M1
    have l2 : M2.length = M.length := iy.1.trans l1
    have pX2 : M2[X]? = some (t + wx) := by
      rw [← pX]
      exact iy.2.1 X Xy (.inl X1)
    have ix := mo_tree (n := n) x m M2 (t + wx) hx ndx hm (by rw [l2]; omega) (by rw [hX]; exact pX2)
    rw [e1]
    refine ⟨ix.1.trans l2, fun i hi hc => ?_, fun z hz => ?_⟩
    · have hi : i ∉ leavesOf (shapeOf x) ++ leavesOf (shapeOf y) := hi
      have hix : i ∉ leavesOf (shapeOf x) := fun z => hi (List.mem_append_left _ z)
      have hiy : i ∉ leavesOf (shapeOf y) := fun z => hi (List.mem_append_right _ z)
      have hc : i < m ∨ m + (jn (shapeOf x) + jn (shapeOf y) + 1) ≤ i + 1 := hc
      rw [ix.2.1 i hix (by omega), iy.2.1 i hiy (by omega)]
      refine stT_ne _ _ _ ?_ ?_
      · show i ≠ X
        rcases rx with ⟨_, u⟩ | ⟨_, u, u2⟩
        · exact fun e => hix (e ▸ u)
        · omega
      · show i ≠ Y
        rcases ry with ⟨_, u⟩ | ⟨_, u, u2⟩
        · exact fun e => hiy (e ▸ u)
        · omega
    · have hz : z ∈ tmL x (t + wx) ++ tmL y (t + wy) := hz
      rcases List.mem_append.mp hz with hz | hz
      · exact ix.2.2 z hz
      · have zl := tmL_mem hz
        have zx : z.1 ∉ leavesOf (shapeOf x) := fun u => dj _ u zl
        have := hy _ zl
        rw [ix.2.1 z.1 zx (.inl (by omega))]
        exact iy.2.2 z hz
theorem times_tm (ls : List Leaf) : ∀ (x : Laid) (t : Int), (∀ k ∈ leavesOf (shapeOf x), k < ls.length) → (Lr72.times ls x).map (t + ·) = (tmL x t).map fun z => z.2 + lateOf ls z.1
  | .leaf k p, t, h => by
    have hk := h k (List.mem_singleton.mpr rfl)
    have e : ls[k]? = some ls[k] := List.getElem?_eq_getElem hk
    show (match ls[k]? with | some x => [x.late * Lr72.parts] | none => []).map (t + ·) = [t + (match ls[k]? with | some x => x.late * Lr72.parts | none => 0)]
    rw [e]
    rfl
  | .two p x wx y wy, t, h => by
    have hx := times_tm ls x (t + wx) fun k hk => h k (List.mem_append_left _ hk)
    have hy := times_tm ls y (t + wy) fun k hk => h k (List.mem_append_right _ hk)
    show ((Lr72.times ls x).map (wx + ·) ++ (Lr72.times ls y).map (wy + ·)).map (t + ·) = (tmL x (t + wx) ++ tmL y (t + wy)).map _
    rw [List.map_append, List.map_append, ← hx, ← hy, List.map_map, List.map_map]
    congr 1
    · exact List.map_congr_left fun v _ => (by show t + (wx + v) = t + wx + v; omega)
    · exact List.map_congr_left fun v _ => (by show t + (wy + v) = t + wy + v; omega)
theorem when_tm (ls : List Leaf) (k : Nat) : ∀ (x : Laid) (t : Int), (∀ j ∈ leavesOf (shapeOf x), j < ls.length) → match Lr74.whenAt ls k x with
    | some s => (k, t + s - lateOf ls k) ∈ tmL x t
    | none => k ∉ leavesOf (shapeOf x)
  | .leaf j p, t, h => by
    have hk := h j (List.mem_singleton.mpr rfl)
    have e : ls[j]? = some ls[j] := List.getElem?_eq_getElem hk
    unfold Lr74.whenAt
    by_cases c : j = k
    · rw [if_pos c, e]
      subst c
      show (j, t + ls[j].late * Lr72.parts - lateOf ls j) ∈ [(j, t)]
      unfold lateOf
      rw [e]
      show (j, t + ls[j].late * Lr72.parts - ls[j].late * Lr72.parts) ∈ [(j, t)]
      rw [show t + ls[j].late * Lr72.parts - ls[j].late * Lr72.parts = t by omega]
      exact List.mem_singleton.mpr rfl
    · rw [if_neg c]
      show k ∉ [j]
      intro z
      exact c (List.mem_singleton.mp z).symm
  | .two p x wx y wy, t, h => by
    have hx := when_tm ls k x (t + wx) fun k hk => h k (List.mem_append_left _ hk)
    have hy := when_tm ls k y (t + wy) fun k hk => h k (List.mem_append_right _ hk)
    unfold Lr74.whenAt
    cases ex : Lr74.whenAt ls k x with
    | some s =>
      rw [ex] at hx
      dsimp only at hx ⊢
      refine List.mem_append_left _ ?_
      rw [show t + (wx + s) - lateOf ls k = t + wx + s - lateOf ls k by omega]
      exact hx
    | none =>
      rw [ex] at hx
      cases ey : Lr74.whenAt ls k y with
      | some s =>
        rw [ey] at hy
        dsimp only at hy ⊢
        refine List.mem_append_right _ ?_
        rw [show t + (wy + s) - lateOf ls k = t + wy + s - lateOf ls k by omega]
        exact hy
      | none =>
        rw [ey] at hy
        dsimp only at hx hy ⊢
        intro z
        rcases List.mem_append.mp z with z | z
        · exact hx z
        · exact hy z
section
variable {ls : List Leaf} {ns : List Nat} (hl : ns.length = ls.length) {B : Lr74.Built} (h : Sits ls B.tree)
include hl h in
theorem moms_at {z : Nat × Int} (hz : z ∈ tmL B.tree B.trunk) : (moms (bdOf ls.length B) (ldOf ls ns))[z.1]? = some (z.2 + lateOf ls z.1) := by
  have hk := h.lt _ (tmL_mem hz)
  have e : ls[z.1]? = some ls[z.1] := List.getElem?_eq_getElem hk
  have e0 : (bdOf ls.length B).pairs.length = (its B.tree ls.length).length := by rw [its_len]; exact prs_len _ _
  have hj := h.jn
  unfold moms
  rw [List.getElem?_mapIdx, ld_at hl e, ld_len hl]
  have m0 : (moUp (bdOf ls.length B) ls.length 0).length = ls.length + jn (shapeOf B.tree) := by rw [moUp_len, e0, its_len]
  have q := mo_tree (n := ls.length) B.tree ls.length (moUp (bdOf ls.length B) ls.length 0) B.trunk h.lt h.nodup (Nat.le_refl _) (by rw [m0]; exact Nat.le_refl _) (by
    show (List.replicate (ls.length + (bdOf ls.length B).pairs.length) B.trunk)[_]? = _
    rw [List.getElem?_replicate, if_pos]
    rw [rt_last h, e0, its_len]
    omega)
  have u := moUp_R ls.length ls.length B _ (Nat.le_refl _)
  rw [Nat.sub_self, List.drop_zero, Nat.add_zero] at u
  rw [← u] at q
  have := q.2.2 z hz
  rw [e0]
  show some ((moUp (bdOf ls.length B) ls.length (its B.tree ls.length).length).getD z.1 0 + ls[z.1].late * 256) = _
  rw [List.getD, this]
  unfold lateOf
  rw [e]
  rfl
include hl h in
theorem moms_mem (v : Int) : v ∈ moms (bdOf ls.length B) (ldOf ls ns) ↔ v ∈ B.times ls := by
  have et : B.times ls = (tmL B.tree B.trunk).map fun z => z.2 + lateOf ls z.1 := times_tm ls _ _ h.lt
  have ln : (moms (bdOf ls.length B) (ldOf ls ns)).length = ls.length := by unfold moms; rw [List.length_mapIdx, ld_len hl]
  rw [et, List.mem_map]
  constructor
  · intro hv
    obtain ⟨k, hk, e⟩ := List.getElem_of_mem hv
    have kl : k ∈ leavesOf (shapeOf B.tree) := h.perm.mem_iff.mpr (List.mem_range.mpr (by omega))
    rw [← tmL_leaves B.tree B.trunk] at kl
    obtain ⟨z, hz, rfl⟩ := List.mem_map.mp kl
    have := moms_at hl h hz
    rw [List.getElem?_eq_getElem hk, e] at this
    exact ⟨z, hz, (Option.some.inj this).symm⟩
  · rintro ⟨z, hz, rfl⟩
    exact List.mem_of_getElem? (moms_at hl h hz)
include hl h in
theorem when_eq {k : Nat} : match Lr74.whenAt ls k B.tree with
    | some s => k < ls.length ∧ (moms (bdOf ls.length B) (ldOf ls ns))[k]? = some (B.trunk + s)
    | none => ls.length ≤ k := by
  have q := when_tm ls k B.tree B.trunk h.lt
  cases e : Lr74.whenAt ls k B.tree with
  | none =>
    rw [e] at q
    refine Classical.byContradiction fun z => q (h.perm.mem_iff.mpr (List.mem_range.mpr ?_))
    have z : ¬ ls.length ≤ k := z
    omega
  | some s =>
    rw [e] at q
    dsimp only at q ⊢
    have := moms_at hl h q
    dsimp only at this
    refine ⟨h.lt _ (tmL_mem q), ?_⟩
    rw [this]
    congr 1
    omega
end
theorem fold_min : ∀ (l : List Int) (a : Int), (l.foldl min a = a ∨ l.foldl min a ∈ l) ∧ l.foldl min a ≤ a ∧ ∀ v ∈ l, l.foldl min a ≤ v
  | [], a => ⟨.inl rfl, Int.le_refl _, fun v hv => nomatch hv⟩
  | b :: l, a => by
    have ih := fold_min l (min a b)
    show (l.foldl min (min a b) = a ∨ _) ∧ l.foldl min (min a b) ≤ a ∧ _
    refine ⟨?_, by omega, fun v hv => ?_⟩
    · rcases ih.1 with e | e
      · by_cases c : a ≤ b
        · exact .inl (by rw [e]; omega)
        · refine .inr (List.mem_cons.mpr (.inl ?_))
          show l.foldl min (min a b) = b
          rw [e]
          omega
      · exact .inr (List.mem_cons_of_mem _ e)
    · rcases List.mem_cons.mp hv with rfl | hv
      · show l.foldl min (min a v) ≤ v
        omega
      · exact ih.2.2 v hv
theorem fold_max : ∀ (l : List Int) (a : Int), (l.foldl max a = a ∨ l.foldl max a ∈ l) ∧ a ≤ l.foldl max a ∧ ∀ v ∈ l, v ≤ l.foldl max a
  | [], a => ⟨.inl rfl, Int.le_refl _, fun v hv => nomatch hv⟩
  | b :: l, a => by
    have ih := fold_max l (max a b)
    show (l.foldl max (max a b) = a ∨ _) ∧ a ≤ l.foldl max (max a b) ∧ _
    refine ⟨?_, by omega, fun v hv => ?_⟩
    · rcases ih.1 with e | e
      · by_cases c : b ≤ a
        · exact .inl (by rw [e]; omega)
        · refine .inr (List.mem_cons.mpr (.inl ?_))
          show l.foldl max (max a b) = b
          rw [e]
          omega
      · exact .inr (List.mem_cons_of_mem _ e)
    · rcases List.mem_cons.mp hv with rfl | hv
      · show v ≤ l.foldl max (max a v)
        omega
      · exact ih.2.2 v hv
theorem min_is {A T : List Int} (h : ∀ v, v ∈ A ↔ v ∈ T) {m : Int} (hm : m ∈ A) (hx : ∀ y ∈ A, m ≤ y) : T.foldl min (T.headD 0) = m := by
  have q := fold_min T (T.headD 0)
  have ne : T.foldl min (T.headD 0) ∈ T := by
    cases T with
    | nil => exact absurd ((h m).mp hm) (fun z => nomatch z)
    | cons a r =>
      rcases q.1 with e | e
      · rw [e]
        exact List.mem_cons_self
      · exact e
  have a1 := q.2.2 m ((h m).mp hm)
  have a2 := hx _ ((h _).mpr ne)
  omega
theorem max_is {A T : List Int} (h : ∀ v, v ∈ A ↔ v ∈ T) {m : Int} (hm : m ∈ A) (hx : ∀ y ∈ A, y ≤ m) : T.foldl max (T.headD 0) = m := by
  have q := fold_max T (T.headD 0)
  have ne : T.foldl max (T.headD 0) ∈ T := by
    cases T with
    | nil => exact absurd ((h m).mp hm) (fun z => nomatch z)
    | cons a r =>
      rcases q.1 with e | e
      · rw [e]
        exact List.mem_cons_self
      · exact e
  have a1 := q.2.2 m ((h m).mp hm)
  have a2 := hx _ ((h _).mpr ne)
  omega
theorem told_eq (t : Tree) (n : Nat) : (Lr72.pairsOf n t).length = 2 * (prs t n).1.length ∧ (Lr72.pairsOf n t).map Lr71.int = (prs t n).1.flatMap fun p => [(p.1 : Int), (p.2 : Int)] := by
  unfold Lr72.pairsOf
  rw [pairs_eq]
  dsimp only
  constructor
  · induction (prs t n).1 with
    | nil => rfl
    | cons p l ih =>
      have e : (p :: l).length = l.length + 1 := rfl
      rw [List.flatMap_cons, List.length_append, ih, e]
      show 2 + 2 * l.length = _
      omega
  · induction (prs t n).1 with
    | nil => rfl
    | cons p l ih =>
      rw [List.flatMap_cons, List.map_append, ih, List.flatMap_cons]
      rfl
end CM
set_option linter.all false
set_option autoImplicit false
/-! The mirror held against the specification, eleventh part: which answers are refusals; what is kept of changes. -/
namespace CM
open Lr72 (Tree Leaf Laid leavesOf sum lay shapeOf laidJoints joints wireOf)
open Lr71 (Place Area far)
theorem size_nn (z : Int) : 0 ≤ Lr71.size z := by unfold Lr71.size; split <;> omega
theorem far_nn (p q : Place) : 0 ≤ far p q := by
  unfold Lr71.far
  have := size_nn (p.s - q.s)
  omega
theorem join_ge (x y : Lr72.Sum) : x.time ≤ Lr72.joinTime x y ∧ y.time ≤ Lr72.joinTime x y := by
  unfold Lr72.joinTime
  omega
theorem sum_two (ls : List Leaf) (x y : Tree) : sum ls (.two x y) = Lr72.joined (sum ls x) (sum ls y) := rfl
theorem sum_nn (ls : List Leaf) : ∀ t : Tree, 0 ≤ (sum ls t).wire
  | .leaf k => by
    show 0 ≤ (match ls[k]? with | some x => Lr72.leafSum x | none => Lr72.nowhere).wire
    cases ls[k]? with
    | none => exact Int.le_refl _
    | some x => exact Int.le_refl _
  | .two x y => by
    have hx := sum_nn ls x
    have hy := sum_nn ls y
    have j := join_ge (sum ls x) (sum ls y)
    show 0 ≤ (sum ls x).wire + (sum ls y).wire + (Lr72.joinTime (sum ls x) (sum ls y) - (sum ls x).time) + (Lr72.joinTime (sum ls x) (sum ls y) - (sum ls y).time)
    omega
theorem lay_nn (ls : List Leaf) : ∀ (t : Tree) (p : Place), 0 ≤ wireOf (lay ls p t)
  | .leaf k, p => Int.le_refl _
  | .two x y, p => by
    have hx := lay_nn ls x (Lr71.near (sum ls (.two x y)).area p)
    have hy := lay_nn ls y (Lr71.near (sum ls (.two x y)).area p)
    have j := join_ge (sum ls x) (sum ls y)
    show 0 ≤ wireOf (lay ls (Lr71.near (sum ls (.two x y)).area p) x) + wireOf (lay ls (Lr71.near (sum ls (.two x y)).area p) y) + (Lr72.joinTime (sum ls x) (sum ls y) - (sum ls x).time) + (Lr72.joinTime (sum ls x) (sum ls y) - (sum ls y).time)
    omega
theorem mended_ge (ls : List Leaf) : ∀ x : Laid, wireOf x ≤ wireOf (Lr74.mended true ls x).1
  | .leaf _ _ => Int.le_refl _
  | .two p x wx y wy => by
    have hx := mended_ge ls x
    have hy := mended_ge ls y
    show wireOf x + wireOf y + wx + wy ≤ wireOf (Lr74.mended true ls x).1 + wireOf (Lr74.mended true ls y).1 + (max ((Lr74.mended true ls x).2 + max wx (far p (Lr74.mended true ls x).1.place)) ((Lr74.mended true ls y).2 + max wy (far p (Lr74.mended true ls y).1.place)) - (Lr74.mended true ls x).2) + (max ((Lr74.mended true ls x).2 + max wx (far p (Lr74.mended true ls x).1.place)) ((Lr74.mended true ls y).2 + max wy (far p (Lr74.mended true ls y).1.place)) - (Lr74.mended true ls y).2)
    omega
theorem retied_nn (ls : List Leaf) : ∀ x : Laid, 0 ≤ wireOf (Lr74.mended false ls x).1
  | .leaf _ _ => Int.le_refl _
  | .two p x wx y wy => by
    have hx := retied_nn ls x
    have hy := retied_nn ls y
    show 0 ≤ wireOf (Lr74.mended false ls x).1 + wireOf (Lr74.mended false ls y).1 + (max ((Lr74.mended false ls x).2 + max 0 (far p (Lr74.mended false ls x).1.place)) ((Lr74.mended false ls y).2 + max 0 (far p (Lr74.mended false ls y).1.place)) - (Lr74.mended false ls x).2) + (max ((Lr74.mended false ls x).2 + max 0 (far p (Lr74.mended false ls x).1.place)) ((Lr74.mended false ls y).2 + max 0 (far p (Lr74.mended false ls y).1.place)) - (Lr74.mended false ls y).2)
    omega
/-- a change, or a refusal that leaves all as it is -/
def Kind (s : Lr74.State) (z : Lr74.State × List Int) : Prop := (∃ v r, z.2 = v :: r ∧ v < 0 ∧ z.1 = s) ∨ ∃ v r c, z.2 = v :: r ∧ 0 ≤ v ∧ z.1 = Lr74.changed s c
theorem kind_no {s : Lr74.State} {v : Int} (h : v < 0) : Kind s (s, [v]) := .inl ⟨v, [], rfl, h, rfl⟩
theorem kind_yes {s : Lr74.State} {c : Lr74.Chip} {v : Int} {r : List Int} (h : 0 ≤ v) : Kind s (Lr74.changed s c, v :: r) := .inr ⟨v, r, c, rfl, h, rfl⟩
theorem kind_ite {q : Prop} [Decidable q] {s : Lr74.State} {a b : Lr74.State × List Int} (h1 : q → Kind s a) (h2 : ¬ q → Kind s b) : Kind s (if q then a else b) := by
  by_cases c : q
  · rw [if_pos c]
    exact h1 c
  · rw [if_neg c]
    exact h2 c
theorem int_nn (n : Nat) : 0 ≤ Lr71.int n := Int.natCast_nonneg n
theorem act_kind {s : Lr74.State} {c : Cl} {x : Lr74.Call} (h : CallIs c x) (h1 : 1 ≤ c.1) (h9 : c.1 ≤ 9) : Kind s (Lr74.act s x) := by
  cases h with
  | source a b => exact kind_ite (fun _ => kind_no (by decide)) fun _ => kind_yes (Int.le_refl _)
  | leaf a b w m => exact kind_ite (fun _ => kind_no (by decide)) fun _ => kind_ite (fun _ => kind_no (by decide)) fun _ => kind_yes (int_nn _)
  | move k a b w m => exact kind_ite (fun _ => kind_no (by decide)) fun _ => kind_ite (fun _ => kind_no (by decide)) fun _ => kind_yes (Int.le_refl _)
  | drop k => exact kind_ite (fun _ => kind_no (by decide)) fun _ => kind_yes (int_nn _)
  | shape l hl =>
    refine kind_ite (fun _ => kind_no (by decide)) fun _ => ?_
    show Kind s (match Lr72.treeOf s.chip.leaves.length l with | none => (s, [-22]) | some t => (Lr74.changed s { s.chip with plan := some t }, [0]) : Lr74.State × List Int)
    cases Lr72.treeOf s.chip.leaves.length l with
    | none => exact kind_no (by decide)
    | some t => exact kind_yes (Int.le_refl _)
  | plan b =>
    refine kind_ite (fun _ => kind_no (by decide)) fun _ => kind_ite (fun _ => kind_no (by decide)) fun _ => kind_ite (fun _ => kind_no (by decide)) fun _ => ?_
    show Kind s (match (if b = 0 then Lr72.best s.chip.leaves (Lr72.allShapes s.chip.leaves.length) else Lr73.least s.chip.leaves s.chip.needs (Lr72.allShapes s.chip.leaves.length)) with | none => (s, [-16]) | some t => (Lr74.changed s { s.chip with plan := some t }, [(Lr72.sum s.chip.leaves t).wire, (Lr72.sum s.chip.leaves t).time, Lr73.power s.chip.leaves s.chip.needs t]) : Lr74.State × List Int)
    cases (if b = 0 then Lr72.best s.chip.leaves (Lr72.allShapes s.chip.leaves.length) else Lr73.least s.chip.leaves s.chip.needs (Lr72.allShapes s.chip.leaves.length)) with
    | none => exact kind_no (by decide)
    | some t => exact kind_yes (sum_nn _ _)
  | build =>
    show Kind s (match s.chip.plan with | none => (s, [-16]) | some t => (Lr74.changed s { s.chip with built := some (Lr74.build s.chip t) }, [(Lr74.build s.chip t).wire]) : Lr74.State × List Int)
    cases s.chip.plan with
    | none => exact kind_no (by decide)
    | some t =>
      refine kind_yes ?_
      show 0 ≤ far (Lr74.place s.chip.source) (lay s.chip.leaves (Lr74.place s.chip.source) t).place + wireOf (lay s.chip.leaves (Lr74.place s.chip.source) t)
      have h1 := far_nn (Lr74.place s.chip.source) (lay s.chip.leaves (Lr74.place s.chip.source) t).place
      have h2 := lay_nn s.chip.leaves t (Lr74.place s.chip.source)
      omega
  | mend =>
    show Kind s (match s.chip.built with | none => (s, [-16]) | some b => (Lr74.changed s { s.chip with built := some (Lr74.mend true s.chip b) }, [(Lr74.mend true s.chip b).wire - b.wire]) : Lr74.State × List Int)
    cases s.chip.built with
    | none => exact kind_no (by decide)
    | some b =>
      refine kind_yes ?_
      show 0 ≤ max b.trunk (far (Lr74.place s.chip.source) (Lr74.mended true s.chip.leaves b.tree).1.place) + wireOf (Lr74.mended true s.chip.leaves b.tree).1 - (b.trunk + wireOf b.tree)
      have h2 := mended_ge s.chip.leaves b.tree
      omega
  | retie =>
    show Kind s (match s.chip.built with | none => (s, [-16]) | some b => (Lr74.changed s { s.chip with built := some (Lr74.mend false s.chip b) }, [(Lr74.mend false s.chip b).wire]) : Lr74.State × List Int)
    cases s.chip.built with
    | none => exact kind_no (by decide)
    | some b =>
      refine kind_yes ?_
      show 0 ≤ max 0 (far (Lr74.place s.chip.source) (Lr74.mended false s.chip.leaves b.tree).1.place) + wireOf (Lr74.mended false s.chip.leaves b.tree).1
      have h2 := retied_nn s.chip.leaves b.tree
      omega
  | new => exact absurd h1 (by dsimp only; decide)
  | undo => exact absurd h9 (by dsimp only; decide)
  | redo => exact absurd h9 (by dsimp only; decide)
  | told => exact absurd h9 (by dsimp only; decide)
  | sums => exact absurd h9 (by dsimp only; decide)
  | ends => exact absurd h9 (by dsimp only; decide)
  | when_ k => exact absurd h9 (by dsimp only; decide)
  | joint k => exact absurd h9 (by dsimp only; decide)
  | short => exact absurd h9 (by dsimp only; decide)
  | anew => exact absurd h9 (by dsimp only; decide)
  | ticking i => exact absurd h9 (by dsimp only; decide)
/-- the calls that only tell -/
theorem act_tells {s : Lr74.State} {c : Cl} {x : Lr74.Call} (h : CallIs c x) (h12 : 12 ≤ c.1) : (Lr74.act s x).1 = s := by
  cases h with
  | told =>
    show (match s.chip.plan with | none => (s, [-16]) | some t => (s, _) : Lr74.State × List Int).1 = s
    cases s.chip.plan <;> rfl
  | sums =>
    show (match s.chip.built with | none => (s, [-16]) | some t => (s, _) : Lr74.State × List Int).1 = s
    cases s.chip.built <;> rfl
  | ends =>
    show (match s.chip.built with | none => (s, [-16]) | some t => (s, _) : Lr74.State × List Int).1 = s
    cases s.chip.built <;> rfl
  | when_ k =>
    show (match s.chip.built with | none => (s, [-16]) | some b => (match Lr74.whenAt s.chip.leaves k b.tree with | none => (s, [-2]) | some t => (s, _)) : Lr74.State × List Int).1 = s
    cases s.chip.built with
    | none => rfl
    | some b =>
      dsimp only
      cases Lr74.whenAt s.chip.leaves k b.tree <;> rfl
  | joint k =>
    show (match s.chip.built with | none => (s, [-16]) | some b => (match (laidJoints b.tree)[k]? with | none => (s, [-2]) | some (q, wx, wy) => (s, _)) : Lr74.State × List Int).1 = s
    cases s.chip.built with
    | none => rfl
    | some b =>
      dsimp only
      cases (laidJoints b.tree)[k]? <;> rfl
  | short =>
    show (match s.chip.built with | none => (s, [-16]) | some t => (s, _) : Lr74.State × List Int).1 = s
    cases s.chip.built <;> rfl
  | anew =>
    show (match s.chip.built with | none => (s, [-16]) | some b => (match s.chip.plan with | none => (s, [-2]) | some t => (s, _)) : Lr74.State × List Int).1 = s
    cases s.chip.built with
    | none => rfl
    | some b =>
      dsimp only
      cases s.chip.plan <;> rfl
  | ticking i =>
    show (if 15 < i then (s, [-22]) else (match s.chip.built with | none => (s, [-16]) | some t => (s, _)) : Lr74.State × List Int).1 = s
    by_cases c : 15 < i
    · rw [if_pos c]
    · rw [if_neg c]
      cases s.chip.built <;> rfl
  | new => exact absurd h12 (by dsimp only; decide)
  | undo => exact absurd h12 (by dsimp only; decide)
  | redo => exact absurd h12 (by dsimp only; decide)
  | source a b => exact absurd h12 (by dsimp only; decide)
  | leaf a b w m => exact absurd h12 (by dsimp only; decide)
  | move k a b w m => exact absurd h12 (by dsimp only; decide)
  | drop k => exact absurd h12 (by dsimp only; decide)
  | shape l hl => exact absurd h12 (by dsimp only; decide)
  | plan b => exact absurd h12 (by dsimp only; decide)
  | build => exact absurd h12 (by dsimp only; decide)
  | mend => exact absurd h12 (by dsimp only; decide)
  | retie => exact absurd h12 (by dsimp only; decide)
/-! how many are kept -/
def InvN (s : Lr74.State) : Prop := s.back.length + s.fore.length ≤ 20
theorem invN_start : InvN Lr74.start := by
  show 0 + 0 ≤ 20
  decide
theorem invN_changed (s : Lr74.State) (c : Lr74.Chip) : InvN (Lr74.changed s c) := by
  show ((s.chip :: s.back).take 20).length + 0 ≤ 20
  rw [List.length_take]
  omega
theorem invN_act {s : Lr74.State} (I : InvN s) {c : Cl} {x : Lr74.Call} (h : CallIs c x) : InvN (Lr74.act s x).1 := by
  by_cases c9 : 1 ≤ c.1 ∧ c.1 ≤ 9
  · rcases act_kind (s := s) h c9.1 c9.2 with ⟨v, r, _, _, e⟩ | ⟨v, r, c', _, _, e⟩
    · rw [e]
      exact I
    · rw [e]
      exact invN_changed _ _
  · by_cases c12 : 12 ≤ c.1
    · rw [act_tells h c12]
      exact I
    · cases h with
      | new => exact invN_start
      | undo =>
        show InvN (match s.back with | [] => (s, [-6]) | x :: l => (⟨x, l, s.chip :: s.fore⟩, [Lr71.int l.length]) : Lr74.State × List Int).1
        unfold InvN at I
        cases hb : s.back with
        | nil => exact I
        | cons y l =>
          rw [hb] at I
          show l.length + (s.fore.length + 1) ≤ 20
          have : (y :: l).length = l.length + 1 := rfl
          omega
      | redo =>
        show InvN (match s.fore with | [] => (s, [-6]) | x :: l => (⟨x, s.chip :: s.back, l⟩, [Lr71.int l.length]) : Lr74.State × List Int).1
        unfold InvN at I
        cases hb : s.fore with
        | nil => exact I
        | cons y l =>
          rw [hb] at I
          show s.back.length + 1 + l.length ≤ 20
          have : (y :: l).length = l.length + 1 := rfl
          omega
      | source a b => exact absurd ⟨by dsimp only; decide, by dsimp only; decide⟩ c9
      | leaf a b w m => exact absurd ⟨by dsimp only; decide, by dsimp only; decide⟩ c9
      | move k a b w m => exact absurd ⟨by dsimp only; decide, by dsimp only; decide⟩ c9
      | drop k => exact absurd ⟨by dsimp only; decide, by dsimp only; decide⟩ c9
      | shape l hl => exact absurd ⟨by dsimp only; decide, by dsimp only; decide⟩ c9
      | plan b => exact absurd ⟨by dsimp only; decide, by dsimp only; decide⟩ c9
      | build => exact absurd ⟨by dsimp only; decide, by dsimp only; decide⟩ c9
      | mend => exact absurd ⟨by dsimp only; decide, by dsimp only; decide⟩ c9
      | retie => exact absurd ⟨by dsimp only; decide, by dsimp only; decide⟩ c9
      | told => exact absurd (by dsimp only; decide) c12
      | sums => exact absurd (by dsimp only; decide) c12
      | ends => exact absurd (by dsimp only; decide) c12
      | when_ k => exact absurd (by dsimp only; decide) c12
      | joint k => exact absurd (by dsimp only; decide) c12
      | short => exact absurd (by dsimp only; decide) c12
      | anew => exact absurd (by dsimp only; decide) c12
      | ticking i => exact absurd (by dsimp only; decide) c12
end CM
set_option linter.all false
set_option autoImplicit false
/-! The mirror held against the specification, twelfth part: no answer is long. -/
namespace CM
open Lr72 (Tree Leaf Laid leavesOf sum lay shapeOf laidJoints joints wireOf)
def Sh (z : Lr74.State × List Int) : Prop := z.2.length ≤ 20
theorem sh_ite {q : Prop} [Decidable q] {a b : Lr74.State × List Int} (h1 : Sh a) (h2 : Sh b) : Sh (if q then a else b) := by
  by_cases c : q
  · rw [if_pos c]
    exact h1
  · rw [if_neg c]
    exact h2
theorem sh1 {s : Lr74.State} {v : Int} : Sh (s, [v]) := by unfold Sh; simp
theorem sh2 {s : Lr74.State} {v w : Int} : Sh (s, [v, w]) := by unfold Sh; simp
theorem sh3 {s : Lr74.State} {v w u : Int} : Sh (s, [v, w, u]) := by unfold Sh; simp
theorem sh5 {s : Lr74.State} {v w u x y : Int} : Sh (s, [v, w, u, x, y]) := by unfold Sh; simp
theorem sh_wb {s : Lr74.State} {f : Lr74.Built → Lr74.State × List Int} (h : ∀ b, Sh (f b)) : Sh (Lr74.withBuilt s f) := by
  unfold Lr74.withBuilt
  cases s.chip.built with
  | none => exact sh1
  | some b => exact h b
theorem act_len {s : Lr74.State} (I : InvS s) (x : Lr74.Call) : Sh (Lr74.act s x) := by
  cases x with
  | new => exact sh1
  | source p => exact sh_ite sh1 sh1
  | leaf p w m => exact sh_ite sh1 (sh_ite sh1 sh1)
  | move k p w m => exact sh_ite sh1 (sh_ite sh1 sh1)
  | drop k => exact sh_ite sh1 sh1
  | shape l =>
    refine sh_ite sh1 ?_
    show Sh (match Lr72.treeOf s.chip.leaves.length l with | none => (s, [-22]) | some t => (Lr74.changed s { s.chip with plan := some t }, [0]) : Lr74.State × List Int)
    cases Lr72.treeOf s.chip.leaves.length l <;> exact sh1
  | plan b =>
    refine sh_ite sh1 (sh_ite sh1 (sh_ite sh1 ?_))
    show Sh (match (if b = 0 then Lr72.best s.chip.leaves (Lr72.allShapes s.chip.leaves.length) else Lr73.least s.chip.leaves s.chip.needs (Lr72.allShapes s.chip.leaves.length)) with | none => (s, [-16]) | some t => (Lr74.changed s { s.chip with plan := some t }, [(Lr72.sum s.chip.leaves t).wire, (Lr72.sum s.chip.leaves t).time, Lr73.power s.chip.leaves s.chip.needs t]) : Lr74.State × List Int)
    cases (if b = 0 then Lr72.best s.chip.leaves (Lr72.allShapes s.chip.leaves.length) else Lr73.least s.chip.leaves s.chip.needs (Lr72.allShapes s.chip.leaves.length)) with
    | none => exact sh1
    | some t => exact sh3
  | build =>
    show Sh (match s.chip.plan with | none => (s, [-16]) | some t => (Lr74.changed s { s.chip with built := some (Lr74.build s.chip t) }, [(Lr74.build s.chip t).wire]) : Lr74.State × List Int)
    cases s.chip.plan <;> exact sh1
  | mend => exact sh_wb fun b => sh1
  | retie => exact sh_wb fun b => sh1
  | undo =>
    show Sh (match s.back with | [] => (s, [-6]) | x :: l => (⟨x, l, s.chip :: s.fore⟩, [Lr71.int l.length]) : Lr74.State × List Int)
    cases s.back <;> exact sh1
  | redo =>
    show Sh (match s.fore with | [] => (s, [-6]) | x :: l => (⟨x, s.chip :: s.back, l⟩, [Lr71.int l.length]) : Lr74.State × List Int)
    cases s.fore <;> exact sh1
  | told =>
    show Sh (match s.chip.plan with | none => (s, [-16]) | some t => (s, Lr71.int (Lr72.pairsOf s.chip.leaves.length t).length :: (Lr72.pairsOf s.chip.leaves.length t).map Lr71.int) : Lr74.State × List Int)
    cases hp : s.chip.plan with
    | none => exact sh1
    | some t =>
      have q := (I.chip.plan t hp).2
      have h1 : (prs t s.chip.leaves.length).1.length + 1 = s.chip.leaves.length := by rw [prs_len, ← leaves_len, q.length_eq, List.length_range]
      have h8 := I.chip.few
      unfold Sh
      show ((Lr72.pairsOf s.chip.leaves.length t).map Lr71.int).length + 1 ≤ 20
      rw [List.length_map, (told_eq t s.chip.leaves.length).1]
      omega
  | sums => exact sh_wb fun b => sh3
  | ends => exact sh_wb fun b => sh2
  | when_ k =>
    refine sh_wb fun b => ?_
    cases Lr74.whenAt s.chip.leaves k b.tree <;> exact sh1
  | joint k =>
    refine sh_wb fun b => ?_
    cases (laidJoints b.tree)[k]? with
    | none => exact sh1
    | some z => exact sh5
  | short => exact sh_wb fun b => sh1
  | anew =>
    refine sh_wb fun b => ?_
    cases s.chip.plan with
    | none => exact sh1
    | some t => exact sh2
  | ticking i => exact sh_ite sh1 (sh_wb fun b => sh1)
theorem enc_pos (c : Cl) : 0 < (encC c).length := by
  unfold encC
  split <;> simp
end CM
set_option Elab.async false
set_option maxRecDepth 100000
set_option maxHeartbeats 4000000
set_option linter.all false
set_option autoImplicit false
namespace Clk
open PySem PySem.Spec PyProof.Rows L2
/-! ### 1. What a value stands for in a heap -/
abbrev Rp := V → Hp → Prop
/-- it stays so while what is tracked stays -/
class Mn (R : Rp) : Prop where
  mn : ∀ {v : V} {H H' : Hp}, Same H H' → R v H → R v H'
def IsV (x : V) : Rp := fun v _ => v = x
abbrev IsI (i : Int) : Rp := IsV (.int i)
abbrev IsB (b : Bool) : Rp := IsV (.bl b)
instance {x : V} : Mn (IsV x) := ⟨fun _ h => h⟩
def IsT (xs : List V) : Rp := fun v H => ∃ a, v = .ref a ∧ H a = some (.tup xs)
def IsL (xs : List V) : Rp := fun v H => ∃ a, v = .ref a ∧ H a = some (.lst xs)
instance {xs : List V} : Mn (IsT xs) := ⟨fun s ⟨a, e, h⟩ => ⟨a, e, s _ _ h⟩⟩
instance {xs : List V} : Mn (IsL xs) := ⟨fun s ⟨a, e, h⟩ => ⟨a, e, s _ _ h⟩⟩
/-- the items of vs stand for xs, one by one -/
def Each {α : Type} (R : α → Rp) (H : Hp) : List V → List α → Prop
  | [], [] => True
  | v :: vs, x :: xs => R x v H ∧ Each R H vs xs
  | _, _ => False
section
variable {α : Type} {R : α → Rp} {H H' : Hp}
theorem Each.length : ∀ {vs : List V} {xs : List α}, Each R H vs xs → vs.length = xs.length
  | [], [], _ => rfl
  | _ :: _, _ :: _, h => congrArg (· + 1) (Each.length h.2)
  | [], _ :: _, h => h.elim
  | _ :: _, [], h => h.elim
theorem Each.get : ∀ {vs : List V} {xs : List α} {i : Nat} {x : α}, Each R H vs xs → xs[i]? = some x → ∃ v, vs[i]? = some v ∧ R x v H
  | _ :: _, _ :: _, 0, x, h, e => ⟨_, rfl, by cases e; exact h.1⟩
  | _ :: _, _ :: _, i + 1, x, h, e => Each.get (i := i) h.2 e
  | [], [], _, _, _, e => by simp at e
  | [], _ :: _, _, _, h, _ => h.elim
  | _ :: _, [], _, _, h, _ => h.elim
theorem Each.getV : ∀ {vs : List V} {xs : List α} {i : Nat} {v : V}, Each R H vs xs → vs[i]? = some v → ∃ x, xs[i]? = some x ∧ R x v H
  | _ :: _, _ :: _, 0, x, h, e => ⟨_, rfl, by cases e; exact h.1⟩
  | _ :: _, _ :: _, i + 1, x, h, e => Each.getV (i := i) h.2 e
  | [], [], _, _, _, e => by simp at e
  | [], _ :: _, _, _, h, _ => h.elim
  | _ :: _, [], _, _, h, _ => h.elim
theorem Each.imp {β : Type} {R' : β → Rp} : ∀ {vs : List V} {xs : List α} {ys : List β}, Each R H vs xs → xs.length = ys.length → (∀ (i : Nat) v x y, xs[i]? = some x → ys[i]? = some y → R x v H → R' y v H') → Each R' H' vs ys
  | [], [], [], _, _, _ => trivial
  | v :: vs, x :: xs, y :: ys, h, e, k => ⟨k 0 v x y rfl rfl h.1, Each.imp h.2 (by simpa using e) fun i v x y e1 e2 => k (i + 1) v x y e1 e2⟩
  | [], [], _ :: _, _, e, _ => by simp at e
  | _ :: _, _ :: _, [], _, e, _ => by simp at e
  | [], _ :: _, _, h, _, _ => h.elim
  | _ :: _, [], _, h, _, _ => h.elim
theorem Each.to {R' : α → Rp} {vs : List V} {xs : List α} (h : Each R H vs xs) (k : ∀ v x, R x v H → R' x v H') : Each R' H' vs xs :=
  h.imp rfl fun i v x y e1 e2 q => by rw [e1] at e2; cases e2; exact k v x q
theorem Each.mn [m : ∀ x, Mn (R x)] {vs : List V} {xs : List α} (s : Same H H') (h : Each R H vs xs) : Each R H' vs xs := h.to fun _ x q => (m x).mn s q
theorem Each.append : ∀ {vs ws : List V} {xs ys : List α}, Each R H vs xs → Each R H ws ys → Each R H (vs ++ ws) (xs ++ ys)
  | [], _, [], _, _, k => k
  | _ :: _, _, _ :: _, _, h, k => ⟨h.1, Each.append h.2 k⟩
  | [], _, _ :: _, _, h, _ => h.elim
  | _ :: _, _, [], _, h, _ => h.elim
theorem Each.snoc {vs : List V} {xs : List α} {v : V} {x : α} (h : Each R H vs xs) (k : R x v H) : Each R H (vs ++ [v]) (xs ++ [x]) := h.append ⟨k, trivial⟩
theorem Each.take : ∀ {vs : List V} {xs : List α} (n : Nat), Each R H vs xs → Each R H (vs.take n) (xs.take n)
  | _, _, 0, _ => trivial
  | [], [], _ + 1, _ => trivial
  | _ :: _, _ :: _, n + 1, h => ⟨h.1, Each.take n h.2⟩
  | [], _ :: _, _, h => h.elim
  | _ :: _, [], _, h => h.elim
theorem Each.drop : ∀ {vs : List V} {xs : List α} (n : Nat), Each R H vs xs → Each R H (vs.drop n) (xs.drop n)
  | _, _, 0, h => h
  | [], [], _ + 1, _ => trivial
  | _ :: _, _ :: _, n + 1, h => Each.drop n h.2
  | [], _ :: _, _, h => h.elim
  | _ :: _, [], _, h => h.elim
theorem Each.ints : ∀ {vs : List V} {xs : List Int}, Each (fun i => IsI i) H vs xs → vs = xs.map V.int
  | [], [], _ => rfl
  | _ :: _, _ :: _, h => by
    obtain ⟨h1, h2⟩ := h
    rw [Each.ints h2, show _ = _ from h1]
    rfl
  | [], _ :: _, h => h.elim
  | _ :: _, [], h => h.elim
theorem Each.of_ints : ∀ (xs : List Int), Each (fun i => IsI i) H (xs.map V.int) xs
  | [] => trivial
  | _ :: r => ⟨rfl, Each.of_ints r⟩
end
/-- a tuple, a list whose items stand for xs -/
def TupOf {α : Type} (R : α → Rp) (xs : List α) : Rp := fun v H => ∃ a vs, v = .ref a ∧ H a = some (.tup vs) ∧ Each R H vs xs
def LstOf {α : Type} (R : α → Rp) (xs : List α) : Rp := fun v H => ∃ a vs, v = .ref a ∧ H a = some (.lst vs) ∧ Each R H vs xs
instance {α : Type} {R : α → Rp} {xs : List α} [∀ x, Mn (R x)] : Mn (TupOf R xs) := ⟨fun s ⟨a, vs, e, h, k⟩ => ⟨a, vs, e, s _ _ h, k.mn s⟩⟩
instance {α : Type} {R : α → Rp} {xs : List α} [∀ x, Mn (R x)] : Mn (LstOf R xs) := ⟨fun s ⟨a, vs, e, h, k⟩ => ⟨a, vs, e, s _ _ h, k.mn s⟩⟩
/-- arguments, one by one -/
def Alls : List Rp → List V → Hp → Prop
  | [], [], _ => True
  | R :: Rs, v :: vs, H => R v H ∧ Alls Rs vs H
  | _, _, _ => False
theorem Alls.length : ∀ {Rs : List Rp} {vs : List V} {H : Hp}, Alls Rs vs H → vs.length = Rs.length
  | [], [], _, _ => rfl
  | _ :: _, _ :: _, _, h => congrArg (· + 1) (Alls.length h.2)
  | [], _ :: _, _, h => h.elim
  | _ :: _, [], _, h => h.elim
section
variable {R1 R2 R3 R4 R5 R6 R7 : Rp} {vs : List V} {H : Hp}
theorem alls1 (h : Alls [R1] vs H) : ∃ v1, vs = [v1] ∧ R1 v1 H := match vs, h with | [a], h => ⟨a, rfl, h.1⟩
theorem alls2 (h : Alls [R1, R2] vs H) : ∃ v1 v2, vs = [v1, v2] ∧ R1 v1 H ∧ R2 v2 H := match vs, h with | [a, b], h => ⟨a, b, rfl, h.1, h.2.1⟩
theorem alls3 (h : Alls [R1, R2, R3] vs H) : ∃ v1 v2 v3, vs = [v1, v2, v3] ∧ R1 v1 H ∧ R2 v2 H ∧ R3 v3 H := match vs, h with | [a, b, c], h => ⟨a, b, c, rfl, h.1, h.2.1, h.2.2.1⟩
theorem alls4 (h : Alls [R1, R2, R3, R4] vs H) : ∃ v1 v2 v3 v4, vs = [v1, v2, v3, v4] ∧ R1 v1 H ∧ R2 v2 H ∧ R3 v3 H ∧ R4 v4 H := match vs, h with | [a, b, c, d], h => ⟨a, b, c, d, rfl, h.1, h.2.1, h.2.2.1, h.2.2.2.1⟩
theorem alls5 (h : Alls [R1, R2, R3, R4, R5] vs H) : ∃ v1 v2 v3 v4 v5, vs = [v1, v2, v3, v4, v5] ∧ R1 v1 H ∧ R2 v2 H ∧ R3 v3 H ∧ R4 v4 H ∧ R5 v5 H := match vs, h with | [a, b, c, d, e], h => ⟨a, b, c, d, e, rfl, h.1, h.2.1, h.2.2.1, h.2.2.2.1, h.2.2.2.2.1⟩
theorem alls6 (h : Alls [R1, R2, R3, R4, R5, R6] vs H) : ∃ v1 v2 v3 v4 v5 v6, vs = [v1, v2, v3, v4, v5, v6] ∧ R1 v1 H ∧ R2 v2 H ∧ R3 v3 H ∧ R4 v4 H ∧ R5 v5 H ∧ R6 v6 H := match vs, h with | [a, b, c, d, e, f], h => ⟨a, b, c, d, e, f, rfl, h.1, h.2.1, h.2.2.1, h.2.2.2.1, h.2.2.2.2.1, h.2.2.2.2.2.1⟩
theorem alls7 (h : Alls [R1, R2, R3, R4, R5, R6, R7] vs H) : ∃ v1 v2 v3 v4 v5 v6 v7, vs = [v1, v2, v3, v4, v5, v6, v7] ∧ R1 v1 H ∧ R2 v2 H ∧ R3 v3 H ∧ R4 v4 H ∧ R5 v5 H ∧ R6 v6 H ∧ R7 v7 H := match vs, h with | [a, b, c, d, e, f, g], h => ⟨a, b, c, d, e, f, g, rfl, h.1, h.2.1, h.2.2.1, h.2.2.2.1, h.2.2.2.2.1, h.2.2.2.2.2.1, h.2.2.2.2.2.2.1⟩
end
/-! ### 2. What an expression gives -/
def EvR (te : TE) (σ : L2.St) (H : Hp) (R : Rp) : Prop := ∀ H1, Same H H1 → ∀ Q : VK, (∀ v H2, Same H1 H2 → R v H2 → Q v H2) → te σ H1 Q
def EvA (ta : TA) (σ : L2.St) (H : Hp) (Rs : List Rp) : Prop := ∀ H1, Same H H1 → ∀ Q : List V → Hp → Prop, (∀ vs H2, Same H1 H2 → Alls Rs vs H2 → Q vs H2) → ta σ H1 Q
def EvT (tt : TT) (σ : L2.St) (H : Hp) (b : Bool) : Prop := ∀ H1, Same H H1 → ∀ Q : Bool → Hp → Prop, (∀ H2, Same H1 H2 → Q b H2) → tt σ H1 Q
def EvO (to : TO) (σ : L2.St) (H : Hp) (o : Option Int) : Prop := ∀ H1, Same H H1 → ∀ Q : Option Int → Hp → Prop, (∀ H2, Same H1 H2 → Q o H2) → to σ H1 Q
section
variable {σ : L2.St} {H H' : Hp} {R R' R1 S2 : Rp} {ta tb te : TE} {K : PySem.W.Frag}
theorem EvR.mono (s : Same H H') (h : EvR te σ H R) : EvR te σ H' R := fun H1 a => h H1 (s.trans a)
theorem EvT.mono {t : TT} {b : Bool} (s : Same H H') (h : EvT t σ H b) : EvT t σ H' b := fun H1 a => h H1 (s.trans a)
theorem EvR.to (h : EvR te σ H R) (k : ∀ v H', Same H H' → R v H' → R' v H') : EvR te σ H R' := fun H1 s Q q => h H1 s Q fun v H2 s2 r => q v H2 s2 (k v H2 (s.trans s2) r)
theorem er_is {x y : V} (h : EvR te σ H (IsV x)) (e : x = y) : EvR te σ H (IsV y) := e ▸ h
theorem er_var [Mn R] {i : Nat} {v : V} (h : σ[i]? = some (some v)) (r : R v H) : EvR (tVar i) σ H R := fun H1 s _ q => ⟨v, h, q v H1 (Same.refl _) (Mn.mn s r)⟩
theorem er_v {i : Nat} {v : V} (h : σ[i]? = some (some v)) : EvR (tVar i) σ H (IsV v) := er_var h rfl
theorem er_c {v : V} : EvR (tC v) σ H (IsV v) := fun H1 _ _ q => q v H1 (Same.refl _) rfl
/-- two parts, then what is made of them -/
theorem er_two [Mn R1] {r : R2} (ha : EvR ta σ H R1) (hb : EvR tb σ H S2) (hr : ∀ x y H1, Same H H1 → R1 x H1 → S2 y H1 → ∀ Q : VK, (∀ v H2, Same H1 H2 → R v H2 → Q v H2) → r x y H1 Q) : EvR (tOp r ta tb) σ H R := fun H1 s Q q =>
  ha H1 s _ fun x H2 s2 rx => hb H2 (s.trans s2) _ fun y H3 s3 ry => hr x y H3 ((s.trans s2).trans s3) (Mn.mn s3 rx) ry Q fun v H4 s4 rv => q v H4 ((s2.trans s3).trans s4) rv
theorem er_I0 {g : Int → Int → V} {i j : Int} (ha : EvR ta σ H (IsI i)) (hb : EvR tb σ H (IsI j)) : EvR (tOp (rI0 g) ta tb) σ H (IsV (g i j)) :=
  er_two ha hb fun _ _ H1 _ ex ey _ q => ⟨i, j, ex, ey, q _ H1 (Same.refl _) rfl⟩
theorem er_I {C : Int → Int → Prop} {g : Int → Int → V} {i j : Int} (ha : EvR ta σ H (IsI i)) (hb : EvR tb σ H (IsI j)) (hc : C i j) : EvR (tOp (rI C g) ta tb) σ H (IsV (g i j)) :=
  er_two ha hb fun _ _ H1 _ ex ey _ q => ⟨i, j, ex, ey, hc, q _ H1 (Same.refl _) rfl⟩
theorem er_neg {i : Int} (ha : EvR ta σ H (IsI i)) : EvR (tUn (rU fun i => .int (-i)) ta) σ H (IsI (-i)) := fun H1 s _ q => ha H1 s _ fun x H2 s2 ex => ⟨i, ex, q _ H2 s2 rfl⟩
theorem er_eqI {i j : Int} (ha : EvR ta σ H (IsI i)) (hb : EvR tb σ H (IsI j)) : EvR (tOp rEq ta tb) σ H (IsB (decide (i = j))) :=
  er_two ha hb fun x y H1 _ ex ey _ q => by
    obtain rfl : x = .int i := ex
    obtain rfl : y = .int j := ey
    refine ⟨rfl, q _ H1 (Same.refl _) ?_⟩
    exact congrArg V.bl (decide_eq_decide.mpr ⟨fun e => by cases e; rfl, fun e => by rw [e]⟩)
theorem er_neI {i j : Int} (ha : EvR ta σ H (IsI i)) (hb : EvR tb σ H (IsI j)) : EvR (tOp rNe ta tb) σ H (IsB (decide (i ≠ j))) :=
  er_two ha hb fun x y H1 _ ex ey _ q => by
    obtain rfl : x = .int i := ex
    obtain rfl : y = .int j := ey
    refine ⟨rfl, q _ H1 (Same.refl _) ?_⟩
    refine congrArg V.bl ?_
    by_cases e : i = j
    · subst e
      rw [decide_eq_true rfl, decide_eq_false (fun h => h rfl)]
      rfl
    · rw [decide_eq_false (fun z => e (by cases z; rfl)), decide_eq_true e]
      rfl
/-- an item by its place -/
theorem er_ixT {α : Type} {Q : α → Rp} {xs : List α} {i : Int} {j : Nat} {x : α} (ha : EvR ta σ H (TupOf Q xs)) [∀ x, Mn (Q x)] (hb : EvR tb σ H (IsI i)) (hi : i = (j : Int)) (hx : xs[j]? = some x) : EvR (tOp (rIx K) ta tb) σ H (Q x) :=
  er_two ha hb fun _ _ H1 _ ⟨a, vs, ea, ht, k⟩ ey _ q => by
    obtain ⟨v, hv, r⟩ := k.get hx
    exact .inr (.inl ⟨a, vs, i, v, ea, ey, SqT.of ht, at_of hi hv, q v H1 (Same.refl _) r⟩)
theorem er_ixL {α : Type} {Q : α → Rp} {xs : List α} {i : Int} {j : Nat} {x : α} (ha : EvR ta σ H (LstOf Q xs)) [∀ x, Mn (Q x)] (hb : EvR tb σ H (IsI i)) (hi : i = (j : Int)) (hx : xs[j]? = some x) : EvR (tOp (rIx K) ta tb) σ H (Q x) :=
  er_two ha hb fun _ _ H1 _ ⟨a, vs, ea, ht, k⟩ ey _ q => by
    obtain ⟨v, hv, r⟩ := k.get hx
    exact .inl ⟨a, vs, i, v, ea, ey, SqL.of ht, at_of hi hv, q v H1 (Same.refl _) r⟩
theorem er_ixV {xs : List V} {i : Int} {j : Nat} {v : V} (ha : EvR ta σ H (IsT xs)) (hb : EvR tb σ H (IsI i)) (hi : i = (j : Int)) (hx : xs[j]? = some v) : EvR (tOp (rIx K) ta tb) σ H (IsV v) :=
  er_two ha hb fun _ _ H1 _ ⟨a, ea, ht⟩ ey _ q => .inr (.inl ⟨a, xs, i, v, ea, ey, SqT.of ht, at_of hi hx, q v H1 (Same.refl _) rfl⟩)
/-- an attribute -/
def Fld (K : PySem.W.Frag) (R : Rp) (f : Str) (R' : Rp) : Prop := ∀ v H, R v H → ∃ a C dx fs w, v = V.ref a ∧ H a = some (.ins C dx fs) ∧ Cls K C ∧ NoAttr K C f ∧ fs.lookup f = some w ∧ R' w H
theorem er_fld {f : Str} (ha : EvR ta σ H R) (hf : Fld K R f R') : EvR (tFld K ta f) σ H R' := fun H1 s Q q => ha H1 s _ fun x H2 s2 rx => by
  obtain ⟨a, C, dx, fs, w, e, h, c, n, l, r⟩ := hf x H2 rx
  exact ⟨a, C, dx, fs, w, e, h, c, n, l, q w H2 s2 r⟩
/-! arguments, displays, calls -/
theorem ea_nil : EvA tNil σ H [] := fun H1 _ _ q => q [] H1 (Same.refl _) trivial
theorem ea_cons [Mn R] {tr : TA} {Rs : List Rp} (h : EvR te σ H R) (hr : EvA tr σ H Rs) : EvA (tCons te tr) σ H (R :: Rs) := fun H1 s _ q =>
  h H1 s _ fun v H2 s2 r => hr H2 (s.trans s2) _ fun vs H3 s3 rs => q (v :: vs) H3 (s2.trans s3) ⟨Mn.mn s3 r, rs⟩
theorem same_new {H : Hp} {p : Addr} (h : H p = none) (o : HO) : Same H (upd H p o) := fun b u q => by rw [upd_ne (ne_of_none q h)]; exact q
/-- written tuples, written lists -/
theorem er_tup {tr : TA} {Rs : List Rp} (h : EvA tr σ H Rs) (hl : Rs.length ≤ 100) (k : ∀ v vs a H', v = V.ref a → H' a = some (.tup vs) → (∃ H0, Same H H0 ∧ H0 a = none ∧ Alls Rs vs H0 ∧ H' = upd H0 a (.tup vs)) → R v H') : EvR (tTup tr) σ H R := fun H1 s Q q =>
  h H1 s _ fun vs H2 s2 rs => ⟨Nat.le_trans (by rw [rs.length]; exact hl) (by decide : 100 ≤ sizeLine), fun p hp => q _ _ (s2.trans (same_new hp _)) (k _ vs p _ rfl upd_same ⟨H2, s.trans s2, hp, rs, rfl⟩)⟩
theorem er_lst {tr : TA} {Rs : List Rp} (h : EvA tr σ H Rs) (hl : Rs.length ≤ 100) (k : ∀ v vs a H', v = V.ref a → H' a = some (.lst vs) → (∃ H0, Same H H0 ∧ H0 a = none ∧ Alls Rs vs H0 ∧ H' = upd H0 a (.lst vs)) → R v H') : EvR (tLst tr) σ H R := fun H1 s Q q =>
  h H1 s _ fun vs H2 s2 rs => ⟨Nat.le_trans (by rw [rs.length]; exact hl) (by decide : 100 ≤ sizeLine), fun p hp => q _ _ (s2.trans (same_new hp _)) (k _ vs p _ rfl upd_same ⟨H2, s.trans s2, hp, rs, rfl⟩)⟩
theorem alls_vals : ∀ {xs vs : List V} {H : Hp}, Alls (xs.map IsV) vs H → vs = xs
  | [], [], _, _ => rfl
  | x :: xs, v :: vs, _, h => by
    rw [show v = x from h.1, alls_vals h.2]
  | [], _ :: _, _, h => h.elim
  | _ :: _, [], _, h => h.elim
/-- a written tuple of plain values -/
theorem er_tupV {tr : TA} {xs : List V} (h : EvA tr σ H (xs.map IsV)) (hl : xs.length ≤ 100 := by simp) : EvR (tTup tr) σ H (IsT xs) :=
  er_tup h (by rw [List.length_map]; exact hl) fun v vs a H' e h' ⟨_, _, _, r, _⟩ => ⟨a, e, by rw [← alls_vals r]; exact h'⟩
theorem er_lstV {tr : TA} {xs : List V} (h : EvA tr σ H (xs.map IsV)) (hl : xs.length ≤ 100 := by simp) : EvR (tLst tr) σ H (IsL xs) :=
  er_lst h (by rw [List.length_map]; exact hl) fun v vs a H' e h' ⟨_, _, _, r, _⟩ => ⟨a, e, by rw [← alls_vals r]; exact h'⟩
theorem er_t2 {x y : V} (h1 : EvR ta σ H (IsV x)) (h2 : EvR tb σ H (IsV y)) : EvR (tTup (tCons ta (tCons tb tNil))) σ H (IsT [x, y]) := er_tupV (xs := [x, y]) (ea_cons h1 (ea_cons h2 ea_nil))
theorem er_t4 {tc td : TE} {x y z u : V} (h1 : EvR ta σ H (IsV x)) (h2 : EvR tb σ H (IsV y)) (h3 : EvR tc σ H (IsV z)) (h4 : EvR td σ H (IsV u)) : EvR (tTup (tCons ta (tCons tb (tCons tc (tCons td tNil))))) σ H (IsT [x, y, z, u]) :=
  er_tupV (xs := [x, y, z, u]) (ea_cons h1 (ea_cons h2 (ea_cons h3 (ea_cons h4 ea_nil))))
theorem er_l1 {x : V} (h1 : EvR ta σ H (IsV x)) : EvR (tLst (tCons ta tNil)) σ H (IsL [x]) := er_lstV (xs := [x]) (ea_cons h1 ea_nil)
theorem er_l3 {tc : TE} {x y z : V} (h1 : EvR ta σ H (IsV x)) (h2 : EvR tb σ H (IsV y)) (h3 : EvR tc σ H (IsV z)) : EvR (tLst (tCons ta (tCons tb (tCons tc tNil)))) σ H (IsL [x, y, z]) := er_lstV (xs := [x, y, z]) (ea_cons h1 (ea_cons h2 (ea_cons h3 ea_nil)))
/-- a promise of a def that changes nothing: of each i, if P i holds and the arguments are A i, the answer is R i -/
def SpOf {ι : Type} (P : ι → Prop) (A : ι → List Rp) (R : ι → Rp) : Sp := fun vs H Q _ => ∃ i, P i ∧ Alls (A i) vs H ∧ ∀ v H', Same H H' → R i v H' → Q v H'
theorem er_call {ι : Type} {P : ι → Prop} {A : ι → List Rp} {R : ι → Rp} {E : XK} {t : TA} (i : ι) (hp : P i) (h : EvA t σ H (A i)) : EvR (tCall (SpOf P A R) [] E t) σ H (R i) := fun H1 s Q q =>
  h H1 s _ fun vs H2 s2 rs => ⟨i, hp, by rw [List.append_nil]; exact rs, fun v H3 s3 r => q v H3 (s2.trans s3) r⟩
/-- built-ins on plain values -/
theorem er_cb {r : List V → Hp → VK → Prop} {t : TA} {xs : List V} {z : V} (h : EvA t σ H (xs.map IsV)) (hr : ∀ H1, Same H H1 → ∀ Q : VK, Q z H1 → r xs H1 Q) : EvR (tCB r t) σ H (IsV z) := fun H1 s Q q =>
  h H1 s _ fun vs H2 s2 rs => by
    rw [alls_vals rs]
    exact hr H2 (s.trans s2) Q (q z H2 s2 rfl)
theorem er_ifE {t : TT} {b : Bool} (h : EvT t σ H b) (h1 : b = true → EvR ta σ H R) (h2 : b = false → EvR tb σ H R) : EvR (tIf t ta tb) σ H R := fun H1 s Q q => h H1 s _ fun H2 s2 => by
  cases b with
  | true => exact h1 rfl H2 (s.trans s2) Q fun v H3 s3 r => q v H3 (s2.trans s3) r
  | false => exact h2 rfl H2 (s.trans s2) Q fun v H3 s3 r => q v H3 (s2.trans s3) r
theorem er_and {a b : Bool} (h1 : EvR ta σ H (IsB a)) (h2 : a = true → EvR tb σ H (IsB b)) : EvR (tAndV ta tb) σ H (IsB (a && b)) := fun H1 s Q q => h1 H1 s _ fun x H2 s2 ex => ⟨a, ex, by
  cases a with
  | true => exact h2 rfl H2 (s.trans s2) Q fun v H3 s3 r => q v H3 (s2.trans s3) r
  | false => exact q _ H2 s2 rfl⟩
/-! tests -/
theorem et_test {b : Bool} (h : EvR te σ H (IsB b)) : EvT (tTest te) σ H b := fun H1 s _ q => h H1 s _ fun x H2 s2 ex => ⟨b, ex, q H2 s2⟩
theorem et_B {b : Bool} (h : EvR te σ H (IsB b)) : EvT (tB te) σ H b := fun H1 s _ q => h H1 s _ fun x H2 s2 ex => ⟨b, ex, q H2 s2⟩
theorem et_not {t : TT} {b : Bool} (h : EvT t σ H b) : EvT (tNot t) σ H (!b) := fun H1 s _ q => h H1 s _ fun H2 s2 => q H2 s2
theorem et_or {t u : TT} {a b : Bool} (h1 : EvT t σ H a) (h2 : a = false → EvT u σ H b) : EvT (tOr t u) σ H (a || b) := fun H1 s Q q => h1 H1 s _ fun H2 s2 => by
  cases a with
  | true => exact q H2 s2
  | false => exact h2 rfl H2 (s.trans s2) Q fun H3 s3 => q H3 (s2.trans s3)
theorem et_and {t u : TT} {a b : Bool} (h1 : EvT t σ H a) (h2 : a = true → EvT u σ H b) : EvT (tAnd t u) σ H (a && b) := fun H1 s Q q => h1 H1 s _ fun H2 s2 => by
  cases a with
  | true => exact h2 rfl H2 (s.trans s2) Q fun H3 s3 => q H3 (s2.trans s3)
  | false => exact q H2 s2
theorem et_is {t : TT} {a b : Bool} (h : EvT t σ H a) (e : a = b) : EvT t σ H b := e ▸ h
theorem er_isN {x : V} (ha : EvR ta σ H (IsV x)) {b : Bool} (hb : decide (x = .non) = b) : EvR (tOp (fun x y H Q => y = .non ∧ Q (.bl (decide (x = .non))) H) ta (tC .non)) σ H (IsB b) :=
  er_two (S2 := IsV .non) ha er_c fun y z H1 _ ex ey _ q => ⟨ey, q _ H1 (Same.refl _) (by rw [← hb, show y = x from ex]; rfl)⟩
/-! statements -/
variable {D : Ends} {tu tw : TS} {t : TT}
theorem sr_asg {i : Nat} (h : EvR te σ H R) (k : ∀ v H1, Same H H1 → R v H1 → D.nx (σ.set i (some v)) H1) : tAsg te (gName i) D σ H := h H (Same.refl _) _ fun v H1 s r => k v H1 s r
theorem sq_asg {i : Nat} {u : TS} (h : EvR te σ H R) (k : ∀ v H1, Same H H1 → R v H1 → u D (σ.set i (some v)) H1) : tSeq (tAsg te (gName i)) u D σ H := h H (Same.refl _) _ fun v H1 s r => k v H1 s r
theorem sq_if {u : TS} {b : Bool} (h : EvT t σ H b) (h1 : b = true → ∀ H1, Same H H1 → tu { D with nx := u D } σ H1) (h2 : b = false → ∀ H1, Same H H1 → tw { D with nx := u D } σ H1) : tSeq (tIfS t tu tw) u D σ H := h H (Same.refl _) _ fun H1 s => by
  cases b with
  | true => exact h1 rfl H1 s
  | false => exact h2 rfl H1 s
/-- if t: return ..; the rest -/
theorem sq_ifr {u : TS} {b : Bool} (h : EvT t σ H b) (h1 : b = true → ∀ H1, Same H H1 → tRet te { D with nx := u D } σ H1) (h2 : b = false → ∀ H1, Same H H1 → u D σ H1) : tSeq (tIfS t (tRet te) tNext) u D σ H := h H (Same.refl _) _ fun H1 s => by
  cases b with
  | true => exact h1 rfl H1 s
  | false => exact h2 rfl H1 s
theorem sr_ret (h : EvR te σ H R) (k : ∀ v H1, Same H H1 → R v H1 → D.rt v H1) : tRet te D σ H := h H (Same.refl _) _ k
theorem sr_if {b : Bool} (h : EvT t σ H b) (h1 : b = true → ∀ H1, Same H H1 → tu D σ H1) (h2 : b = false → ∀ H1, Same H H1 → tw D σ H1) : tIfS t tu tw D σ H := h H (Same.refl _) _ fun H1 s => by
  cases b with
  | true => exact h1 rfl H1 s
  | false => exact h2 rfl H1 s
end
/-! ### 3. A def of the text, and what it promises -/
section
variable (P : Program) (w : World) (K : PySem.W.Frag) (mg : Str → Option Value) (base : Heap)
/-- the def st stands under its name -/
def DefAt (x : Str) (st : Stmt) (ps : List Str) : Prop := ∃ f fd, Fun K x x st f fd ∧ mg x = some (.ref f) ∧ Binds K fd ps []
/-- the def under the name x keeps sp, k rooms deep -/
def Cal (k : Nat) (x : Str) (ps : List Str) (sp : Sp) : Prop := ∃ f fd, FnOk P w K mg base CX0 k f fd ps sp ∧ mg x = some (.ref f) ∧ PySem.W.keepIn K (.ref f) = true ∧ Binds K fd ps []
end
section
variable {P : Program} {w : World} {K : PySem.W.Frag} {mg : Str → Option Value} {base : Heap}
theorem Cal.mono {j k : Nat} {x : Str} {ps : List Str} {sp : Sp} (c : Cal P w K mg base j x ps sp) (h : j ≤ k) : Cal P w K mg base k x ps sp :=
  let ⟨f, fd, F, m, kp, b⟩ := c
  ⟨f, fd, F.mono h, m, kp, b⟩
theorem DefAt.ok {x : Str} {st : Stmt} {N ps : List Str} {k : Nat} {sp : Sp} (F : DefAt K mg x st ps) (S : FnScope N ps (defScope st)) (len : ∀ vs H Q E, sp vs H Q E → vs.length = ps.length)
    (hbody : ∀ (f : Addr) (cdv : Value) (A : Around) (outer : List Env) (s : Shared) (H : Hp) (vs : List V) (Q : VK) (E : XK), Room k (A.deeper (envOfC x (defScope st) s.heap.objs.size f cdv)) → sp vs H Q E →
      ∃ t, PSs (cxOf CX0 P w K mg base N x (defScope st) f cdv A outer s H E).nox (defBody st) t ∧ t { nx := fun _ H' => Q .non H', rt := Q } (start N vs) H) : Cal P w K mg base (k + 1) x ps sp := by
  obtain ⟨f, fd, F, m, b⟩ := F
  exact ⟨f, fd, F.ok S len fun cdv A outer s H vs Q E hr h => hbody f cdv A outer s H vs Q E hr h, m, F.kp, b⟩
theorem spOf_len {ι : Type} {P : ι → Prop} {A : ι → List Rp} {R : ι → Rp} {n : Nat} (h : ∀ i, (A i).length = n) : ∀ vs H Q E, SpOf P A R vs H Q E → vs.length = n := fun vs H Q E ⟨i, _, a, _⟩ => a.length.trans (h i)
end
section
variable {X : Cx}
/-- a call of such a def -/
theorem pc {j k : Nat} {x : Str} {ps : List Str} {sp : Sp} {p pos : Pos} {e : Expr} {es : List Expr} {t : TA} (c : Cal X.prog X.w X.K X.mg X.base k x ps sp) (hr : Room j X.A) (ha : PA X (e :: es) t) (hk : k ≤ j := by first | decide | exact Nat.le_refl _ | omega) (hg : Gl X x := by rfl) (hdb : (x == ("__debug__" : Str)) = false := by decide)
    (he : starEach (e :: es) X.env = (false, eval e X.env) :: starEach es X.env := by rfl) (hpl : (backTo pos (starEach es X.env)).any (·.1) = false := by rfl) : PE X (.Call (.Name x p) (e :: es) [] pos) (tCall sp [] E0 t) := by
  obtain ⟨f, fd, F, m, kp, b⟩ := c
  exact pe_call F (hr.mono hk) hg m kp b .nil pass0 ha hdb he hpl
end
/-! ### 4. Built-ins in the words of the specification -/
def rMx : List V → Hp → VK → Prop := fun xs H Q => ∃ i j : Int, xs = [.int i, .int j] ∧ Q (.int (max i j)) H
def rMi : List V → Hp → VK → Prop := fun xs H Q => ∃ i j : Int, xs = [.int i, .int j] ∧ Q (.int (min i j)) H
def rMx3 : List V → Hp → VK → Prop := fun xs H Q => ∃ i j k : Int, xs = [.int i, .int j, .int k] ∧ Q (.int (max (max i j) k)) H
def rAb : List V → Hp → VK → Prop := fun xs H Q => ∃ i : Int, xs = [.int i] ∧ Q (.int (if i < 0 then -i else i)) H
def rLn (K : PySem.W.Frag) : List V → Hp → VK → Prop := fun xs H Q => ∃ p ys, xs = [.ref p] ∧ (SqL K H p ys ∨ SqT K H p ys) ∧ Q (.int ys.length) H
section
variable {X : Cx}
theorem cMax2 (hc : X.calm = true) : CallR X (.builtin "max") rMx := by
  intro pins s σ H xs us Q I r h
  obtain ⟨i, j, e, q⟩ := h
  refine call_max2 hc pins s σ H xs us Q I r ⟨i, j, e, ?_⟩
  have z : max i j = if j > i then j else i := by
    by_cases h : j > i
    · rw [if_pos h]; omega
    · rw [if_neg h]; omega
  rw [← z]
  exact q
theorem cMin2 (hc : X.calm = true) : CallR X (.builtin "min") rMi := by
  intro pins s σ H xs us Q I r h
  obtain ⟨i, j, e, q⟩ := h
  refine call_min2 hc pins s σ H xs us Q I r ⟨i, j, e, ?_⟩
  have z : min i j = if j < i then j else i := by
    by_cases h : j < i
    · rw [if_pos h]; omega
    · rw [if_neg h]; omega
  rw [← z]
  exact q
theorem max2_nu (i j : Int) : nuMax2 (.int i) (.int j) = some (.int (max i j)) := by
  show (some (decide (i < j))).map (fun c => if c = true then V.int j else V.int i) = _
  by_cases h : i < j
  · rw [decide_eq_true h]
    show some (V.int j) = _
    rw [show max i j = j by omega]
  · rw [decide_eq_false h]
    show some (V.int i) = _
    rw [show max i j = i by omega]
theorem cMax3 (hc : X.calm = true) : CallR X (.builtin "max") rMx3 := by
  intro pins s σ H xs us Q I r h
  obtain ⟨i, j, k, e, q⟩ := h
  refine call_max3Nu hc pins s σ H xs us Q I r ⟨_, _, _, _, e, ?_, q⟩
  show (nuMax2 (.int i) (.int j)).bind (fun m => nuMax2 m (.int k)) = _
  rw [max2_nu]
  exact max2_nu _ _
theorem cAbs : CallR X (.builtin "abs") rAb := call_abs
theorem cLen : CallR X (.builtin "len") (rLn X.K) := call_len_seq
/-- a module's constant -/
def GV (mg : Str → Option Value) (x : Str) (v : V) : Prop := ∃ u, mg x = some u ∧ RelV v u
theorem pgl {x : Str} {pos : Pos} {v : V} (h : GV X.mg x v) (hg : Gl X x := by rfl) (hdb : (x == ("__debug__" : Str)) = false := by decide) : PE X (.Name x pos) (tC v) := by
  obtain ⟨u, m, r⟩ := h
  exact pe_glob hg m r hdb
end
section
variable {σ : L2.St} {H : Hp} {ta tb tc : TE} {i j k : Int} {K : PySem.W.Frag}
theorem er_max2 (ha : EvR ta σ H (IsI i)) (hb : EvR tb σ H (IsI j)) : EvR (tCB rMx (tCons ta (tCons tb tNil))) σ H (IsI (max i j)) :=
  er_cb (xs := [.int i, .int j]) (ea_cons ha (ea_cons hb ea_nil)) fun _ _ _ q => ⟨i, j, rfl, q⟩
theorem er_min2 (ha : EvR ta σ H (IsI i)) (hb : EvR tb σ H (IsI j)) : EvR (tCB rMi (tCons ta (tCons tb tNil))) σ H (IsI (min i j)) :=
  er_cb (xs := [.int i, .int j]) (ea_cons ha (ea_cons hb ea_nil)) fun _ _ _ q => ⟨i, j, rfl, q⟩
theorem er_max3 (ha : EvR ta σ H (IsI i)) (hb : EvR tb σ H (IsI j)) (hc : EvR tc σ H (IsI k)) : EvR (tCB rMx3 (tCons ta (tCons tb (tCons tc tNil)))) σ H (IsI (max (max i j) k)) :=
  er_cb (xs := [.int i, .int j, .int k]) (ea_cons ha (ea_cons hb (ea_cons hc ea_nil))) fun _ _ _ q => ⟨i, j, k, rfl, q⟩
theorem er_abs (ha : EvR ta σ H (IsI i)) : EvR (tCB rAb (tCons ta tNil)) σ H (IsI (if i < 0 then -i else i)) :=
  er_cb (xs := [.int i]) (ea_cons ha ea_nil) fun _ _ _ q => ⟨i, rfl, q⟩
theorem er_lenT {α : Type} {Q : α → Rp} {xs : List α} [∀ x, Mn (Q x)] (ha : EvR ta σ H (TupOf Q xs)) : EvR (tCB (rLn K) (tCons ta tNil)) σ H (IsI xs.length) := fun H1 s _ q =>
  ha H1 s _ fun v H2 s2 ⟨a, vs, e, h, r⟩ => ⟨a, vs, by rw [e], .inr (SqT.of h), q _ H2 s2 (by rw [r.length]; rfl)⟩
theorem er_lenL {α : Type} {Q : α → Rp} {xs : List α} [∀ x, Mn (Q x)] (ha : EvR ta σ H (LstOf Q xs)) : EvR (tCB (rLn K) (tCons ta tNil)) σ H (IsI xs.length) := fun H1 s _ q =>
  ha H1 s _ fun v H2 s2 ⟨a, vs, e, h, r⟩ => ⟨a, vs, by rw [e], .inl (SqL.of h), q _ H2 s2 (by rw [r.length]; rfl)⟩
end
end Clk
set_option Elab.async false
set_option maxRecDepth 100000
set_option maxHeartbeats 4000000
set_option linter.all false
set_option autoImplicit false
/-! ### 5. enumerate over a tuple -/
namespace Clk
open PySem PySem.Spec PyProof.Rows L2
abbrev tupIt (t : Addr) : Obj := { cls := .type "tuple_iterator", data := .fields #[.ref t, .int 0 0] }
abbrev enumOf (n : Nat) : Obj := { cls := .type "enumerate", data := .fields #[.none, .bool false, .ref n, rawInt 0, .none, .none] }
theorem en_new (t : Addr) (xs : Array Value) :
    Meets (Builtin.«enumerate.__new__» ⟨[.type "enumerate", .ref t], []⟩) (fun _ R s => s.heap.IsTuple t xs ∧ R (.ok (.ret (.ref (s.heap.push (tupIt t)).objs.size))) { s with heap := (s.heap.push (tupIt t)).push (enumOf s.heap.objs.size) }) :=
  Meets.of_wp fun prog w A R s z => by
    obtain ⟨hh, gg, dd, tt, oo⟩ := s
    obtain ⟨z1, z2⟩ := z
    have sub1 := sub_enumerate
    have go1 : ∀ {A' : Around} {E' : Value → Shared → Prop} {Q' : Value → Shared → Prop}, Q' (.ref hh.objs.size) ⟨hh.push (tupIt t), gg, dd, tt, oo⟩ → wpAny (model prog w) A' (pyIter (.ref t)) Q' E' ⟨hh, gg, dd, tt, oo⟩ :=
      fun q => wpAny_pyIter_tuple z1 q
    wp_walk using go1
    refine wpAny_stack_any fun _ => wpAny_pure ?_
    split
    · rename_i c0 _ _ _ _ _
      cases (c0 == Value.type "enumerate")
      all_goals (wp_walk using go1; exact ⟨_, rfl, z2⟩)
    · (wp_walk using go1; exact ⟨_, rfl, z2⟩)
theorem en_call {prog : Program} {w : World} {A : Around} {E : Value → Shared → Prop} {s : Shared} {t : Addr} {xs : Array Value} {Q : Value → Shared → Prop} (ht : s.heap.IsTuple t xs)
    (q : ∀ h', IsEnum h' (s.heap.objs.size + 1) s.heap.objs.size 0 .none → h'.IsTupleIter s.heap.objs.size t 0 → (∀ b o, s.heap.get? b = some o → h'.get? b = some o) → Q (.ref (s.heap.objs.size + 1)) { s with heap := h' }) : wpAny (model prog w) A (call (.type "enumerate") [.ref t]) Q E s := by
  refine callType_new F.called_enumerate (by decide) (F.typeCall_enumerate_1 _) (F.newCall_enumerate_1 _) (fun ob => F.args_object_init_2 ob _) F.entry_enumerate_new (en_new t xs) ⟨ht, ?_⟩
  have e1 : (s.heap.push (tupIt t)).objs.size = s.heap.objs.size + 1 := Heap.size_push ..
  have e2 := Heap.get?_push_size (s.heap.push (tupIt t)) (o := enumOf s.heap.objs.size) rfl
  show _ ∧ _
  rw [e1] at e2 ⊢
  exact ⟨⟨_, e2, rfl⟩, q _ e2 ⟨_, Heap.get?_push_of_some _ (Heap.get?_push_size _ rfl), rfl, rfl⟩ fun b o y => Heap.get?_push_of_some _ (Heap.get?_push_of_some _ y)⟩
/-- the tuple at a, each item in a new pair -/
def IteT (K : PySem.W.Frag) (a : Addr) : It :=
  ⟨fun i H => ∃ (xs : List V) (x : V), SqT K H a xs ∧ xs[i]? = some x,
   fun i H v H' => ∃ T x, v = .ref T ∧ H T = none ∧ H' = upd H T (.tup [.int (i : Nat), x]) ∧ ∀ xs, SqT K H a xs → xs[i]? = some x,
   fun i H => ∃ xs : List V, SqT K H a xs ∧ xs.length ≤ i⟩
theorem turn_en {P : Program} {w : World} {K : PySem.W.Frag} {es : List Expr} {kk : Nat} {tp : Pos} (a e it : Addr) :
    Turn P w K (.Tuple es kk tp) (IteT K a) [e, it] e (fun i h => (∃ old, IsEnum h e it ((i : Nat) : Int) old) ∧ h.IsTupleIter it a i ∧ e ≠ it ∧ a ≠ it ∧ e ≠ a) where
  mem := List.mem_cons_self ..
  obj := fun i h st b hb => by
    obtain ⟨⟨old, y⟩, ⟨o, y2, _, y3⟩, _⟩ := st
    rcases List.mem_cons.mp hb with z | z
    · subst z
      exact ⟨_, y, fun v q => nomatch q⟩
    · rw [List.mem_singleton.mp z]
      exact ⟨o, y2, fun v q => by rw [y3] at q; cases q⟩
  keep := fun i h h' ⟨⟨old, y⟩, y2, ne⟩ k => ⟨⟨old, k e (List.mem_cons_self ..) _ y⟩, y2.at fun o q => k it (List.mem_cons_of_mem _ (List.mem_singleton.mpr rfl)) o q, ne⟩
  item := by
    intro X hP hw hK hc i pins s σ H E I hf st hg
    subst hP hw hK
    obtain ⟨⟨old, y⟩, y2, ne, ne2, ne3⟩ := st
    obtain ⟨xs, x, hq, hx⟩ := hg
    obtain ⟨us, rv, pt, hz⟩ := I.tuple hq
    obtain ⟨u, hu, ru⟩ := rv.get hx
    have pt' : s.heap.IsTuple a us.toArray := pt
    have hel : e < s.heap.objs.size := Heap.lt_size y
    have hil : it < s.heap.objs.size := by
      obtain ⟨_, q, _⟩ := y2
      exact Heap.lt_size q
    have hi : i < us.toArray.size := by
      rw [List.size_toArray]
      exact (List.getElem?_eq_some_iff.mp hu).1
    refine wpAny_pyNext_enum_itemD (Draws.tuple (prog := X.prog) (w := X.w) (A := X.A.in1) (show X.A.in1.handled = none from I.ok.hd hc) it a ne2 us.toArray) y ⟨y2, pt'⟩ hi ne (fun z => ?_) fun x' h' tk hx' ho st' hT hsz hk => ?_
    · rcases List.mem_cons.mp z with z | z
      · exact ne z
      · exact ne3 (List.mem_singleton.mp z)
    have ex : x' = u := by
      have z : us.toArray[i]? = some u := by simpa using hu
      rw [z] at hx'
      exact (Option.some.inj hx').symm
    subst ex
    refine ⟨_, rfl, wpAny_letOwnedTupleGo_enum (s := { s with heap := h', toks := tk + 1 }) ho fun h2 he2 sb => ?_⟩
    have hT2 := (sb.2 s.heap.objs.size (Nat.ne_of_gt hel)).trans hT
    have nw : ObjOk X.prog X.w (upd H s.heap.objs.size (.tup [.int (i : Nat), x])) h2 s.heap.objs.size (.tup [.int (i : Nat), x]) := ⟨(by decide : 2 ≤ sizeLine), [.int i tk, x'], .cons ⟨_, rfl⟩ (.cons ru .nil), ⟨_, hT2, rfl, _, rfl⟩⟩
    have I1 : Inv X pins σ (upd H s.heap.objs.size (.tup [.int (i : Nat), x])) { s with heap := h2, toks := tk + 1 } :=
      I.turnedNew (ch := [e, it]) (fun b ob nb q => (sb.2 b (fun z => nb (by rw [z]; exact List.mem_cons_self ..))).trans (hk b ob (fun z => nb (by rw [z]; exact List.mem_cons_self ..)) (fun z => nb (by rw [z]; exact List.mem_cons_of_mem _ (List.mem_singleton.mpr rfl))) q)) hf (Nat.le_refl _) nw
    refine ⟨.ref s.heap.objs.size, _, I1, rfl, ⟨_, x, rfl, I.hok.fresh (Nat.le_refl _), rfl, fun ys hy => by rw [I.tuple_inj hy hq]; exact hx⟩, ⟨⟨x', ?_⟩, st'.1.at fun o q => (sb.2 it (Ne.symm ne)).trans q, ne, ne2, ne3⟩, fun b hb => ?_⟩
    · have e1 : ((i + 1 : Nat) : Int) = (i : Int) + 1 := by omega
      rw [e1]
      exact he2
    · have lt : b < s.heap.objs.size := by
        rcases List.mem_cons.mp hb with z | z
        · rw [z]; exact hel
        · rw [List.mem_singleton.mp z]; exact hil
      rw [upd_ne (Nat.ne_of_lt lt)]
      exact (hf b hb).1
  done := by
    intro X hP hw hK hc i pins s σ H E I hf st hg
    subst hP hw hK
    obtain ⟨⟨old, y⟩, y2, ne, ne2, ne3⟩ := st
    obtain ⟨xs, hq, hx⟩ := hg
    obtain ⟨us, rv, pt, hz⟩ := I.tuple hq
    obtain ⟨f0, f1, f2, f3, f4, f5⟩ := hf it (List.mem_cons_of_mem _ (List.mem_singleton.mpr rfl))
    have hl := rv.length
    have hT : s.TypeIs (.ref e) "enumerate" := ⟨_, y, rfl⟩
    have ht : s.heap.IsTuple a us.toArray := pt
    unfold pyNext
    refine wpAny_bind (wpAny_attempt (wpAny_callSpecial?_slot (name := Str.ofString "__next__") hT F.slot_enumerate_next (wpAny_call_entry F.slot_enumerate_next hT F.entry_enumerate_next ?_ (F.args_enumerate_next_1 _))))
    show wpAny _ _ (field (.ref e) 2 >>= _) _ _ _
    refine wpAny_bind (wpAny_field y rfl (x := .ref it) rfl (wpAny_bind (wpAny_nextOf_tuple_end (I.ok.hd hc) y2 ht (by simp; omega) fun h' x he' hx' => ?_)))
    obtain ⟨o, ho, hc'⟩ := hx'
    refine wpAny_bind (wpAny_isInstance (T := "StopIteration") (b := true) ⟨o, ho, hc'⟩ isSubtype_stop (wpAny_pure ⟨rfl, ?_⟩))
    exact I.turned (t' := s.toks) (fun b o hb q => he' b o hb q) f0 f1 f3 f4 f5
  self := fun A i s Q E st h => wpAny_pyIter_enum st.1.choose_spec h
def iEnT (K : PySem.W.Frag) (ta : TA) : TI := fun σ H R => ta σ H fun vs H1 => ∃ a xs, vs = [.ref a] ∧ SqT K H1 a xs ∧ R (IteT K a) H1
theorem pi_enumT {X : Cx} {e : Expr} {ta : TA} {p pos tp : Pos} {es : List Expr} {kk : Nat} (hg : Gl X "enumerate") (hm : X.mg "enumerate" = none) (ha : PA X [e] ta) (hs : starEach [e] X.env = [(false, eval e X.env)] := by rfl) :
    PI X (.Tuple es kk tp) (.Call (.Name "enumerate" p) [e] [] pos) (iEnT X.K ta) := by
  refine ⟨fun pins s σ H R I h => Call_ (ld_blt I hg hm boot_enumerate (PyProof.Rows.callWith_type1 (thn (ha.run pos pins s σ H _ I h) fun us s1 ⟨vs, H1, I1, r1, q1⟩ => ?_) hs rfl))⟩
  obtain ⟨a, xs, rfl, hq, q⟩ := q1
  obtain ⟨u, rfl, ru⟩ := vals1 r1
  cases ru
  obtain ⟨ws, rv, pt, hz⟩ := I1.tuple hq
  have alt : a < s1.heap.objs.size := pt.lt
  refine en_call (xs := ws.toArray) pt fun h' he hit hk => wpAny_pyIter_enum he ?_
  have I2 : Inv X pins σ H1 { s1 with heap := h' } := I1.kept (t' := s1.toks) hk
  refine ⟨s1.heap.objs.size + 1, [s1.heap.objs.size + 1, s1.heap.objs.size], _, _, H1, rfl, I2, turn_en a (s1.heap.objs.size + 1) s1.heap.objs.size, ⟨⟨.none, he⟩, hit, Nat.succ_ne_self _, Nat.ne_of_lt alt, Nat.ne_of_gt (Nat.lt_succ_of_lt alt)⟩, fun b hb => ?_, q⟩
  have le : s1.heap.objs.size ≤ b := by
    rcases List.mem_cons.mp hb with z | z
    · rw [z]; exact Nat.le_succ _
    · rw [List.mem_singleton.mp z]; exact Nat.le_refl _
  exact I1.fpOk le (I1.hok.fresh le)
theorem walk_enT {K : PySem.W.Frag} {a : Addr} {xs : List V} : Walk (IteT K a) xs.length (fun H => SqT K H a xs) (YPair (fun i => some (.int (i : Nat))) (fun i => xs[i]?)) := by
  refine ⟨fun i _ hi q => ⟨xs, xs[i], q, by simp [hi]⟩, fun _ q => ⟨xs, q, Nat.le_refl _⟩, fun i H v H' _ q ⟨T, x, h1, h2, h3, h4⟩ => ⟨T, .int (i : Nat), x, h1, h2, h3, rfl, h4 xs q⟩⟩
end Clk
set_option Elab.async false
set_option maxRecDepth 100000
set_option maxHeartbeats 4000000
set_option linter.all false
set_option autoImplicit false
namespace Clk
open PySem PySem.Spec PyProof.Rows L2
/-! ### 6. What never changes once it is made -/
/-- the things of which G holds are kept -/
def Kp (G : HO → Prop) (H H' : Hp) : Prop := ∀ b o, H b = some o → G o → H' b = some o
class Gd (G : HO → Prop) : Prop where
  tup : ∀ xs, G (.tup xs)
  ins : ∀ C dx fs, fs.lookup ("source" : Str) = none → G (.ins C dx fs)
/-- it stays so while tuples and objects (but the chip) stay -/
class Mg (R : Rp) : Prop where
  mg : ∀ {G : HO → Prop} [Gd G] {v : V} {H H' : Hp}, Kp G H H' → R v H → R v H'
def GT : HO → Prop := fun _ => True
instance : Gd GT := ⟨fun _ => trivial, fun _ _ _ _ => trivial⟩
theorem Kp.of_same {G : HO → Prop} {H H' : Hp} (s : Same H H') : Kp G H H' := fun b o h _ => s b o h
theorem Kp.trans {G : HO → Prop} {H H1 H2 : Hp} (s : Kp G H H1) (t : Kp G H1 H2) : Kp G H H2 := fun b o h g => t b o (s b o h g) g
instance (priority := low) mn_of_mg {R : Rp} [m : Mg R] : Mn R := ⟨fun s h => Mg.mg (G := GT) (Kp.of_same s) h⟩
/-- tuples, and objects that are no chip -/
def GF : HO → Prop
  | .tup _ => True
  | .ins _ _ fs => fs.lookup ("source" : Str) = none
  | .own _ => True
  | _ => False
instance : Gd GF := ⟨fun _ => trivial, fun _ _ _ h => h⟩
/-- all but the chip -/
def GC : HO → Prop
  | .ins _ _ fs => fs.lookup ("source" : Str) = none
  | _ => True
instance : Gd GC := ⟨fun _ => trivial, fun _ _ _ h => h⟩
instance {x : V} : Mg (IsV x) := ⟨fun _ h => h⟩
instance {xs : List V} : Mg (IsT xs) := ⟨fun k ⟨a, e, h⟩ => ⟨a, e, k _ _ h (Gd.tup xs)⟩⟩
theorem Each.mg {α : Type} {R : α → Rp} [m : ∀ x, Mg (R x)] {G : HO → Prop} [Gd G] {H H' : Hp} {vs : List V} {xs : List α} (k : Kp G H H') (h : Each R H vs xs) : Each R H' vs xs := h.to fun _ x q => (m x).mg k q
instance {α : Type} {R : α → Rp} {xs : List α} [∀ x, Mg (R x)] : Mg (TupOf R xs) := ⟨fun k ⟨a, vs, e, h, r⟩ => ⟨a, vs, e, k _ _ h (Gd.tup vs), r.mg k⟩⟩
theorem LstOf.kp {α : Type} {R : α → Rp} {xs : List α} [∀ x, Mg (R x)] {G : HO → Prop} [Gd G] (hl : ∀ l, G (.lst l)) {v : V} {H H' : Hp} (k : Kp G H H') : LstOf R xs v H → LstOf R xs v H' := fun ⟨a, vs, e, h, r⟩ => ⟨a, vs, e, k _ _ h (hl vs), r.mg k⟩
/-- a list that is there, or an unknown place, is written -/
theorem kp_lst {H : Hp} {l : Addr} {xs ys : List V} (h : H l = some (.lst xs)) : Kp GF H (upd H l (.lst ys)) := fun b o e g => by
  by_cases z : b = l
  · subst z
    rw [h] at e
    cases e
    exact g.elim
  · rw [upd_ne z]
    exact e
theorem same_mut {H0 H : Hp} {l : Addr} {o : HO} (s : Same H0 H) (n : H0 l = none) : Same H0 (upd H l o) := fun b u e => by
  rw [upd_ne (ne_of_none e n)]
  exact s b u e
/-- what a loop that fills the list at l has done: vs stands for xs there, and all that was there ahead of it stands -/
structure Acc {α : Type} (R : α → Rp) (H0 : Hp) (l : Addr) (xs : List α) (H : Hp) : Prop where
  new : H0 l = none
  same : Same H0 H
  lst : ∃ vs, H l = some (.lst vs) ∧ Each R H vs xs
theorem Acc.nil {α : Type} {R : α → Rp} {H : Hp} {l : Addr} (n : H l = none) : Acc R H l [] (upd H l (.lst [])) := ⟨n, same_new n _, [], upd_same, trivial⟩
theorem Acc.snoc {α : Type} {R : α → Rp} [∀ x, Mg (R x)] {H0 H H1 : Hp} {l : Addr} {xs : List α} {v : V} {x : α} {vs : List V} (a : Acc R H0 l xs H) (s : Same H H1) (h : H1 l = some (.lst vs)) (r : R x v H1) : Acc R H0 l (xs ++ [x]) (upd H1 l (.lst (vs ++ [v]))) := by
  obtain ⟨ws, hw, e⟩ := a.lst
  have z : ws = vs := by
    have q := s _ _ hw
    rw [h] at q
    cases q
    rfl
  subst z
  have k : Kp GF H1 (upd H1 l (.lst (ws ++ [v]))) := kp_lst h
  exact ⟨a.new, same_mut (a.same.trans s) a.new, _, upd_same, ((Each.mn (m := fun _ => mn_of_mg) s e).mg k).snoc (Mg.mg k r)⟩
section
variable {σ : L2.St} {H H' : Hp} {R R' : Rp} {ta tb te tl : TE} {K : PySem.W.Frag} {D : Ends} {g : TG} {tu u : TS}
/-! loops -/
theorem sq_forT (h : EvR tl σ H R) (k : ∀ v H1, Same H H1 → R v H1 → ∃ a vs, v = V.ref a ∧ H1 a = some (.tup vs) ∧ ∃ Pv : Nat → L2.St → Hp → Prop, Pv 0 σ H1 ∧ (∀ i σ' H', i ≤ vs.length → Pv i σ' H' → H' a = some (.tup vs)) ∧
      (∀ i x σ' H', vs[i]? = some x → Pv i σ' H' → g x σ' H' fun σ2 H2 => tu { D with nx := Pv (i + 1), ct := Pv (i + 1), bk := u D } σ2 H2) ∧ ∀ σ' H', Pv vs.length σ' H' → u D σ' H') : tSeq (tFor (iTup K tl) g tu) u D σ H :=
  h H (Same.refl _) _ fun v H1 s r => by
    obtain ⟨a, vs, e, ht, Pv, h0, h1, h2, h3⟩ := k v H1 s r
    exact ⟨a, e, ⟨vs, SqT.of ht⟩, for_tup (D := { D with nx := u D }) Pv h0 (fun i σ' H' hi p => SqT.of (h1 i σ' H' hi p)) h2 h3⟩
theorem sq_forL (h : EvR tl σ H R) (k : ∀ v H1, Same H H1 → R v H1 → ∃ a vs, v = V.ref a ∧ H1 a = some (.lst vs) ∧ ∃ Pv : Nat → L2.St → Hp → Prop, Pv 0 σ H1 ∧ (∀ i σ' H', i ≤ vs.length → Pv i σ' H' → H' a = some (.lst vs)) ∧
      (∀ i x σ' H', vs[i]? = some x → Pv i σ' H' → g x σ' H' fun σ2 H2 => tu { D with nx := Pv (i + 1), ct := Pv (i + 1), bk := u D } σ2 H2) ∧ ∀ σ' H', Pv vs.length σ' H' → u D σ' H') : tSeq (tFor (iList K tl) g tu) u D σ H :=
  h H (Same.refl _) _ fun v H1 s r => by
    obtain ⟨a, vs, e, ht, Pv, h0, h1, h2, h3⟩ := k v H1 s r
    exact ⟨a, e, ⟨vs, SqL.of ht⟩, for_list (D := { D with nx := u D }) Pv h0 (fun i σ' H' hi p => SqL.of (h1 i σ' H' hi p)) h2 h3⟩
/-- enumerate: the turn gets a new pair of its number and the item -/
theorem sq_forEnL (h : EvR tl σ H R) (k : ∀ v H1, Same H H1 → R v H1 → ∃ a vs, v = V.ref a ∧ H1 a = some (.lst vs) ∧ ∃ Pv : Nat → L2.St → Hp → Prop, Pv 0 σ H1 ∧ (∀ i σ' H', i ≤ vs.length → Pv i σ' H' → H' a = some (.lst vs)) ∧
      (∀ i x T σ' H', vs[i]? = some x → Pv i σ' H' → H' T = none → g (.ref T) σ' (upd H' T (.tup [.int (i : Nat), x])) fun σ2 H2 => tu { D with nx := Pv (i + 1), ct := Pv (i + 1), bk := u D } σ2 H2) ∧ ∀ σ' H', Pv vs.length σ' H' → u D σ' H') :
    tSeq (tFor (iEnum K (tCons tl tNil)) g tu) u D σ H :=
  h H (Same.refl _) _ fun v H1 s r => by
    obtain ⟨a, vs, e, ht, Pv, h0, h1, h2, h3⟩ := k v H1 s r
    refine ⟨a, vs, by rw [e], SqL.of ht, for_it walk_enum (D := { D with nx := u D }) Pv h0 (fun i σ' H' hi p => SqL.of (h1 i σ' H' hi p)) (fun i x σ' H' H2 hi p ⟨T, x', y, e1, e2, e3, e4, e5⟩ => ?_) h3⟩
    cases e4
    subst e1 e3
    exact h2 i y T σ' H' e5 p e2
theorem sq_forEnT (h : EvR tl σ H R) (k : ∀ v H1, Same H H1 → R v H1 → ∃ a vs, v = V.ref a ∧ H1 a = some (.tup vs) ∧ ∃ Pv : Nat → L2.St → Hp → Prop, Pv 0 σ H1 ∧ (∀ i σ' H', i ≤ vs.length → Pv i σ' H' → H' a = some (.tup vs)) ∧
      (∀ i x T σ' H', vs[i]? = some x → Pv i σ' H' → H' T = none → g (.ref T) σ' (upd H' T (.tup [.int (i : Nat), x])) fun σ2 H2 => tu { D with nx := Pv (i + 1), ct := Pv (i + 1), bk := u D } σ2 H2) ∧ ∀ σ' H', Pv vs.length σ' H' → u D σ' H') :
    tSeq (tFor (iEnT K (tCons tl tNil)) g tu) u D σ H :=
  h H (Same.refl _) _ fun v H1 s r => by
    obtain ⟨a, vs, e, ht, Pv, h0, h1, h2, h3⟩ := k v H1 s r
    refine ⟨a, vs, by rw [e], SqT.of ht, for_it walk_enT (D := { D with nx := u D }) Pv h0 (fun i σ' H' hi p => SqT.of (h1 i σ' H' hi p)) (fun i x σ' H' H2 hi p ⟨T, x', y, e1, e2, e3, e4, e5⟩ => ?_) h3⟩
    cases e4
    subst e1 e3
    exact h2 i y T σ' H' e5 p e2
/-- the target (a, b) of a pair at T -/
theorem g_pair {i j : Nat} {T : Addr} {x y : V} {Q : L2.St → Hp → Prop} (h : H T = some (.tup [x, y])) (q : Q ((σ.set i (some x)).set j (some y)) H) : gTup K 2 (gCons (gName i) (gCons (gName j) gNil)) (.ref T) σ H Q :=
  ⟨T, [x, y], rfl, SqT.of h, rfl, x, [y], rfl, y, [], rfl, rfl, q⟩
/-- xs.append(e) -/
theorem sq_app {l : Addr} (h : EvR te σ H R) (hl : EvR ta σ H (IsV (.ref l))) {vs : List V} (hv : H l = some (.lst vs)) (hz : vs.length < 1000000) (k : ∀ v H1, Same H H1 → R v H1 → u D σ (upd H1 l (.lst (vs ++ [v])))) :
    tSeq (tDrop (tBM K "list" rAppend ta (tCons te tNil))) u D σ H :=
  hl H (Same.refl _) _ fun w H1 s1 ew => by
    obtain rfl : w = .ref l := ew
    exact ⟨Or.inl ⟨rfl, vs, SqL.of (s1 _ _ hv)⟩, h H1 s1 _ fun v H2 s2 r => ⟨l, vs, v, rfl, rfl, s2 _ _ (s1 _ _ hv), Nat.lt_trans hz (by decide), k v H2 (s1.trans s2) r⟩⟩
theorem sr_app {l : Addr} (h : EvR te σ H R) (hl : EvR ta σ H (IsV (.ref l))) {vs : List V} (hv : H l = some (.lst vs)) (hz : vs.length < 1000000) (k : ∀ v H1, Same H H1 → R v H1 → D.nx σ (upd H1 l (.lst (vs ++ [v])))) :
    tDrop (tBM K "list" rAppend ta (tCons te tNil)) D σ H :=
  hl H (Same.refl _) _ fun w H1 s1 ew => by
    obtain rfl : w = .ref l := ew
    exact ⟨Or.inl ⟨rfl, vs, SqL.of (s1 _ _ hv)⟩, h H1 s1 _ fun v H2 s2 r => ⟨l, vs, v, rfl, rfl, s2 _ _ (s1 _ _ hv), Nat.lt_trans hz (by decide), k v H2 (s1.trans s2) r⟩⟩
/-- x = [], x = [..] of a new list whose place is wanted -/
theorem sq_new {i : Nat} (k : ∀ l, H l = none → u D (σ.set i (some (.ref l))) (upd H l (.lst []))) : tSeq (tAsg (tLst tNil) (gName i)) u D σ H := ⟨(by decide : 0 ≤ sizeLine), fun p hp => k p hp⟩
/-! comprehensions over a list, a tuple -/
theorem lc_turn {α β : Type} {R : α → Rp} {R' : β → Rp} [∀ x, Mg (R x)] [∀ x, Mg (R' x)] {H0 H1 : Hp} {Dl : Addr} {vs : List Nat} {σ2 : L2.St} {ys : List β} {i : Nat} {y : β} (a : Acc R' H0 Dl (ys.take i) H1) (hi : i < 100000) (hy : ys[i]? = some y)
    (he : EvR te σ2 H1 (R' y)) : tYes σ2 H1 fun b H3 => if b = true then te σ2 H3 fun z H4 => ∃ acc, H4 Dl = some (.lst acc) ∧ acc.length < sizeLine ∧ Acc R' H0 Dl (ys.take (i + 1)) (upd H4 Dl (.lst (acc ++ [z]))) else Acc R' H0 Dl (ys.take (i + 1)) H3 := by
  show te σ2 H1 fun z H4 => ∃ acc, H4 Dl = some (.lst acc) ∧ acc.length < sizeLine ∧ Acc R' H0 Dl (ys.take (i + 1)) (upd H4 Dl (.lst (acc ++ [z])))
  refine he H1 (Same.refl _) _ fun z H4 s r => ?_
  obtain ⟨ws, hw, e⟩ := a.lst
  refine ⟨ws, s _ _ hw, ?_, ?_⟩
  · rw [e.length, List.length_take]
    exact Nat.lt_of_le_of_lt (Nat.min_le_left _ _) (Nat.lt_trans hi (by decide))
  · have q := a.snoc s (s _ _ hw) r
    rw [List.take_add_one, hy]
    exact q
theorem er_lcL {α β : Type} {R : α → Rp} {R' : β → Rp} [∀ x, Mg (R x)] [∀ x, Mg (R' x)] {xs : List α} {ys : List β} {j : Nat} {vs : List Nat} (h : EvR tl σ H (LstOf R xs)) (hn : xs.length = ys.length) (hz : xs.length ≤ 100000) (hw : ∀ x, wipe ((wipe σ vs).set j (some x)) vs = wipe σ vs)
    (he : ∀ (i : Nat) x y v H1, xs[i]? = some x → ys[i]? = some y → Same H H1 → R x v H1 → EvR te ((wipe σ vs).set j (some v)) H1 (R' y)) : EvR (tLc (iList K tl) (gName j) tYes te vs) σ H (LstOf R' ys) := fun H0 s0 Q q =>
  h H0 s0 _ fun v H1 s1 ⟨a, us, ev, hl, r⟩ => ⟨a, ev, ⟨us, SqL.of hl⟩, fun Dl hD => by
    have hlen : us.length = ys.length := r.length.trans hn
    refine lc_list (xs := us) (fun i H' => Acc R' H1 Dl (ys.take i) H') (by rw [List.take_zero]; exact Acc.nil hD) (fun i H' _ p => SqL.of (p.same _ _ hl)) (fun i x H' hi p => ⟨hw x, ?_⟩) (fun H' p => ?_)
    · obtain ⟨x', hx', rx⟩ := r.getV hi
      have hlt : i < ys.length := by rw [← hlen]; exact (List.getElem?_eq_some_iff.mp hi).1
      have hy : ys[i]? = some ys[i] := by simp [hlt]
      exact lc_turn (R := R) (vs := vs) p (by omega) hy (he i x' ys[i] x H' hx' hy (s0.trans (s1.trans p.same)) (Mn.mn p.same rx))
    · rw [hlen, List.take_length] at p
      obtain ⟨ws, hw', e'⟩ := p.lst
      exact q _ H' (s1.trans p.same) ⟨Dl, ws, rfl, hw', e'⟩⟩
theorem er_lcT {α β : Type} {R : α → Rp} {R' : β → Rp} [∀ x, Mg (R x)] [∀ x, Mg (R' x)] {xs : List α} {ys : List β} {j : Nat} {vs : List Nat} (h : EvR tl σ H (TupOf R xs)) (hn : xs.length = ys.length) (hz : xs.length ≤ 100000) (hw : ∀ x, wipe ((wipe σ vs).set j (some x)) vs = wipe σ vs)
    (he : ∀ (i : Nat) x y v H1, xs[i]? = some x → ys[i]? = some y → Same H H1 → R x v H1 → EvR te ((wipe σ vs).set j (some v)) H1 (R' y)) : EvR (tLc (iTup K tl) (gName j) tYes te vs) σ H (LstOf R' ys) := fun H0 s0 Q q =>
  h H0 s0 _ fun v H1 s1 ⟨a, us, ev, hl, r⟩ => ⟨a, ev, ⟨us, SqT.of hl⟩, fun Dl hD => by
    have hlen : us.length = ys.length := r.length.trans hn
    refine lc_tup (xs := us) (fun i H' => Acc R' H1 Dl (ys.take i) H') (by rw [List.take_zero]; exact Acc.nil hD) (fun i H' _ p => SqT.of (p.same _ _ hl)) (fun i x H' hi p => ⟨hw x, ?_⟩) (fun H' p => ?_)
    · obtain ⟨x', hx', rx⟩ := r.getV hi
      have hlt : i < ys.length := by rw [← hlen]; exact (List.getElem?_eq_some_iff.mp hi).1
      have hy : ys[i]? = some ys[i] := by simp [hlt]
      exact lc_turn (R := R) (vs := vs) p (by omega) hy (he i x' ys[i] x H' hx' hy (s0.trans (s1.trans p.same)) (Mn.mn p.same rx))
    · rw [hlen, List.take_length] at p
      obtain ⟨ws, hw', e'⟩ := p.lst
      exact q _ H' (s1.trans p.same) ⟨Dl, ws, rfl, hw', e'⟩⟩
end
end Clk
set_option Elab.async false
set_option maxRecDepth 100000
set_option maxHeartbeats 4000000
set_option linter.all false
set_option autoImplicit false
namespace Clk
open PySem PySem.Spec PyProof.Rows L2
/-! ### 7. Further rules: t + u of any tuples; objects made -/
def rCatA (K : PySem.W.Frag) : R2 := fun x y H Q => ∃ a b xs ys, x = .ref a ∧ y = .ref b ∧ SqT K H a xs ∧ SqT K H b ys ∧ xs.length + ys.length ≤ sizeLine ∧ (xs = [] → Q (.ref b) H) ∧
  (xs ≠ [] → ys = [] → Q (.ref a) H) ∧ (xs ≠ [] → ys ≠ [] → ∀ p, H p = none → Q (.ref p) (upd H p (.tup (xs ++ ys))))
theorem op_catA {X : Cx} : OpR X (binaryOp .Add) (rCatA X.K) := by
  intro pins s σ H x y v u Q I rx ry ⟨a, b, xs, ys, ex, ey, ha, hb, hz, q0, q1, q2⟩
  by_cases c : xs = []
  · subst ex ey
    cases rx
    cases ry
    obtain ⟨its, r1, p1, _⟩ := I.tuple ha
    obtain ⟨its2, r2, p2, _⟩ := I.tuple hb
    have hv : its = [] := r1.nil_iff.mpr c
    obtain ⟨⟨c1, d1, t1, l1⟩, ho, hc, n, hd⟩ := id p1
    obtain ⟨⟨c2, d2, t2, l2⟩, ho2, hc2, n2, hd2⟩ := id p2
    simp only at hc hd hc2 hd2
    subst hc hd hc2 hd2
    exact concat_meets ⟨_, ho, rfl⟩ ⟨_, ho2, rfl⟩ noFill_tuple_add seq_tuple_add F.slot_tuple_add F.entry_tuple_add (F.args_tuple_add_2 _ _) (tuple_addW0 a b its.toArray its2.toArray n n2 d1 d2 l1 l2 (by simp [hv])) ⟨ho, ho2, ⟨.ref b, H, I, rfl, q0 c⟩⟩
  · exact op_catT pins s σ H x y v u Q I rx ry ⟨a, b, xs, ys, ex, ey, ha, hb, c, hz, q1 c, q2 c⟩
section
variable {σ : L2.St} {H H' : Hp} {R R' : Rp} {ta tb te tl : TE} {K : PySem.W.Frag} {D : Ends} {u : TS}
theorem er_catT {α : Type} {R : α → Rp} [∀ x, Mg (R x)] {xs ys : List α} (ha : EvR ta σ H (TupOf R xs)) (hb : EvR tb σ H (TupOf R ys)) (hz : xs.length + ys.length ≤ 100000) : EvR (tOp (rCatA K) ta tb) σ H (TupOf R (xs ++ ys)) :=
  er_two ha hb fun x y H1 _ ⟨a, vs, e1, h1, r1⟩ ⟨b, ws, e2, h2, r2⟩ Q q => by
    have l1 := r1.length
    have l2 := r2.length
    refine ⟨a, b, vs, ws, e1, e2, SqT.of h1, SqT.of h2, Nat.le_trans (by omega) (by decide : 100000 ≤ sizeLine), fun c => ?_, fun _ c => ?_, fun _ _ p hp => ?_⟩
    · subst c
      exact q _ H1 (Same.refl _) ⟨b, ws, rfl, h2, r1.append r2⟩
    · subst c
      have z := r1.append r2
      rw [List.append_nil] at z
      exact q _ H1 (Same.refl _) ⟨a, vs, rfl, h1, z⟩
    · have s := same_new hp (.tup (vs ++ ws))
      exact q _ _ s ⟨p, _, rfl, upd_same, Each.mn (m := fun _ => mn_of_mg) s (r1.append r2)⟩
theorem er_catL {α : Type} {R : α → Rp} [∀ x, Mg (R x)] {xs ys : List α} (ha : EvR ta σ H (LstOf R xs)) (hb : EvR tb σ H (LstOf R ys)) (hz : xs.length + ys.length ≤ 100000) : EvR (tOp rCat ta tb) σ H (LstOf R (xs ++ ys)) :=
  er_two ha hb fun x y H1 _ ⟨a, vs, e1, h1, r1⟩ ⟨b, ws, e2, h2, r2⟩ Q q => by
    have l1 := r1.length
    have l2 := r2.length
    refine ⟨a, b, vs, ws, e1, e2, h1, h2, Nat.le_trans (by omega) (by decide : 100000 ≤ sizeLine), fun p hp => ?_⟩
    have s := same_new hp (.lst (vs ++ ws))
    exact q _ _ s ⟨p, _, rfl, upd_same, Each.mn (m := fun _ => mn_of_mg) s (r1.append r2)⟩
theorem er_i {i j : Int} (h : EvR te σ H (IsI i)) (e : i = j) : EvR te σ H (IsI j) := e ▸ h
/-! slices -/
theorem eo_none : EvO tNoPart σ H none := fun H1 _ _ q => q H1 (Same.refl _)
theorem eo_some {i : Int} (h : EvR te σ H (IsI i)) : EvO (tPart te) σ H (some i) := fun H1 s _ q => h H1 s _ fun x H2 s2 e => ⟨i, e, q H2 s2⟩
theorem cut_lo {xs : List V} {j : Nat} : cutV xs none (some (j : Int)) = xs.take j := by
  unfold cutV
  rw [HT.sIx_none, HT.sIx_nat, List.drop_zero, Nat.sub_zero]
  by_cases h : j ≤ xs.length
  · rw [Nat.min_eq_left h]
  · rw [Nat.min_eq_right (by omega), List.take_length, List.take_of_length_le (by omega)]
theorem cut_hi {xs : List V} {j : Nat} : cutV xs (some (j : Int)) none = xs.drop j := by
  unfold cutV
  rw [HT.sIx_none, HT.sIx_nat]
  by_cases h : j ≤ xs.length
  · rw [Nat.min_eq_left h, List.take_of_length_le (by rw [List.length_drop]; omega)]
  · rw [Nat.min_eq_right (by omega), List.drop_eq_nil_of_le (Nat.le_refl _), List.drop_eq_nil_of_le (by omega), List.take_nil]
theorem cut_both {xs : List V} {i j : Nat} : cutV xs (some (i : Int)) (some (j : Int)) = (xs.take j).drop i := by
  unfold cutV
  rw [HT.sIx_nat, HT.sIx_nat, List.drop_take]
  by_cases h : i ≤ xs.length
  · rw [Nat.min_eq_left h]
    by_cases h2 : j ≤ xs.length
    · rw [Nat.min_eq_left h2]
    · rw [Nat.min_eq_right (by omega), List.take_of_length_le (by rw [List.length_drop]; omega), List.take_of_length_le (by rw [List.length_drop]; omega)]
  · rw [show min i xs.length = xs.length by omega, List.drop_length, List.take_nil, List.drop_eq_nil_of_le (by omega), List.take_nil]
theorem er_slT {α : Type} {R : α → Rp} [∀ x, Mg (R x)] {xs : List α} {th : TO} {i : Int} {j : Nat} (h : EvR te σ H (TupOf R xs)) (hh : EvO th σ H (some i)) (hi : i = (j : Int)) (hj : j < xs.length) : EvR (tSl (rSlT K) te tNoPart th) σ H (TupOf R (xs.take j)) := fun H1 s Q q =>
  h H1 s _ fun x H2 s2 ⟨a, vs, e, ht, r⟩ => hh H2 (s.trans s2) _ fun H3 s3 => by
    have l := r.length
    refine ⟨a, vs, e, SqT.of (s3 _ _ ht), fun z => ?_, fun p hp => ?_⟩
    · have z2 := z.2
      rw [hi, HT.sIx_nat] at z2
      omega
    · have s4 := same_new hp (.tup (cutV vs none (some i)))
      refine q _ _ ((s2.trans s3).trans s4) ⟨p, _, rfl, upd_same, ?_⟩
      rw [hi, cut_lo]
      rw [hi, cut_lo] at s4
      exact Each.mn (m := fun _ => mn_of_mg) (s3.trans s4) (r.take j)
theorem er_slTd {α : Type} {R : α → Rp} [∀ x, Mg (R x)] {xs : List α} {tl : TO} {i : Int} {j : Nat} (h : EvR te σ H (TupOf R xs)) (hh : EvO tl σ H (some i)) (hi : i = (j : Int)) (hj : 0 < j) (hx : 0 < xs.length) : EvR (tSl (rSlT K) te tl tNoPart) σ H (TupOf R (xs.drop j)) := fun H1 s Q q =>
  h H1 s _ fun x H2 s2 ⟨a, vs, e, ht, r⟩ => hh H2 (s.trans s2) _ fun H3 s3 => by
    have l := r.length
    refine ⟨a, vs, e, SqT.of (s3 _ _ ht), fun z => ?_, fun p hp => ?_⟩
    · have z2 := z.1
      rw [hi, HT.sIx_nat] at z2
      omega
    · have s4 := same_new hp (.tup (cutV vs (some i) none))
      refine q _ _ ((s2.trans s3).trans s4) ⟨p, _, rfl, upd_same, ?_⟩
      rw [hi, cut_hi]
      rw [hi, cut_hi] at s4
      exact Each.mn (m := fun _ => mn_of_mg) (s3.trans s4) (r.drop j)
theorem er_slL {α : Type} {R : α → Rp} [∀ x, Mg (R x)] {xs : List α} {th : TO} {i : Int} {j : Nat} (h : EvR te σ H (LstOf R xs)) (hh : EvO th σ H (some i)) (hi : i = (j : Int)) : EvR (tSl (rSlL K) te tNoPart th) σ H (LstOf R (xs.take j)) := fun H1 s Q q =>
  h H1 s _ fun x H2 s2 ⟨a, vs, e, ht, r⟩ => hh H2 (s.trans s2) _ fun H3 s3 => by
    refine ⟨a, vs, e, SqL.of (s3 _ _ ht), fun p hp => ?_⟩
    have s4 := same_new hp (.lst (cutV vs none (some i)))
    refine q _ _ ((s2.trans s3).trans s4) ⟨p, _, rfl, upd_same, ?_⟩
    rw [hi, cut_lo]
    rw [hi, cut_lo] at s4
    exact Each.mn (m := fun _ => mn_of_mg) (s3.trans s4) (r.take j)
theorem er_slLd {α : Type} {R : α → Rp} [∀ x, Mg (R x)] {xs : List α} {tl : TO} {i : Int} {j : Nat} (h : EvR te σ H (LstOf R xs)) (hh : EvO tl σ H (some i)) (hi : i = (j : Int)) : EvR (tSl (rSlL K) te tl tNoPart) σ H (LstOf R (xs.drop j)) := fun H1 s Q q =>
  h H1 s _ fun x H2 s2 ⟨a, vs, e, ht, r⟩ => hh H2 (s.trans s2) _ fun H3 s3 => by
    refine ⟨a, vs, e, SqL.of (s3 _ _ ht), fun p hp => ?_⟩
    have s4 := same_new hp (.lst (cutV vs (some i) none))
    refine q _ _ ((s2.trans s3).trans s4) ⟨p, _, rfl, upd_same, ?_⟩
    rw [hi, cut_hi]
    rw [hi, cut_hi] at s4
    exact Each.mn (m := fun _ => mn_of_mg) (s3.trans s4) (r.drop j)
/-- tuple(xs) of a list, list(t) of a tuple -/
def rTpl (K : PySem.W.Frag) : List V → Hp → VK → Prop := fun xs H Q => ∃ p ys, xs = [.ref p] ∧ ((SqL K H p ys ∧ ∀ l, H l = none → Q (.ref l) (upd H l (.tup ys))) ∨ (SqT K H p ys ∧ Q (.ref p) H))
def rLstf (K : PySem.W.Frag) : List V → Hp → VK → Prop := fun xs H Q => ∃ p ys, xs = [.ref p] ∧ (SqL K H p ys ∨ SqT K H p ys) ∧ ∀ l, H l = none → Q (.ref l) (upd H l (.lst ys))
theorem cTup {X : Cx} : CallR X (.type "tuple") (rTpl X.K) := call_tuple_of
theorem cLst {X : Cx} : CallR X (.type "list") (rLstf X.K) := call_list_of
theorem er_tuple {α : Type} {R : α → Rp} [∀ x, Mg (R x)] {xs : List α} (h : EvR te σ H (LstOf R xs)) : EvR (tCB (rTpl K) (tCons te tNil)) σ H (TupOf R xs) := fun H1 s Q q =>
  h H1 s _ fun x H2 s2 ⟨a, vs, e, hl, r⟩ => ⟨a, vs, by rw [e], .inl ⟨SqL.of hl, fun p hp => q _ _ (s2.trans (same_new hp _)) ⟨p, vs, rfl, upd_same, Each.mn (m := fun _ => mn_of_mg) (same_new hp _) r⟩⟩⟩
theorem er_listT {α : Type} {R : α → Rp} [∀ x, Mg (R x)] {xs : List α} (h : EvR te σ H (TupOf R xs)) : EvR (tCB (rLstf K) (tCons te tNil)) σ H (LstOf R xs) := fun H1 s Q q =>
  h H1 s _ fun x H2 s2 ⟨a, vs, e, hl, r⟩ => ⟨a, vs, by rw [e], .inr (SqT.of hl), fun p hp => q _ _ (s2.trans (same_new hp _)) ⟨p, vs, rfl, upd_same, Each.mn (m := fun _ => mn_of_mg) (same_new hp _) r⟩⟩
/-- range(n) as a list, as a tuple -/
theorem rg_each (n : Nat) : Each (fun k : Nat => IsI (k : Int)) H (rgV 0 (n : Int)) (List.range n) := by
  have z : ∀ (l : List Nat), Each (fun k : Nat => IsI (k : Int)) H (l.map fun i => V.int (0 + ((i : Nat) : Int))) l := by
    intro l
    induction l with
    | nil => trivial
    | cons a r ih => exact ⟨by show V.int (0 + (a : Int)) = V.int a; rw [Int.zero_add], ih⟩
  unfold rgV
  rw [show ((n : Int) - 0).toNat = n by omega]
  exact z _
theorem er_lrg {n : Nat} (h : EvR te σ H (IsI (n : Int))) (hn : n ≤ 100000) : EvR (tLstRg (tRg1 te)) σ H (LstOf (fun k : Nat => IsI (k : Int)) (List.range n)) := fun H1 s Q q =>
  h H1 s _ fun x H2 s2 e => ⟨(n : Int), e, RgOk.of_le (by omega) (by omega) (by omega) (by omega), fun p hp => q _ _ (s2.trans (same_new hp _)) ⟨p, _, rfl, upd_same, rg_each n⟩⟩
theorem er_trg {n : Nat} (h : EvR te σ H (IsI (n : Int))) (hn : n ≤ 100000) : EvR (tTupRg (tRg1 te)) σ H (TupOf (fun k : Nat => IsI (k : Int)) (List.range n)) := fun H1 s Q q =>
  h H1 s _ fun x H2 s2 e => ⟨(n : Int), e, RgOk.of_le (by omega) (by omega) (by omega) (by omega), fun p hp => q _ _ (s2.trans (same_new hp _)) ⟨p, _, rfl, upd_same, rg_each n⟩⟩
/-- isinstance(x, int) -/
theorem isi_int {H : Hp} {Q : VK} {i : Int} (q : Q (.bl true) H) : rIsi K [.int i, .ty "int"] H Q := ⟨.int i, .ty "int", .type "int", .type "int", true, rfl, .ty _, .base (.int i), by rfl, q⟩
end
/-! pairs of anything -/
def IsPair (R1 R2 : Rp) : Rp := fun v H => ∃ a v1 v2, v = .ref a ∧ H a = some (.tup [v1, v2]) ∧ R1 v1 H ∧ R2 v2 H
instance {R1 R2 : Rp} [Mg R1] [Mg R2] : Mg (IsPair R1 R2) := ⟨fun k ⟨a, v1, v2, e, h, r1, r2⟩ => ⟨a, v1, v2, e, k _ _ h (Gd.tup _), Mg.mg k r1, Mg.mg k r2⟩⟩
section
variable {σ : L2.St} {H : Hp} {R1 R2 : Rp} {ta tb te : TE} {K : PySem.W.Frag}
theorem er_pair [Mg R1] [Mg R2] (h1 : EvR ta σ H R1) (h2 : EvR tb σ H R2) : EvR (tTup (tCons ta (tCons tb tNil))) σ H (IsPair R1 R2) :=
  er_tup (ea_cons h1 (ea_cons h2 ea_nil)) (by simp) fun v vs a H' e h' ⟨H0, s0, n0, r, e'⟩ => by
    obtain ⟨v1, v2, rfl, r1, r2⟩ := alls2 r
    subst e'
    exact ⟨a, v1, v2, e, h', Mn.mn (same_new n0 _) r1, Mn.mn (same_new n0 _) r2⟩
theorem er_fst [Mg R1] [Mg R2] (h : EvR te σ H (IsPair R1 R2)) : EvR (tOp (rIx K) te (tC (.int 0))) σ H R1 :=
  er_two (S2 := IsI 0) h er_c fun _ _ H1 _ ⟨a, v1, v2, ea, ht, r1, _⟩ ey _ q => .inr (.inl ⟨a, _, 0, v1, ea, ey, SqT.of ht, at_of (j := 0) rfl rfl, q v1 H1 (Same.refl _) r1⟩)
theorem er_snd [Mg R1] [Mg R2] (h : EvR te σ H (IsPair R1 R2)) : EvR (tOp (rIx K) te (tC (.int 1))) σ H R2 :=
  er_two (S2 := IsI 1) h er_c fun _ _ H1 _ ⟨a, v1, v2, ea, ht, _, r2⟩ ey _ q => .inr (.inl ⟨a, _, 1, v2, ea, ey, SqT.of ht, at_of (j := 1) rfl rfl, q v2 H1 (Same.refl _) r2⟩)
theorem er_tup1 {α : Type} {R : α → Rp} [∀ x, Mg (R x)] {x : α} (h : EvR te σ H (R x)) : EvR (tTup (tCons te tNil)) σ H (TupOf R [x]) :=
  er_tup (ea_cons h ea_nil) (by simp) fun v vs a H' e h' ⟨H0, s0, n0, r, e'⟩ => by
    obtain ⟨v1, rfl, r1⟩ := alls1 r
    subst e'
    exact ⟨a, [v1], e, h', Mn.mn (same_new n0 _) r1, trivial⟩
theorem er_tup0 {α : Type} {R : α → Rp} : EvR (tTup tNil) σ H (TupOf R []) := er_tup ea_nil (by simp) fun v vs a H' e h' ⟨H0, s0, n0, r, e'⟩ => by
  match vs, r with
  | [], _ => exact ⟨a, [], e, h', trivial⟩
theorem er_lst1 {α : Type} {R : α → Rp} [∀ x, Mg (R x)] {x : α} (h : EvR te σ H (R x)) : EvR (tLst (tCons te tNil)) σ H (LstOf R [x]) :=
  er_lst (ea_cons h ea_nil) (by simp) fun v vs a H' e h' ⟨H0, s0, n0, r, e'⟩ => by
    obtain ⟨v1, rfl, r1⟩ := alls1 r
    subst e'
    exact ⟨a, [v1], e, h', Mn.mn (same_new n0 _) r1, trivial⟩
end
section
variable {σ : L2.St} {H : Hp} {R : Rp} {ta tb te : TE} {K : PySem.W.Frag} {D : Ends} {g : TG} {tu u : TS}
theorem atI_neg1 {xs : List V} {v : V} (h : xs[xs.length - 1]? = some v) : atI xs (-1) = some v := by
  have hl : xs.length - 1 < xs.length := (List.getElem?_eq_some_iff.mp h).1
  unfold atI ixN
  rw [if_neg (by decide), if_pos (by omega)]
  show xs[((-1 : Int) + (xs.length : Int)).toNat]? = some v
  rw [show ((-1 : Int) + (xs.length : Int)).toNat = xs.length - 1 by omega]
  exact h
theorem er_ixLast {α : Type} {Q : α → Rp} {xs : List α} {x : α} [∀ x, Mn (Q x)] (ha : EvR ta σ H (LstOf Q xs)) (hx : xs[xs.length - 1]? = some x) : EvR (tOp (rIx K) ta (tUn (rU fun i => .int (-i)) (tC (.int 1)))) σ H (Q x) :=
  er_two ha (er_neg er_c) fun _ _ H1 _ ⟨a, vs, ea, ht, k⟩ ey _ q => by
    obtain ⟨v, hv, r⟩ := k.get hx
    exact .inl ⟨a, vs, -1, v, ea, ey, SqL.of ht, atI_neg1 (by rw [k.length]; exact hv), q v H1 (Same.refl _) r⟩
theorem rg2 {m : Nat} (h : m ≤ 100000) : RgC 0 ((2 * m : Nat) : Int) 2 m := by
  refine ⟨by decide, by decide, ?_, ?_⟩
  · have e : Builtin.Range.rangeSize 0 ((2 * m : Nat) : Int) 2 = (m : Int) := by
      unfold Builtin.Range.rangeSize
      rw [if_pos (by decide)]
      split <;> omega
    unfold Builtin.Range.small
    rw [e]
    have hz : 0 ≤ ((2 * m : Nat) : Int) ∧ ((2 * m : Nat) : Int) ≤ 200000 := by omega
    generalize ((2 * m : Nat) : Int) = z at hz
    simp only [Builtin.Range.rangeFitsLong, Bool.and_eq_true, Bool.or_eq_true, decide_eq_true_eq, beq_iff_eq, show (2 : Int) > 0 by decide, if_true]
    omega
  · unfold Builtin.Range.rangeSize
    rw [if_pos (by decide)]
    split <;> omega
/-- for i in range(0, 2 m, 2) -/
theorem sq_forR2 {ts : TA} {m : Nat} (h : EvA ts σ H [IsI 0, IsI ((2 * m : Nat) : Int), IsI 2]) (hm : m ≤ 100000) (k : ∀ H1, Same H H1 → ∃ Pv : Nat → L2.St → Hp → Prop, Pv 0 σ H1 ∧
      (∀ i σ' H', i < m → Pv i σ' H' → g (.int ((2 * i : Nat) : Int)) σ' H' fun σ2 H2 => tu { D with nx := Pv (i + 1), ct := Pv (i + 1), bk := u D } σ2 H2) ∧ ∀ σ' H', Pv m σ' H' → u D σ' H') : tSeq (tFor (iRng3 ts) g tu) u D σ H := by
    refine h H (Same.refl _) _ fun vs H1 s r => ?_
    obtain ⟨v1, v2, v3, rfl, e1, e2, e3⟩ := alls3 r
    obtain ⟨Pv, p0, p1, p2⟩ := k H1 s
    refine ⟨0, _, 2, m, by rw [show v1 = .int 0 from e1, show v2 = _ from e2, show v3 = .int 2 from e3], rg2 hm, for_rangeC (D := { D with nx := u D }) Pv p0 (fun i σ' H' hi p => ?_) p2⟩
    have q := p1 i σ' H' hi p
    rw [show ((2 * i : Nat) : Int) = 0 + (i : Int) * 2 by omega] at q
    exact q
end
/-! ### 8. The rules, with the written part K by its name -/
section
variable {X : Cx} {K : PySem.W.Frag} {tg l e o value : Expr} {tl te ta tv : TE} {pos pos' p tp : Pos} {es : List Expr} {f : Str}
theorem ixK (h : X.K = K) : IxR X (rIx K) := h ▸ ix_seq
theorem lenK (h : X.K = K) : CallR X (.builtin "len") (rLn K) := h ▸ cLen
theorem catK (h : X.K = K) : OpR X (binaryOp .Add) (rCatA K) := h ▸ op_catA
theorem inK (h : X.K = K) : OpR X (compareOp .In) (rIn K false) := h ▸ op_in_seq
theorem notInK (h : X.K = K) : OpR X (compareOp .NotIn) (rIn K true) := h ▸ op_notIn_seq
theorem sltK (h : X.K = K) : SlR X (rSlT K) := h ▸ sl_tup
theorem sllK (h : X.K = K) : SlR X (rSlL K) := h ▸ sl_list
theorem tupK (h : X.K = K) : CallR X (.type "tuple") (rTpl K) := h ▸ cTup
theorem lstK (h : X.K = K) : CallR X (.type "list") (rLstf K) := h ▸ cLst
theorem isiK (h : X.K = K) : CallR X (.builtin "isinstance") (rIsi K) := h ▸ call_isi
theorem sumK (hc : X.calm = true) (h : X.K = K) : CallR X (.builtin "sum") (rSum K) := h ▸ cr_sum hc
theorem pf (h : X.K = K) (he : PE X e te) (hb : attributeBase e f X.env (eval e X.env) = eval e X.env) : PE X (.Attribute e f pos) (tFld K te f) := h ▸ pe_fld he hb
theorem psf (h : X.K = K) (ha : PE X o ta) (hv : PE X value tv) (hs : swapsWith value (some (.Attribute o f pos')) pos.line X.env = pure false) : PS X (.Assign [.Attribute o f pos'] value pos) (sFld K ta tv f) := h ▸ ps_fld ha hv hs
theorem piL (h : X.K = K) (hl : PE X l tl) : PI X tg l (iList K tl) := h ▸ pi_list hl
theorem piT (h : X.K = K) (hl : PE X l tl) : PI X tg l (iTup K tl) := h ▸ pi_tup hl
theorem piE {t : TA} {kk : Nat} (h : X.K = K) (hg : Gl X "enumerate") (hm : X.mg "enumerate" = none) (ha : PA X [e] t) (hs : starEach [e] X.env = [(false, eval e X.env)] := by rfl) : PI X (.Tuple es kk tp) (.Call (.Name "enumerate" p) [e] [] pos) (iEnum K t) := h ▸ pi_enum hg hm ha hs
theorem piET {t : TA} {kk : Nat} (h : X.K = K) (hg : Gl X "enumerate") (hm : X.mg "enumerate" = none) (ha : PA X [e] t) (hs : starEach [e] X.env = [(false, eval e X.env)] := by rfl) : PI X (.Tuple es kk tp) (.Call (.Name "enumerate" p) [e] [] pos) (iEnT K t) := h ▸ pi_enumT hg hm ha hs
theorem piZ {e2 : Expr} {t : TA} {kk : Nat} (h : X.K = K) (hg : Gl X "zip") (hm : X.mg "zip" = none) (ha : PA X [e, e2] t) (hs : starEach [e, e2] X.env = (false, eval e X.env) :: starEach [e2] X.env := by rfl) (hp : (backTo pos (starEach [e2] X.env)).any (·.1) = false := by rfl) :
    PI X (.Tuple es kk tp) (.Call (.Name "zip" p) [e, e2] [] pos) (RZ.iZipA K t) := h ▸ RZ.pi_zipA hg hm ha hs hp
theorem pgT {t : TGs} {n k : Nat} (h : X.K = K) (hc : X.calm = true) (hh : PGs X es t) (hn : (assignEach es X.env).length = n := by rfl) (hs : (assignEach es X.env).findIdx? (·.1) = none := by rfl) : PG X (.Tuple es k pos) (gTup K n t) := h ▸ pg_tup hc hh hn hs
theorem pbm {T : String} {nm : Str} {r : V → List V → Hp → VK → Prop} {to : TE} {t : TA} {apos cpos : Pos} (h : X.K = K) (hh : PE X (.Call (.Attribute o nm apos) (e :: es) [] cpos) (tBM X.K T r to t)) : PE X (.Call (.Attribute o nm apos) (e :: es) [] cpos) (tBM K T r to t) := h ▸ hh
end
end Clk
set_option Elab.async false
set_option maxRecDepth 100000
set_option maxHeartbeats 4000000
set_option linter.all false
set_option autoImplicit false
namespace Clk
open PySem PySem.Spec PyProof.Rows L2
/-! ### 9. Objects -/
theorem lkH {k : Str} {v : V} {r : List (Str × V)} : List.lookup k ((k, v) :: r) = some v := by
  have e : (k == k) = true := beq_self_eq_true k
  simp only [List.lookup, e]
theorem lkP {k g : Str} {v : V} {r : List (Str × V)} {o : Option V} (h : (k == g) = false) (q : List.lookup k r = o) : List.lookup k ((g, v) :: r) = o := by
  simp only [List.lookup, h]
  exact q
theorem lkN {k : Str} : List.lookup k ([] : List (Str × V)) = none := rfl
theorem ptP {f g : Str} {v x : V} {r r' : List (Str × V)} (h : ¬ g = f) (q : putF f v r = r') : putF f v ((g, x) :: r) = (g, x) :: r' := by
  subst q
  exact if_neg h
theorem ptH {f : Str} {v x : V} {r : List (Str × V)} : putF f v ((f, x) :: r) = (f, v) :: r := if_pos rfl
theorem ptN {f : Str} {v : V} : putF f v [] = [(f, v)] := rfl
/-- arguments that stay -/
class AMn (Rs : List Rp) : Prop where
  mn : ∀ {vs : List V} {H H' : Hp}, Same H H' → Alls Rs vs H → Alls Rs vs H'
instance : AMn [] := ⟨fun {vs} _ _ _ h => match vs, h with | [], _ => trivial⟩
instance {R : Rp} {Rs : List Rp} [Mn R] [AMn Rs] : AMn (R :: Rs) := ⟨fun {vs} _ _ s h => match vs, h with | _ :: _, h => ⟨Mn.mn s h.1, AMn.mn s h.2⟩⟩
/-- __init__: the new object gets the attributes mkf of the arguments -/
def SpInit (C : Addr) (P : List V → Prop) (mkf : List V → List (Str × V)) : Sp := fun vs H Q _ => ∃ p dx as, vs = .ref p :: as ∧ P as ∧ H p = some (.ins C dx []) ∧
  ∀ H', H' p = some (.ins C dx (mkf as)) → (∀ b o, H b = some o → b ≠ p → H' b = some o) → Q .non H'
section
variable {σ : L2.St} {H : Hp} {R : Rp}
theorem er_make {C : Addr} {P : List V → Prop} {mkf : List V → List (Str × V)} {E : XK} {t : TA} {Rs : List Rp} [AMn Rs] (h : EvA t σ H Rs) (hP : ∀ vs H1, Alls Rs vs H1 → P vs) (k : ∀ vs H1 x dx, Same H H1 → Alls Rs vs H1 → H1 x = some (.ins C dx (mkf vs)) → R (.ref x) H1) :
    EvR (tMake C (SpInit C P mkf) [] E t) σ H R := fun H1 s Q q =>
  h H1 s _ fun vs H2 s2 rs => fun x dx nx nd ne => by
    refine ⟨x, dx, vs, by rw [List.append_nil], hP vs H2 rs, upd_same, fun H' hx kp => ⟨rfl, ?_⟩⟩
    have s3 : Same H2 H' := Same.made nx nd kp
    exact q _ H' (s2.trans s3) (k vs H' x dx (s.trans (s2.trans s3)) (AMn.mn s3 rs) hx)
end
section
variable (P : Program) (w : World) (K : PySem.W.Frag) (mg : Str → Option Value) (base : Heap)
/-- the class x stands at C, and its __init__ is st -/
def ClsAt (x q : Str) (C : Addr) (st : Stmt) (ps : List Str) : Prop := ∃ f fd, Fun K "__init__" q st f fd ∧ Mk K C f ∧ mg x = some (.ref C) ∧ Binds K fd ps []
def MkC (k : Nat) (x : Str) (C : Addr) (ps : List Str) (sp : Sp) : Prop := ∃ f fd, FnOk P w K mg base CX0 k f fd ps sp ∧ Mk K C f ∧ mg x = some (.ref C) ∧ Binds K fd ps []
end
section
variable {P : Program} {w : World} {K : PySem.W.Frag} {mg : Str → Option Value} {base : Heap}
theorem ClsAt.ok {x q : Str} {C : Addr} {st : Stmt} {N ps : List Str} {k : Nat} {sp : Sp} (F : ClsAt K mg x q C st ps) (S : FnScope N ps (defScope st)) (len : ∀ vs H Q E, sp vs H Q E → vs.length = ps.length)
    (hbody : ∀ (f : Addr) (cdv : Value) (A : Around) (outer : List Env) (s : Shared) (H : Hp) (vs : List V) (Q : VK) (E : XK), Room k (A.deeper (envOfC q (defScope st) s.heap.objs.size f cdv)) → sp vs H Q E →
      ∃ t, PSs (cxOf CX0 P w K mg base N q (defScope st) f cdv A outer s H E).nox (defBody st) t ∧ t { nx := fun _ H' => Q .non H', rt := Q } (start N vs) H) : MkC P w K mg base (k + 1) x C ps sp := by
  obtain ⟨f, fd, F, M, m, b⟩ := F
  exact ⟨f, fd, F.ok S len fun cdv A outer s H vs Q E hr h => hbody f cdv A outer s H vs Q E hr h, M, m, b⟩
end
section
variable {X : Cx}
theorem pm {j k : Nat} {x : Str} {C : Addr} {ps : List Str} {sp : Sp} {p pos : Pos} {e : Expr} {es : List Expr} {t : TA} (c : MkC X.prog X.w X.K X.mg X.base k x C ps sp) (hr : Room j X.A) (ha : PA X (e :: es) t) (hk : k + 1 ≤ j := by first | decide | omega) (hg : Gl X x := by rfl) (hdb : (x == ("__debug__" : Str)) = false := by decide)
    (he : starEach (e :: es) X.env = (false, eval e X.env) :: starEach es X.env := by rfl) (hpl : (backTo pos (starEach es X.env)).any (·.1) = false := by rfl) : PE X (.Call (.Name x p) (e :: es) [] pos) (tMake C sp [] E0 t) := by
  obtain ⟨f, fd, F, M, m, b⟩ := c
  exact pe_make M F (hr.mono hk) hg m b .nil pass0 ha hdb he hpl
theorem pm0 {j k : Nat} {x : Str} {C : Addr} {ps : List Str} {sp : Sp} {p pos : Pos} (c : MkC X.prog X.w X.K X.mg X.base k x C ps sp) (hr : Room j X.A) (hk : k + 1 ≤ j := by first | decide | omega) (hg : Gl X x := by rfl) (hdb : (x == ("__debug__" : Str)) = false := by decide) : PE X (.Call (.Name x p) [] [] pos) (tMake C sp [] E0 tNil) := by
  obtain ⟨f, fd, F, M, m, b⟩ := c
  exact pe_make0 M F (hr.mono hk) hg m b .nil pass0 hdb
end
/-! ### 10. Attributes stored, while, += -/
section
variable {σ : L2.St} {H : Hp} {R : Rp} {ta tb te tv : TE} {K : PySem.W.Frag} {D : Ends} {tu u : TS} {t : TT}
theorem sq_while (W : Nat → L2.St → Hp → Prop) (m0 : Nat) (h0 : W m0 σ H)
    (hs : ∀ m σ' H', W m σ' H' → ∃ b, EvT t σ' H' b ∧ (b = true → ∀ H1, Same H' H1 → ∃ N : L2.St → Hp → Prop, (∀ σ2 H2, N σ2 H2 → ∃ m', m' < m ∧ W m' σ2 H2) ∧ tu { D with nx := N, ct := N, bk := u D } σ' H1) ∧ (b = false → ∀ H1, Same H' H1 → u D σ' H1)) : tSeq (tWhile t tu) u D σ H :=
  ⟨W, ⟨m0, h0⟩, fun m σ' H' hw => by
    obtain ⟨b, hb, h1, h2⟩ := hs m σ' H' hw
    refine hb H' (Same.refl _) _ fun H1 s => ?_
    cases b with
    | true => exact h1 rfl H1 s
    | false => exact h2 rfl H1 s⟩
theorem sq_aug {i : Nat} {f : Int → Int → Int} {a b : Int} (hx : σ[i]? = some (some (.int a))) (h : EvR te σ H (IsI b)) (k : ∀ H1, Same H H1 → u D (σ.set i (some (.int (f a b)))) H1) : tSeq (tAug i te (ipI f)) u D σ H :=
  ⟨.int a, hx, h H (Same.refl _) _ fun v H1 s e => ⟨a, b, rfl, e, k H1 s⟩⟩
end
/-! ### 11. A comprehension over enumerate -/
section
variable {σ : L2.St} {H : Hp} {te tl : TE} {K : PySem.W.Frag}
theorem er_lcEn {α β : Type} {R : α → Rp} {R' : β → Rp} [∀ x, Mg (R x)] [∀ x, Mg (R' x)] {xs : List α} {ys : List β} {j k : Nat} {vs : List Nat} (h : EvR tl σ H (LstOf R xs)) (hn : xs.length = ys.length) (hz : xs.length ≤ 100000) (hw : ∀ x y, wipe (((wipe σ vs).set j (some x)).set k (some y)) vs = wipe σ vs)
    (he : ∀ (i : Nat) x y v H1, xs[i]? = some x → ys[i]? = some y → Same H H1 → R x v H1 → EvR te (((wipe σ vs).set j (some (.int (i : Nat)))).set k (some v)) H1 (R' y)) : EvR (tLc (iEnum K (tCons tl tNil)) (gTup K 2 (gCons (gName j) (gCons (gName k) gNil))) tYes te vs) σ H (LstOf R' ys) := fun H0 s0 Q q =>
  h H0 s0 _ fun v H1 s1 ⟨a, us, ev, hl, r⟩ => ⟨a, us, by rw [ev], SqL.of hl, fun Dl hD => by
    have hlen : us.length = ys.length := r.length.trans hn
    refine lc_it (walk_enum (xs := us)) (fun i H' => Acc R' H1 Dl (ys.take i) H') (by rw [List.take_zero]; exact Acc.nil hD) (fun i H' _ p => SqL.of (p.same _ _ hl)) (fun i x H' H2 hi p ⟨T, x', y, e1, e2, e3, e4, e5⟩ => ?_) (fun H' p => ?_)
    · cases e4
      subst e1 e3
      have s3 : Same H' (upd H' T (.tup [.int (i : Nat), y])) := same_new e2 _
      obtain ⟨x', hx', rx⟩ := r.getV e5
      have hlt : i < ys.length := by rw [← hlen]; exact hi
      have hy : ys[i]? = some ys[i] := by simp [hlt]
      refine g_pair upd_same ⟨hw _ _, ?_⟩
      have p2 : Acc R' H1 Dl (ys.take i) (upd H' T (.tup [.int (i : Nat), y])) := by
        obtain ⟨ws, hw', e'⟩ := p.lst
        exact ⟨p.new, p.same.trans s3, ws, s3 _ _ hw', Each.mn (m := fun _ => mn_of_mg) s3 e'⟩
      exact lc_turn (R := R) (vs := vs) p2 (by omega) hy (he i x' ys[i] y _ hx' hy (s0.trans (s1.trans p2.same)) (Mn.mn p2.same rx))
    · rw [hlen, List.take_length] at p
      obtain ⟨ws, hw', e'⟩ := p.lst
      exact q _ H' (s1.trans p.same) ⟨Dl, ws, rfl, hw', e'⟩⟩
end
theorem Acc.grow {α : Type} {R : α → Rp} [∀ x, Mg (R x)] {H0 H H1 : Hp} {l : Addr} {xs : List α} (a : Acc R H0 l xs H) (s : Same H H1) : Acc R H0 l xs H1 := by
  obtain ⟨ws, hw, e⟩ := a.lst
  exact ⟨a.new, a.same.trans s, ws, s _ _ hw, Each.mn (m := fun _ => mn_of_mg) s e⟩
/-- x = [.. for i, v in enumerate(xs)], the new list's place kept -/
theorem sq_lcEnA {α β : Type} {R : α → Rp} {R' : β → Rp} [∀ x, Mg (R x)] [∀ x, Mg (R' x)] {xs : List α} {ys : List β} {j k m : Nat} {vs : List Nat} {σ : L2.St} {H : Hp} {te tl : TE} {K : PySem.W.Frag} {D : Ends} {u : TS} (h : EvR tl σ H (LstOf R xs)) (hn : xs.length = ys.length) (hz : xs.length ≤ 100000)
    (hw : ∀ x y, wipe (((wipe σ vs).set j (some x)).set k (some y)) vs = wipe σ vs) (he : ∀ (i : Nat) x y v H1, xs[i]? = some x → ys[i]? = some y → Same H H1 → R x v H1 → EvR te (((wipe σ vs).set j (some (.int (i : Nat)))).set k (some v)) H1 (R' y))
    (kk : ∀ l H1, Acc R' H l ys H1 → u D (σ.set m (some (.ref l))) H1) : tSeq (tAsg (tLc (iEnum K (tCons tl tNil)) (gTup K 2 (gCons (gName j) (gCons (gName k) gNil))) tYes te vs) (gName m)) u D σ H :=
  h H (Same.refl _) _ fun v H1 s1 ⟨a, us, ev, hl, r⟩ => ⟨a, us, by rw [ev], SqL.of hl, fun Dl hD => by
    have hlen : us.length = ys.length := r.length.trans hn
    have hD0 : H Dl = none := s1.free hD
    refine lc_it (walk_enum (xs := us)) (fun i H' => Acc R' H1 Dl (ys.take i) H') (by rw [List.take_zero]; exact Acc.nil hD) (fun i H' _ p => SqL.of (p.same _ _ hl)) (fun i x H' H2 hi p ⟨T, x', y, e1, e2, e3, e4, e5⟩ => ?_) (fun H' p => ?_)
    · cases e4
      subst e1 e3
      obtain ⟨x', hx', rx⟩ := r.getV e5
      have hlt : i < ys.length := by rw [← hlen]; exact hi
      have hy : ys[i]? = some ys[i] := by simp [hlt]
      have p2 := p.grow (same_new e2 (.tup [.int (i : Nat), y]))
      exact g_pair upd_same ⟨hw _ _, lc_turn (R := R) (vs := vs) p2 (by omega) hy (he i x' ys[i] y _ hx' hy (s1.trans p2.same) (Mn.mn p2.same rx))⟩
    · rw [hlen, List.take_length] at p
      exact kk Dl H' ⟨hD0, s1.trans p.same, p.lst⟩⟩
section
variable {σ : L2.St} {H : Hp} {R : Rp} {tl : TE} {K : PySem.W.Frag} {D : Ends} {g : TG} {tu u : TS} {sp : Sp} {E : XK} {t : TA} {Rs : List Rp}
theorem sq_call {i : Nat} (h : EvA t σ H Rs) (k : ∀ vs H1, Same H H1 → Alls Rs vs H1 → sp vs H1 (fun v H2 => u D (σ.set i (some v)) H2) E) : tSeq (tAsg (tCall sp [] E t) (gName i)) u D σ H :=
  h H (Same.refl _) _ fun vs H1 s r => by rw [List.append_nil]; exact k vs H1 s r
theorem sr_forCall (h : EvA t σ H Rs) (k : ∀ vs H1, Same H H1 → Alls Rs vs H1 → sp vs H1 (fun x H2 => ∃ a, x = .ref a ∧ (∃ xs, SqL K H2 a xs) ∧ tFor (fun _ H R => R (Itl K a) H) g tu D σ H2) E) : tFor (iList K (tCall sp [] E t)) g tu D σ H :=
  h H (Same.refl _) _ fun vs H1 s r => by rw [List.append_nil]; exact k vs H1 s r
theorem sr_forL (h : EvR tl σ H R) (k : ∀ v H1, Same H H1 → R v H1 → ∃ a vs, v = V.ref a ∧ H1 a = some (.lst vs) ∧ ∃ Pv : Nat → L2.St → Hp → Prop, Pv 0 σ H1 ∧ (∀ i σ' H', i ≤ vs.length → Pv i σ' H' → H' a = some (.lst vs)) ∧
      (∀ i x σ' H', vs[i]? = some x → Pv i σ' H' → g x σ' H' fun σ2 H2 => tu { D with nx := Pv (i + 1), ct := Pv (i + 1), bk := D.nx } σ2 H2) ∧ ∀ σ' H', Pv vs.length σ' H' → D.nx σ' H') : tFor (iList K tl) g tu D σ H :=
  h H (Same.refl _) _ fun v H1 s r => by
    obtain ⟨a, vs, e, ht, Pv, h0, h1, h2, h3⟩ := k v H1 s r
    exact ⟨a, e, ⟨vs, SqL.of ht⟩, for_list Pv h0 (fun i σ' H' hi p => SqL.of (h1 i σ' H' hi p)) h2 h3⟩
end
end Clk
set_option Elab.async false
set_option maxRecDepth 100000
set_option maxHeartbeats 4000000
set_option linter.all false
set_option autoImplicit false
/-! ### 12. min(xs, key=f), f a def that gives a pair of ints -/
namespace Clk
open PySem PySem.Spec PyProof.Rows L2
def ltP (x y : Int × Int) : Prop := x.1 < y.1 ∨ (x.1 = y.1 ∧ x.2 < y.2)
instance {x y : Int × Int} : Decidable (ltP x y) := inferInstanceAs (Decidable (_ ∨ _))
theorem lex2 (x y : Int × Int) : HT.lexLt [x.1, x.2] [y.1, y.2] = decide (ltP x y) := by
  rw [HT.lexLt_cons]
  by_cases h : x.1 = y.1
  · rw [if_pos h, HT.lexLt_cons]
    by_cases h2 : x.2 = y.2
    · rw [if_pos h2, HT.lexLt_nil_nil]
      exact (decide_eq_false (by unfold ltP; omega)).symm
    · rw [if_neg h2]
      exact decide_eq_decide.mpr (by unfold ltP; omega)
  · rw [if_neg h]
    exact decide_eq_decide.mpr (by unfold ltP; omega)
/-- the first of the least -/
def Least (kf : Nat → Int × Int) (n i : Nat) : Prop := i < n ∧ ∀ j, j < n → ¬ ltP (kf j) (kf i) ∧ (j < i → ltP (kf i) (kf j))
/-- what is asked of min(xs, key=f) -/
def rMinK (f : Addr) (sp : Sp) : List V → List V → Hp → VK → Prop := fun xs zs H Q => ∃ (l : Addr) (us : List V) (kf : Nat → Int × Int), xs = [.ref l] ∧ zs = [.ref f] ∧ H l = some (.lst us) ∧ 0 < us.length ∧
  (∀ (i : Nat) v, us[i]? = some v → ∀ H', Same H H' → ∀ Q' : VK, (∀ t H2, Same H' H2 → H2 t = some (.tup [.int (kf i).1, .int (kf i).2]) → Q' (.ref t) H2) → sp [v] H' Q' E0) ∧
  ∀ (i : Nat) v H', us[i]? = some v → Least kf us.length i → Same H H' → Q v H'
section
variable {X : Cx} {k : Nat} {f : Addr} {fd : FuncData} {ps : List Str} {sp : Sp} {pins : List (Addr × Obj)} {σ : L2.St}
/-- the def runs within the built-in: what is not tracked stays -/
theorem key_run (F : FnOk X.prog X.w X.K X.mg X.base CX0 k f fd ps sp) (hr : Room (k + 1) X.A) (hb : Binds X.K fd ps []) {H : Hp} {s : Shared} {v : V} {u : Value} {Q : VK} (I : Inv X pins σ H s) (ru : RelV v u) (h : sp [v] H Q E0) :
    wpAny (model X.prog X.w) X.A.in1 (call (.ref f) [u]) (fun y s2 => ∃ z H2, Inv X pins σ H2 s2 ∧ RelV z y ∧ Q z H2 ∧ ∀ b o, FpOk X pins H b → s.heap.get? b = some o → s2.heap.get? b = some o ∧ FpOk X pins H2 b) (fun _ _ => False) s := by
  have hl : ([u] ++ [] : List Value).length = ps.length := (F.len _ _ _ _ h)
  refine wpAny_call (codeAny_mono (F.run X.A.in1 X.stack s H ⟨[u], []⟩ [u] [v] Q E0 hr.in1 I.env0.in1 (hb s [u] I.kIn hl) (.cons ru .nil) h) fun r s2 hq => ?_)
  cases r with
  | error e => exact hq
  | ok fl =>
    cases fl with
    | ret y =>
      obtain ⟨z, H2, os, bare, un, hok, rz, q⟩ := hq
      obtain ⟨hh, gg, dd, tt, oo⟩ := s2
      obtain rfl : oo = s.os := os
      refine ⟨z, H2, I.call (h' := hh) (g' := gg) (d' := dd) (t' := tt) (ch := []) un hok bare (fun b z => absurd z (by simp)), rz, q, fun b o fp e => ?_⟩
      have nf : b ∉ frs X.stack := fun z => by
        rcases List.mem_cons.mp (I.stkSub b z) with q | q
        · exact fp.2.1 q
        · exact fp.2.2.1 q
      exact ⟨un.keep b o e fp.1 nf (by simp), un.free b o e fp.1 (by simp), fp.2⟩
    | next => exact hq.elim
    | brk => exact hq.elim
    | cont => exact hq.elim
/-- one turn's state: the iterator It stands behind j + 1 items, S holds the best and its key -/
structure MinSt (X : Cx) (pins : List (Addr × Obj)) (σ : L2.St) (H0 : Hp) (l It S : Addr) (us : List V) (kf : Nat → Int × Int) (j i : Nat) (H : Hp) (s : Shared) : Prop where
  inv : Inv X pins σ H s
  same : Same H0 H
  fi : FpOk X pins H It
  fs : FpOk X pins H S
  ne : S ≠ It
  it : s.heap.IsListIter It l (j + 1)
  le : i ≤ j
  best : ∀ j', j' ≤ j → ¬ ltP (kf j') (kf i) ∧ (j' < i → ltP (kf i) (kf j'))
  held : ∃ (vb : V) (ub : Value) (tb : Addr) (c : Nat), us[i]? = some vb ∧ RelV vb ub ∧ H tb = some (.tup [.int (kf i).1, .int (kf i).2]) ∧ s.heap.get? S = some (seqObj "list" #[ub, .ref tb] c)
theorem min_loop (F : FnOk X.prog X.w X.K X.mg X.base CX0 k f fd ps sp) (hr : Room (k + 1) X.A) (hb : Binds X.K fd ps []) {H0 : Hp} {l It S : Addr} {us : List V} {kf : Nat → Int × Int} {Q : VK} (hl : H0 l = some (.lst us))
    (hk : ∀ (i : Nat) v, us[i]? = some v → ∀ H', Same H0 H' → ∀ Q' : VK, (∀ t H2, Same H' H2 → H2 t = some (.tup [.int (kf i).1, .int (kf i).2]) → Q' (.ref t) H2) → sp [v] H' Q' E0)
    (hQ : ∀ (i : Nat) v H', us[i]? = some v → Least kf us.length i → Same H0 H' → Q v H') {R : Result → Shared → Prop} (hR : ∀ y s', EP X pins σ Q y s' → R (.ok (.ret y)) s') :
    ∀ (r j i : Nat) (H : Hp) (s : Shared), us.length - (j + 1) = r → j + 1 ≤ us.length → MinSt X pins σ H0 l It S us kf j i H s → codeAny (model X.prog X.w) X.A (.builtin "min.loop" ⟨[.ref It, .ref f, .ref S], []⟩) R s := by
  have nm : (toString "min" ++ toString ".loop" : String) = "min.loop" := by decide
  intro r
  induction r with
  | zero =>
    intro j i H s hr0 hj M
    obtain ⟨vb, ub, tb, c, hvb, rb, htb, hS⟩ := M.held
    obtain ⟨its, rv, pl, hz⟩ := M.inv.list (SqL.of (M.same _ _ hl))
    have hlen := rv.length
    have hh : X.A.handled = none := hr.hd
    refine codeAny_builtin PySem.F.entry_min_loop ?_
    rw [Around.under_plainId PySem.F.plain_min_loop _]
    show wpAny _ X.A.in1 (seqItems? (.ref S) >>= _) _ _ s
    refine wpAny_bind (wpAny_seqItems hS rfl ?_)
    show wpAny _ X.A.in1 (tryCatch (pyNext (.ref It)) _ >>= _) _ _ s
    refine wpAny_bind (wpAny_tryCatch (wpAny_pyNext_list_end (A := X.A.in1) hh M.it pl.isList (by simp; omega) fun h1 eb => ?_))
    have I1 : Inv X pins σ H { s with heap := h1 } := M.inv.turned (t' := s.toks) (fun b o nb q => eb b o nb q) M.fi.1 M.fi.2.1 M.fi.2.2.2.1 M.fi.2.2.2.2.1 M.fi.2.2.2.2.2
    have hS1 : h1.get? S = some (seqObj "list" #[ub, .ref tb] c) := eb S _ M.ne hS
    show wpAny _ X.A.in1 (updateSeq S (fun _ => #[]) >>= _) _ _ _
    refine wpAny_bind (wpAny_updateSeq (s := { s with heap := h1 }) hS1 rfl (wpAny_bind (wpAny_letGo (wpAny_pure ?_))))
    have sb := Heap.SameBut.update h1 S (Obj.mapSeq fun _ => (#[] : Array Value))
    have I2 := I1.turned (it := S) (t' := s.toks) (fun b o nb q => (sb.2 b nb).trans q) M.fs.1 M.fs.2.1 M.fs.2.2.2.1 M.fs.2.2.2.2.1 M.fs.2.2.2.2.2
    have le := M.le
    exact hR _ _ ⟨vb, H, I2, rb, hQ i vb H hvb ⟨by omega, fun j' hj' => M.best j' (by omega)⟩ M.same⟩
  | succ r ih =>
    intro j i H s hr0 hj M
    obtain ⟨vb, ub, tb, c, hvb, rb, htb, hS⟩ := M.held
    obtain ⟨its, rv, pl, hz⟩ := M.inv.list (SqL.of (M.same _ _ hl))
    have hlen := rv.length
    have hlt : j + 1 < us.length := by omega
    have hv : us[j + 1]? = some us[j + 1] := by simp [hlt]
    obtain ⟨u, hu, ru⟩ := rv.get hv
    refine codeAny_builtin PySem.F.entry_min_loop ?_
    rw [Around.under_plainId PySem.F.plain_min_loop _]
    show wpAny _ X.A.in1 (seqItems? (.ref S) >>= _) _ _ s
    refine wpAny_bind (wpAny_seqItems hS rfl ?_)
    show wpAny _ X.A.in1 (tryCatch (pyNext (.ref It)) _ >>= _) _ _ s
    refine wpAny_bind (wpAny_tryCatch (wpAny_pyNext_list_item (A := X.A.in1) M.it pl.isList (x := u) (by simpa using hu) fun h1 it1 sb => ?_))
    have I1 : Inv X pins σ H { s with heap := h1 } := M.inv.turned (t' := s.toks) (fun b o nb q => (sb.2 b nb).trans q) M.fi.1 M.fi.2.1 M.fi.2.2.2.1 M.fi.2.2.2.2.1 M.fi.2.2.2.2.2
    have hS1 : h1.get? S = some (seqObj "list" #[ub, .ref tb] c) := (sb.2 S M.ne).trans hS
    show wpAny _ X.A.in1 (tryCatch (holding [u] (call (.ref f) [u])) _ >>= _) _ _ _
    refine wpAny_bind (wpAny_tryCatch (wpAny_holding (wpAny_mono (key_run F hr hb (Q := fun z H2 => ∃ t, z = .ref t ∧ Same H H2 ∧ H2 t = some (.tup [.int (kf (j + 1)).1, .int (kf (j + 1)).2])) I1 ru (hk (j + 1) _ hv H M.same _ fun t H2 s2 ht => ⟨t, rfl, s2, ht⟩)) (fun y s2 hy => ?_) fun _ _ z => z.elim)))
    obtain ⟨z, H2, I2, rz, ⟨t, rfl, sm, ht⟩, keep⟩ := hy
    obtain rfl : y = .ref t := rz
    obtain ⟨oI, hoI, hoc, hod⟩ := it1
    obtain ⟨gI, fpI⟩ := keep It oI M.fi hoI
    obtain ⟨gS, fpS⟩ := keep S _ M.fs hS1
    have it2 : s2.heap.IsListIter It l (j + 1 + 1) := ⟨oI, gI, hoc, hod⟩
    have htb2 := sm _ _ htb
    obtain ⟨i1, r1, p1, _⟩ := I2.tuple (SqT.of ht)
    obtain ⟨i2, r2, p2, _⟩ := I2.tuple (SqT.of htb2)
    have n1 : IntsAre i1.toArray.toList [(kf (j + 1)).1, (kf (j + 1)).2] := intsAre_of r1
    have n2 : IntsAre i2.toArray.toList [(kf i).1, (kf i).2] := intsAre_of r2
    have hun : X.A.in1.units < cLine := by
      have := hr.un
      show X.A.units + 1 < cLine
      omega
    show wpAny _ X.A.in1 (tryCatch (holding [u, .ref t] (richCompare .Lt (.ref t) (.ref tb) >>= _)) _ >>= _) _ _ s2
    refine wpAny_bind (wpAny_tryCatch (wpAny_holding (wpAny_bind (HT.lt_tupInts (A := X.A.in1) p1 p2 n1 n2 hun ?_ : wpAny (model X.prog X.w) X.A.in1 (compareOp .Lt (.ref t) (.ref tb)) _ _ s2))))
    refine wpAny_bind (wpAny_holding (wpAny_truthy_bool (wpAny_bind (wpAny_letGo (wpAny_pure ?_)))))
    rw [lex2]
    by_cases c1 : ltP (kf (j + 1)) (kf i)
    · simp only [c1, decide_true, if_true]
      refine wpAny_bind (wpAny_updateSeq gS rfl (wpAny_bind (wpAny_letGo ?_)))
      rw [nm]
      have sb2 := Heap.SameBut.update s2.heap S (Obj.mapSeq fun _ => #[u, .ref t])
      obtain ⟨c2, hc2⟩ : ∃ c2, (s2.heap.update S (Obj.mapSeq fun _ => #[u, .ref t])).get? S = some (seqObj "list" #[u, .ref t] c2) := ⟨_, get?_update_seq gS fun _ => #[u, .ref t]⟩
      have I3 := I2.turned (it := S) (t' := s2.toks) (fun b o nb q => (sb2.2 b nb).trans q) fpS.1 fpS.2.1 fpS.2.2.2.1 fpS.2.2.2.2.1 fpS.2.2.2.2.2
      refine wpAny_pure ⟨plainId_quiet PySem.F.plain_min_loop _, ih (j + 1) (j + 1) H2 _ (by omega) hlt ⟨I3, M.same.trans sm, fpI, fpS, M.ne, ⟨oI, (sb2.2 It M.ne.symm).trans gI, hoc, hod⟩, Nat.le_refl _, fun j' hj' => ?_, _, u, t, c2, hv, ru, ht, hc2⟩⟩
      by_cases e : j' = j + 1
      · subst e
        unfold ltP
        exact ⟨by omega, by omega⟩
      · have q := M.best j' (by omega)
        unfold ltP at q c1 ⊢
        exact ⟨by omega, by omega⟩
    · simp only [c1, decide_false, Bool.false_eq_true, if_false]
      refine wpAny_bind (wpAny_letGo ?_)
      rw [nm]
      refine wpAny_pure ⟨plainId_quiet PySem.F.plain_min_loop _, ih (j + 1) i H2 s2 (by omega) hlt ⟨I2, M.same.trans sm, fpI, fpS, M.ne, it2, by have := M.le; omega, fun j' hj' => ?_, vb, ub, tb, c, hvb, rb, htb2, gS⟩⟩
      by_cases e : j' = j + 1
      · subst e
        have := M.le
        exact ⟨c1, by omega⟩
      · exact M.best j' (by omega)
end
section
variable {X : Cx} {k : Nat} {f : Addr} {fd : FuncData} {ps : List Str} {sp : Sp}
theorem cMinK (F : FnOk X.prog X.w X.K X.mg X.base CX0 k f fd ps sp) (hr : Room (k + 1) X.A) (hb : Binds X.K fd ps []) : CallRK X (.builtin "min") ["key"] (rMinK f sp) := by
  intro pins s σ H xs zs as ws Q I rx rz ⟨l, us, kf, ex, ez, hl, hne, hk, hQ⟩
  subst ex ez
  obtain ⟨w1, rfl, e1⟩ := vals1 rx
  obtain ⟨w2, rfl, e2⟩ := vals1 rz
  cases e1
  cases e2
  have nm : (toString "min" ++ toString ".loop" : String) = "min.loop" := by decide
  obtain ⟨its, rv, pl, hz⟩ := I.list (SqL.of hl)
  have hll : l < s.heap.objs.size := I.hok.lt hl
  show wpAny _ X.A (call (.builtin "min") [.ref l] [(Str.ofString "key", .ref f)]) _ _ s
  refine kmk_tree PySem.F.kind_min PySem.F.plain_min PySem.F.entry_min (kmk_min_key _ _) ?_
  show wpAny _ X.A.in1 (Builtin.Builtins.bindParams "min" ["key", "default"] 0 ⟨[], [(Str.ofString "key", .ref f)]⟩ >>= _) _ _ s
  refine wpAny_bind (wpAny_of_eq (a := [some (Value.ref f), none]) rfl (wpAny_bind (wpAny_pure (wpAny_bind (wpAny_pyIter_list pl.isList (wpAny_bind (wpAny_newList ?_ (Nat.zero_le _))))))))
  rw [nm]
  refine wpAny_pure ⟨plainId_quiet PySem.F.plain_min_loop _, ?_⟩
  -- the iterator at It, the empty scratch list at S
  generalize hIt : s.heap.objs.size = It
  have gIt := Heap.get?_push_size s.heap (o := { cls := .type "list_iterator", data := .fields #[.ref l, .int 0 0] }) rfl
  rw [hIt] at gIt
  generalize hh1 : s.heap.push { cls := .type "list_iterator", data := .fields #[.ref l, .int 0 0] } = h1 at gIt
  have z1 : h1.objs.size = It + 1 := by rw [← hh1, Heap.size_push, hIt]
  have k1 : ∀ b o, s.heap.get? b = some o → h1.get? b = some o := fun b o q => by rw [← hh1]; exact Heap.get?_push_of_some _ q
  have gS := Heap.get?_push_size h1 (o := seqObj "list" (#[] : Array Value) 0) rfl
  rw [z1] at gS
  generalize hS : It + 1 = S at gS z1
  have k2 : ∀ b o, h1.get? b = some o → (h1.push (seqObj "list" (#[] : Array Value) 0)).get? b = some o := fun b o q => Heap.get?_push_of_some _ q
  have I1 : Inv X pins σ H { s with heap := h1.push (seqObj "list" (#[] : Array Value) 0) } := I.kept (t' := s.toks) fun b o q => k2 b o (k1 b o q)
  have fI : FpOk X pins H It := I.fpOk (by rw [hIt]; exact Nat.le_refl _) (I.hok.fresh (by rw [hIt]; exact Nat.le_refl _))
  have fS : FpOk X pins H S := I.fpOk (by rw [hIt, ← hS]; exact Nat.le_succ _) (I.hok.fresh (by rw [hIt, ← hS]; exact Nat.le_succ _))
  have neS : S ≠ It := by rw [← hS]; exact Nat.succ_ne_self _
  have it0 : (h1.push (seqObj "list" (#[] : Array Value) 0)).IsListIter It l 0 := ⟨_, k2 _ _ gIt, rfl, rfl⟩
  obtain ⟨its', rv', pl', hz'⟩ := I1.list (SqL.of hl)
  have hv : us[0]? = some us[0] := by simp [hne]
  obtain ⟨u, hu, ru⟩ := rv'.get hv
  show codeAny _ X.A (.builtin "min.loop" ⟨[.ref It, .ref f, .ref h1.objs.size], []⟩) _ _
  rw [z1]
  refine codeAny_builtin PySem.F.entry_min_loop ?_
  rw [Around.under_plainId PySem.F.plain_min_loop _]
  show wpAny _ X.A.in1 (seqItems? (.ref S) >>= _) _ _ _
  refine wpAny_bind (wpAny_seqItems (s := { s with heap := h1.push (seqObj "list" (#[] : Array Value) 0) }) gS rfl ?_)
  show wpAny _ X.A.in1 (tryCatch (pyNext (.ref It)) _ >>= _) _ _ _
  refine wpAny_bind (wpAny_tryCatch (wpAny_pyNext_list_item (s := { s with heap := h1.push (seqObj "list" (#[] : Array Value) 0) }) (A := X.A.in1) it0 pl'.isList (x := u) (by simpa using hu) fun h3 it1 sb => ?_))
  have I2 := I1.turned (it := It) (t' := s.toks) (h' := h3) (fun b o nb q => (sb.2 b nb).trans q) fI.1 fI.2.1 fI.2.2.2.1 fI.2.2.2.2.1 fI.2.2.2.2.2
  have gS3 := (sb.2 S neS).trans gS
  show wpAny _ X.A.in1 (tryCatch (holding [u] (call (.ref f) [u])) _ >>= _) _ _ _
  refine wpAny_bind (wpAny_tryCatch (wpAny_holding (wpAny_mono (key_run F hr hb (Q := fun z H2 => ∃ t, z = .ref t ∧ Same H H2 ∧ H2 t = some (.tup [.int (kf 0).1, .int (kf 0).2])) I2 ru (hk 0 _ hv H (Same.refl _) _ fun t H2 s2 ht => ⟨t, rfl, s2, ht⟩)) (fun y s4 hy => ?_) fun _ _ z => z.elim)))
  obtain ⟨z, H4, I4, rz, ⟨t, rfl, sm, ht⟩, keep⟩ := hy
  obtain rfl : y = .ref t := rz
  obtain ⟨oI, hoI, hoc, hod⟩ := it1
  obtain ⟨gI, fpI⟩ := keep It oI fI hoI
  obtain ⟨gS4, fpS⟩ := keep S _ fS gS3
  show wpAny _ X.A.in1 (updateSeq S (fun _ => #[u, .ref t]) >>= _) _ _ s4
  refine wpAny_bind (wpAny_updateSeq gS4 rfl ?_)
  rw [nm]
  have sb2 := Heap.SameBut.update s4.heap S (Obj.mapSeq fun _ => #[u, .ref t])
  obtain ⟨c2, hc2⟩ : ∃ c2, (s4.heap.update S (Obj.mapSeq fun _ => #[u, .ref t])).get? S = some (seqObj "list" #[u, .ref t] c2) := ⟨_, get?_update_seq gS4 fun _ => #[u, .ref t]⟩
  have I5 := I4.turned (it := S) (t' := s4.toks) (fun b o nb q => (sb2.2 b nb).trans q) fpS.1 fpS.2.1 fpS.2.2.2.1 fpS.2.2.2.2.1 fpS.2.2.2.2.2
  refine wpAny_pure ⟨plainId_quiet PySem.F.plain_min_loop _, min_loop F hr hb hl hk hQ (fun y s' q => q) _ 0 0 H4 _ rfl hne ⟨I5, sm, fpI, fpS, neS, ⟨oI, (sb2.2 It neS.symm).trans gI, hoc, hod⟩, Nat.le_refl _, fun j' hj' => ?_, _, u, t, c2, hv, ru, ht, hc2⟩⟩
  obtain rfl : j' = 0 := by omega
  unfold ltP
  exact ⟨by omega, by omega⟩
end
/-- min(e, key=f) -/
def tMin (sp : Sp) (te : TE) : TE := fun σ H Q => te σ H fun v H1 => ∃ (l : Addr) (us : List V) (kf : Nat → Int × Int), v = .ref l ∧ H1 l = some (.lst us) ∧ 0 < us.length ∧
  (∀ (i : Nat) v, us[i]? = some v → ∀ H', Same H1 H' → ∀ Q' : VK, (∀ t H2, Same H' H2 → H2 t = some (.tup [.int (kf i).1, .int (kf i).2]) → Q' (.ref t) H2) → sp [v] H' Q' E0) ∧
  ∀ (i : Nat) v H', us[i]? = some v → Least kf us.length i → Same H1 H' → Q v H'
theorem pmin {X : Cx} {j k : Nat} {x : Str} {ps : List Str} {sp : Sp} {p p2 p3 pos : Pos} {e : Expr} {te : TE} (c : Cal X.prog X.w X.K X.mg X.base k x ps sp) (hr : Room j X.A) (hm : X.mg "min" = none) (he : PE X e te) (hk : k + 1 ≤ j := by first | decide | omega) (hgm : Gl X "min" := by rfl) (hg : Gl X x := by rfl) (hdb : (x == ("__debug__" : Str)) = false := by decide)
    (h1 : starEach [e] X.env = (false, eval e X.env) :: starEach [] X.env := by rfl) (h2 : backTo pos (starEach [e] X.env) = (false, eval e X.env) :: backTo pos (starEach [] X.env) := by rfl) (h3 : (backTo pos (starEach [e] X.env)).any (·.1) = false := by rfl)
    (h4 : (backToKw pos (keywordEach [⟨some "key", .Name x p2, p3⟩] X.env)).all (·.1.isSome) = true := by rfl) (h5 : (backToKw pos (keywordEach [⟨some "key", .Name x p2, p3⟩] X.env)).any (·.1.isNone) = false := by rfl) (h6 : (backToKw pos (keywordEach [⟨some "key", .Name x p2, p3⟩] X.env)).filterMap (·.1) = [("key" : Str)] := by rfl) :
    PE X (.Call (.Name "min" p) [e] [⟨some "key", .Name x p2, p3⟩] pos) (tMin sp te) := by
  obtain ⟨f, fd, F, m, kp, b⟩ := c
  have q := pe_callBK (pos := pos) (p := p) (cMinK F (hr.mono hk) b) hgm hm (by decide +kernel) (pa_cons he pa_nil h1) (pk_cons (nm := some "key") (kpos := p3) (pe_glob (pos := p2) (v := .ref f) hg m rfl hdb) pk_nil) (by decide) (by decide) h2 h3 h4 h5 h6
  refine ⟨fun pins s σ H Q I h => q.run pins s σ H Q I ?_⟩
  have e : (fun (v : V) (H1 : Hp) => rMinK f sp [v] [.ref f] H1 Q) = fun v H1 => ∃ (l : Addr) (us : List V) (kf : Nat → Int × Int), v = .ref l ∧ H1 l = some (.lst us) ∧ 0 < us.length ∧
      (∀ (i : Nat) v, us[i]? = some v → ∀ H', Same H1 H' → ∀ Q' : VK, (∀ t H2, Same H' H2 → H2 t = some (.tup [.int (kf i).1, .int (kf i).2]) → Q' (.ref t) H2) → sp [v] H' Q' E0) ∧
      ∀ (i : Nat) v H', us[i]? = some v → Least kf us.length i → Same H1 H' → Q v H' := by
    funext v H1
    refine propext ⟨fun ⟨l, us, kf, e1, _, r⟩ => ⟨l, us, kf, (List.cons.inj e1).1, r⟩, fun ⟨l, us, kf, e1, r⟩ => ⟨l, us, kf, by rw [e1], rfl, r⟩⟩
  show te σ H (fun (v : V) (H1 : Hp) => rMinK f sp [v] [.ref f] H1 Q)
  rw [e]
  exact h
end Clk
set_option Elab.async false
set_option maxRecDepth 100000
set_option maxHeartbeats 4000000
set_option linter.all false
set_option autoImplicit false
namespace Clk
open PySem PySem.Spec PyProof.Rows L2
/-! ### 13. Items written by their place; lists or tuples; [x] * n; sums; zip -/
theorem Each.set {α : Type} {R : α → Rp} {H : Hp} : ∀ {vs : List V} {xs : List α} (j : Nat) {v : V} {x : α}, Each R H vs xs → R x v H → Each R H (vs.set j v) (xs.set j x)
  | [], [], _, _, _, _, _ => trivial
  | _ :: _, _ :: _, 0, _, _, h, r => ⟨r, h.2⟩
  | _ :: _, _ :: _, j + 1, _, _, h, r => ⟨h.1, Each.set j h.2 r⟩
  | [], _ :: _, _, _, _, h, _ => h.elim
  | _ :: _, [], _, _, _, h, _ => h.elim
theorem Acc.set {α : Type} {R : α → Rp} [∀ x, Mg (R x)] {H0 H H1 : Hp} {l : Addr} {xs : List α} {v : V} {x : α} {vs : List V} (j : Nat) (a : Acc R H0 l xs H) (s : Same H H1) (h : H1 l = some (.lst vs)) (r : R x v H1) : Acc R H0 l (xs.set j x) (upd H1 l (.lst (vs.set j v))) := by
  obtain ⟨ws, hw, e⟩ := a.lst
  have z : ws = vs := by
    have q := s _ _ hw
    rw [h] at q
    cases q
    rfl
  subst z
  have k : Kp GF H1 (upd H1 l (.lst (ws.set j v))) := kp_lst h
  exact ⟨a.new, same_mut (a.same.trans s) a.new, _, upd_same, ((Each.mn (m := fun _ => mn_of_mg) s e).mg k).set j (Mg.mg k r)⟩
theorem ix_nat {n j : Nat} (h : j < n) : ixN n (j : Int) = some j := by
  unfold ixN
  rw [if_pos (by omega), if_pos (by omega), Int.toNat_natCast]
theorem ix_last {n : Nat} (h : 0 < n) : ixN n (-1) = some (n - 1) := by
  unfold ixN
  rw [if_neg (by decide), if_pos (by omega)]
  exact congrArg some (by omega)
def SeqOf {α : Type} (R : α → Rp) (xs : List α) : Rp := fun v H => TupOf R xs v H ∨ LstOf R xs v H
instance {α : Type} {R : α → Rp} {xs : List α} [∀ x, Mg (R x)] : Mn (SeqOf R xs) := ⟨fun s h => h.imp (Mn.mn s) (Mn.mn s)⟩
section
variable {σ : L2.St} {H H' : Hp} {R R' : Rp} {ta tb te tl : TE} {K : PySem.W.Frag} {D : Ends} {g : TG} {tu u : TS}
theorem er_ixS {α : Type} {Q : α → Rp} {xs : List α} {i : Int} {j : Nat} {x : α} [∀ x, Mg (Q x)] (ha : EvR ta σ H (SeqOf Q xs)) (hb : EvR tb σ H (IsI i)) (hi : i = (j : Int)) (hx : xs[j]? = some x) : EvR (tOp (rIx K) ta tb) σ H (Q x) :=
  er_two ha hb fun _ _ H1 _ r ey _ q => by
    rcases r with ⟨a, vs, ea, ht, k⟩ | ⟨a, vs, ea, ht, k⟩
    · obtain ⟨v, hv, r⟩ := k.get hx
      exact .inr (.inl ⟨a, vs, i, v, ea, ey, SqT.of ht, at_of hi hv, q v H1 (Same.refl _) r⟩)
    · obtain ⟨v, hv, r⟩ := k.get hx
      exact .inl ⟨a, vs, i, v, ea, ey, SqL.of ht, at_of hi hv, q v H1 (Same.refl _) r⟩
theorem er_i2 {α : Type} {R : α → Rp} {xs ys : List α} (h : EvR te σ H (LstOf R xs)) (e : xs = ys) : EvR te σ H (LstOf R ys) := e ▸ h
/-- xs[i] = e -/
theorem sq_set [Mn R] {l : Addr} {vs : List V} {i : Int} {j : Nat} (h : EvR te σ H R) (ho : EvR ta σ H (IsV (.ref l))) (hi : EvR tb σ H (IsI i)) (hl : H l = some (.lst vs)) (hj : ixN vs.length i = some j) (k : ∀ v H1, Same H H1 → R v H1 → u D σ (upd H1 l (.lst (vs.set j v)))) : tSeq (tAsg te (gSub ta tb rSetL)) u D σ H :=
  h H (Same.refl _) _ fun v H1 s1 r => ho H1 s1 _ fun o H2 s2 eo => hi H2 (s1.trans s2) _ fun y H3 s3 ey => ⟨l, vs, i, j, eo, ey, s3 _ _ (s2 _ _ (s1 _ _ hl)), hj, k v H3 (s1.trans (s2.trans s3)) (Mn.mn (s2.trans s3) r)⟩
theorem sr_set [Mn R] {l : Addr} {vs : List V} {i : Int} {j : Nat} (h : EvR te σ H R) (ho : EvR ta σ H (IsV (.ref l))) (hi : EvR tb σ H (IsI i)) (hl : H l = some (.lst vs)) (hj : ixN vs.length i = some j) (k : ∀ v H1, Same H H1 → R v H1 → D.nx σ (upd H1 l (.lst (vs.set j v)))) : tAsg te (gSub ta tb rSetL) D σ H :=
  h H (Same.refl _) _ fun v H1 s1 r => ho H1 s1 _ fun o H2 s2 eo => hi H2 (s1.trans s2) _ fun y H3 s3 ey => ⟨l, vs, i, j, eo, ey, s3 _ _ (s2 _ _ (s1 _ _ hl)), hj, k v H3 (s1.trans (s2.trans s3)) (Mn.mn (s2.trans s3) r)⟩
/-- [x] * n -/
theorem each_rep {α : Type} {R : α → Rp} {v : V} {x : α} (r : R x v H) : ∀ n, Each R H (List.replicate n [v]).flatten (List.replicate n x)
  | 0 => trivial
  | n + 1 => by
    rw [List.replicate_succ, List.replicate_succ, List.flatten_cons]
    exact ⟨r, each_rep r n⟩
theorem sq_rep {α : Type} {R : α → Rp} [∀ x, Mg (R x)] {x : α} {n i : Nat} (ha : EvR ta σ H (LstOf R [x])) (hb : EvR tb σ H (IsI (n : Int))) (hn : n ≤ 100000) (k : ∀ l H1, Acc R H l (List.replicate n x) H1 → u D (σ.set i (some (.ref l))) H1) : tSeq (tAsg (tOp rRep ta tb) (gName i)) u D σ H :=
  ha H (Same.refl _) _ fun v H1 s1 r1 => hb H1 s1 _ fun y H2 s2 ey => by
    obtain ⟨a, us, ev, hl, r⟩ := r1
    match us, r with
    | [w], r =>
      refine ⟨a, (n : Int), [w], ev, ey, s2 _ _ hl, by omega, by omega, ?_, fun p hp => ?_⟩
      · show 1 * (n : Int).toNat ≤ sizeLine
        rw [Nat.one_mul, Int.toNat_natCast]
        exact Nat.le_trans hn (by decide)
      · have s3 := same_new hp (.lst (List.replicate (n : Int).toNat [w]).flatten)
        refine k p _ ⟨(s1.trans s2).free hp, s1.trans (s2.trans s3), _, upd_same, ?_⟩
        rw [Int.toNat_natCast] at s3 ⊢
        exact each_rep (Mn.mn (s2.trans s3) r.1) n
theorem er_sum {ns : List Int} (h : EvR te σ H (LstOf (fun i => IsI i) ns)) : EvR (tCB (rSum K) (tCons te tNil)) σ H (IsI ns.sum) := fun H1 s _ q =>
  h H1 s _ fun v H2 s2 ⟨a, us, e, hl, r⟩ => ⟨a, ns, by rw [e], by rw [← r.ints]; exact SqL.of hl, q _ H2 s2 rfl⟩
/-- for i in range(m - 1, -1, -1) -/
theorem sq_forDn {ts : TA} {m : Nat} (h : EvA ts σ H [IsI ((m : Int) - 1), IsI (-1), IsI (-1)]) (hm : m ≤ 100000) (k : ∀ H1, Same H H1 → ∃ Pv : Nat → L2.St → Hp → Prop, Pv 0 σ H1 ∧
      (∀ i σ' H', i < m → Pv i σ' H' → g (.int ((m - 1 - i : Nat) : Int)) σ' H' fun σ2 H2 => tu { D with nx := Pv (i + 1), ct := Pv (i + 1), bk := u D } σ2 H2) ∧ ∀ σ' H', Pv m σ' H' → u D σ' H') : tSeq (tFor (iRng3 ts) g tu) u D σ H := by
    refine h H (Same.refl _) _ fun vs H1 s r => ?_
    obtain ⟨v1, v2, v3, rfl, e1, e2, e3⟩ := alls3 r
    obtain ⟨Pv, p0, p1, p2⟩ := k H1 s
    have q := RgC.neg (i := (m : Int) - 1) (j := -1) (by omega) (by omega) (by decide) (by decide)
    rw [show ((m : Int) - 1 - -1).toNat = m by omega] at q
    refine ⟨(m : Int) - 1, -1, -1, m, by rw [show v1 = _ from e1, show v2 = _ from e2, show v3 = _ from e3], q, for_rangeC (D := { D with nx := u D }) Pv p0 (fun i σ' H' hi p => ?_) p2⟩
    have q := p1 i σ' H' hi p
    rw [show ((m - 1 - i : Nat) : Int) = (m : Int) - 1 + (i : Int) * -1 by omega] at q
    exact q
/-- x = [.. for v in xs], the new list's place kept -/
theorem sq_lcLA {α β : Type} {R : α → Rp} {R' : β → Rp} [∀ x, Mg (R x)] [∀ x, Mg (R' x)] {xs : List α} {ys : List β} {j m : Nat} {vs : List Nat} (h : EvR tl σ H (LstOf R xs)) (hn : xs.length = ys.length) (hz : xs.length ≤ 100000) (hw : ∀ x, wipe ((wipe σ vs).set j (some x)) vs = wipe σ vs)
    (he : ∀ (i : Nat) x y v H1, xs[i]? = some x → ys[i]? = some y → Same H H1 → R x v H1 → EvR te ((wipe σ vs).set j (some v)) H1 (R' y)) (kk : ∀ l H1, Acc R' H l ys H1 → u D (σ.set m (some (.ref l))) H1) : tSeq (tAsg (tLc (iList K tl) (gName j) tYes te vs) (gName m)) u D σ H :=
  h H (Same.refl _) _ fun v H1 s1 ⟨a, us, ev, hl, r⟩ => ⟨a, ev, ⟨us, SqL.of hl⟩, fun Dl hD => by
    have hlen : us.length = ys.length := r.length.trans hn
    refine lc_list (xs := us) (fun i H' => Acc R' H1 Dl (ys.take i) H') (by rw [List.take_zero]; exact Acc.nil hD) (fun i H' _ p => SqL.of (p.same _ _ hl)) (fun i x H' hi p => ⟨hw x, ?_⟩) (fun H' p => ?_)
    · obtain ⟨x', hx', rx⟩ := r.getV hi
      have hlt : i < ys.length := by rw [← hlen]; exact (List.getElem?_eq_some_iff.mp hi).1
      have hy : ys[i]? = some ys[i] := by simp [hlt]
      exact lc_turn (R := R) (vs := vs) p (by omega) hy (he i x' ys[i] x H' hx' hy (s1.trans p.same) (Mn.mn p.same rx))
    · rw [hlen, List.take_length] at p
      exact kk Dl H' ⟨s1.free hD, s1.trans p.same, p.lst⟩⟩
/-- [.. for a, b in zip(xs, ys)] of two tuples -/
theorem walk_zT {a b : Addr} {us ws : List V} (h : us.length = ws.length) : Walk (RZ.ItzT K a b) us.length (fun H => SqT K H a us ∧ SqT K H b ws) (YPair (fun i => us[i]?) (fun i => ws[i]?)) := by
  refine ⟨fun i _ hi q => ⟨us, ws, us[i], ws[i]'(by omega), q.1, q.2, by simp [hi], by simp [show i < ws.length by omega]⟩, fun _ q => ⟨us, ws, q.1, q.2, .inl (Nat.le_refl _)⟩, fun i H v H' _ q ⟨T, x, z, h1, h2, h3, h4, h5⟩ => ⟨T, x, z, h1, h2, h3, h4 us q.1, h5 ws q.2⟩⟩
theorem er_lcZ {α β γ : Type} {R : α → Rp} {R2 : γ → Rp} {R' : β → Rp} [∀ x, Mg (R x)] [∀ x, Mg (R2 x)] [∀ x, Mg (R' x)] {xs : List α} {zs : List γ} {ys : List β} {j k : Nat} {vs : List Nat} (h1 : EvR ta σ H (TupOf R xs)) (h2 : EvR tb σ H (TupOf R2 zs)) (hn : xs.length = ys.length) (hn2 : zs.length = ys.length) (hz : xs.length ≤ 100000)
    (hw : ∀ x y, wipe (((wipe σ vs).set j (some x)).set k (some y)) vs = wipe σ vs) (he : ∀ (i : Nat) x z y v v2 H1, xs[i]? = some x → zs[i]? = some z → ys[i]? = some y → Same H H1 → R x v H1 → R2 z v2 H1 → EvR te (((wipe σ vs).set j (some v)).set k (some v2)) H1 (R' y)) :
    EvR (tLc (RZ.iZipA K (tCons ta (tCons tb tNil))) (gTup K 2 (gCons (gName j) (gCons (gName k) gNil))) tYes te vs) σ H (LstOf R' ys) := fun H0 s0 Q q =>
  h1 H0 s0 _ fun v H1 s1 ⟨a, us, ev, ht, r⟩ => h2 H1 (s0.trans s1) _ fun v2 H2 s2 ⟨b, ws, ev2, ht2, r2⟩ => ⟨a, b, us, ws, by rw [ev, ev2], .inr ⟨SqT.of (s2 _ _ ht), SqT.of ht2, fun Dl hD => by
    have hlen : us.length = ys.length := r.length.trans hn
    have hlen2 : ws.length = ys.length := r2.length.trans hn2
    refine lc_it (walk_zT (us := us) (ws := ws) (by omega)) (fun i H' => Acc R' H2 Dl (ys.take i) H') (by rw [List.take_zero]; exact Acc.nil hD) (fun i H' _ p => ⟨SqT.of (p.same _ _ (s2 _ _ ht)), SqT.of (p.same _ _ ht2)⟩) (fun i x H' H3 hi p ⟨T, x1, y1, e1, e2, e3, e4, e5⟩ => ?_) (fun H' p => ?_)
    · subst e1 e3
      obtain ⟨x', hx', rx⟩ := r.getV e4
      obtain ⟨z', hz', rz⟩ := r2.getV e5
      have hlt : i < ys.length := by rw [← hlen]; exact hi
      have hy : ys[i]? = some ys[i] := by simp [hlt]
      have p2 := p.grow (same_new e2 (.tup [x1, y1]))
      exact g_pair upd_same ⟨hw _ _, lc_turn (R := R) (vs := vs) p2 (by omega) hy (he i x' z' ys[i] x1 y1 _ hx' hz' hy (s0.trans (s1.trans (s2.trans p2.same))) (Mn.mn (s2.trans p2.same) rx) (Mn.mn p2.same rz))⟩
    · rw [hlen, List.take_length] at p
      obtain ⟨ws', hw', e'⟩ := p.lst
      exact q _ H' (s1.trans (s2.trans p.same)) ⟨Dl, ws', rfl, hw', e'⟩⟩⟩
theorem sr_forT (h : EvR tl σ H R) (k : ∀ v H1, Same H H1 → R v H1 → ∃ a vs, v = V.ref a ∧ H1 a = some (.tup vs) ∧ ∃ Pv : Nat → L2.St → Hp → Prop, Pv 0 σ H1 ∧ (∀ i σ' H', i ≤ vs.length → Pv i σ' H' → H' a = some (.tup vs)) ∧
      (∀ i x σ' H', vs[i]? = some x → Pv i σ' H' → g x σ' H' fun σ2 H2 => tu { D with nx := Pv (i + 1), ct := Pv (i + 1), bk := D.nx } σ2 H2) ∧ ∀ σ' H', Pv vs.length σ' H' → D.nx σ' H') : tFor (iTup K tl) g tu D σ H :=
  h H (Same.refl _) _ fun v H1 s r => by
    obtain ⟨a, vs, e, ht, Pv, h0, h1, h2, h3⟩ := k v H1 s r
    exact ⟨a, e, ⟨vs, SqT.of ht⟩, for_tup Pv h0 (fun i σ' H' hi p => SqT.of (h1 i σ' H' hi p)) h2 h3⟩
end
end Clk
set_option Elab.async false
set_option maxRecDepth 100000
set_option maxHeartbeats 4000000
set_option linter.all false
set_option autoImplicit false
namespace Clk
open PySem PySem.Spec PyProof.Rows L2
/-! ### 13. A written dict by whole numbers; a call of what an expression gives -/
def KeysI : List DictEntry → Prop
  | [] => True
  | e :: r => (∃ x t, e.key = .int x t ∧ e.hash = hashInt x) ∧ KeysI r
theorem KeysI.all : ∀ {l : List DictEntry}, KeysI l → ∀ e ∈ l, ∃ x t, e.key = .int x t ∧ e.hash = hashInt x
  | _ :: _, ⟨h, _⟩, _, .head _ => h
  | _ :: _, ⟨_, r⟩, _, .tail _ m => r.all _ m
theorem mapOf_Ki {prog : Program} {w : World} {h : Heap} {a : Addr} {K : PySem.W.Frag} {es : Array DictEntry} {n : Nat} (X : K.In h) (hl : K.lookup a = some ⟨.type "dict", none, .dict es n, #[]⟩) (hk : KeysI es.toList) : h.MapOf (PySem.intKind prog w) a (fun k => findBy Value.isInt es k) :=
  ⟨_, es, n, X _ _ hl, ⟨rfl, rfl, rfl⟩, rfl, fun e he => by
    obtain ⟨x, t, e1, e2⟩ := hk.all e (Array.mem_toList_iff.mpr he)
    exact ⟨x, by rw [e1]; exact PySem.intKind_is prog w x t, e2⟩, fun _ => rfl⟩
/-- the written dict at a has v under k -/
def KDci (K : PySem.W.Frag) (a : Addr) (k : Int) (v : V) : Prop := ∃ es n u, K.lookup a = some ⟨.type "dict", none, .dict es n, #[]⟩ ∧ KeysI es.toList ∧ findBy Value.isInt es k = some u ∧ RelV v u
def rIxDi (K : PySem.W.Frag) : R2 := fun x y H Q => ∃ p k v, x = .ref p ∧ y = .int k ∧ KDci K p k v ∧ Q v H
section
variable {X : Cx}
theorem ix_kdi : IxR X (rIxDi X.K) := by
  intro value slice pins s σ H x y v u Q I rx ry h hs
  obtain ⟨p, k, r, rfl, rfl, ⟨es, n, u0, hl, hk, e, ru⟩, q⟩ := h
  obtain rfl : v = Value.ref p := rx
  obtain ⟨t, rfl⟩ := ry
  have hm := mapOf_Ki (prog := X.prog) (w := X.w) I.kIn hl hk
  exact tail_any hm.typeIs slot_dict_getitem.lookup (wpAny_getItem_of (PySem.intKind_is X.prog X.w k t) hm e ⟨r, H, I.tok _, ru, q⟩) hs
theorem ixDiK {K : PySem.W.Frag} (h : X.K = K) : IxR X (rIxDi K) := h ▸ ix_kdi
/-- of several defs that the expression may give: the promise goes with the address -/
def tCallE (tf : TE) (S : Addr → Sp → Prop) (t : TA) : TE := fun σ H Q => tf σ H fun v H1 => ∃ f sp, v = .ref f ∧ S f sp ∧ t σ H1 fun vs H2 => sp vs H2 Q E0
theorem pe_callE {k : Nat} {fe e : Expr} {es : List Expr} {pos : Pos} {tf : TE} {t : TA} {S : Addr → Sp → Prop} (A : ∀ f sp, S f sp → Held X.prog X.w X.K X.mg X.base k f sp) (hr : Room k X.A) (hf : PE X fe tf) (ha : PA X (e :: es) t)
    (he0 : eval (.Call fe (e :: es) [] pos) X.env = (do callWith pos (← eval fe X.env) [] (backTo pos (starEach (e :: es) X.env)) (backToKw pos (keywordEach [] X.env))) := by rfl)
    (he : starEach (e :: es) X.env = (false, eval e X.env) :: starEach es X.env := by rfl) (hpl : (backTo pos (starEach es X.env)).any (·.1) = false := by rfl) : PE X (.Call fe (e :: es) [] pos) (tCallE tf S t) := by
  refine ⟨fun pins s σ H Q I h => ?_⟩
  refine Call_ (thn (hf.run pins s σ H _ I h) fun u s1 ⟨v, H1, I1, r1, q1⟩ => ?_) he0
  obtain ⟨f, sp, rfl, hS, ht⟩ := q1
  obtain ⟨fd, ps, F, hk, hb⟩ := (A f sp hS).ex
  cases r1
  refine PySem.W.callWith_K (h₀ := X.base) I.ok.mod.kin hk (thn (ha.run pos pins s1 σ _ _ I1 ht) fun us s2 ⟨vs, H2, I2, r, q⟩ => ⟨I2.kIn, ?_⟩) he hpl
  refine run_fn (dvs := []) (E := E0) F hr hb .nil (fun _ _ _ _ _ _ _ z => z.elim) I2 r ?_
  rw [List.append_nil]
  exact q
end
section
variable {σ : L2.St} {H : Hp} {R : Rp} {ta tb te tv : TE} {K : PySem.W.Frag} {D : Ends} {u : TS}
theorem er_kdi {p : Addr} {k : Int} {v : V} (ha : EvR ta σ H (IsV (.ref p))) (hb : EvR tb σ H (IsI k)) (h : KDci K p k v) : EvR (tOp (rIxDi K) ta tb) σ H (IsV v) :=
  er_two ha hb fun _ _ H1 _ ex ey _ q => ⟨p, k, v, ex, ey, h, q v H1 (Same.refl _) rfl⟩
/-- x is not None -/
theorem er_isNN {x : V} (ha : EvR ta σ H (IsV x)) {b : Bool} (hb : (!decide (x = .non)) = b) : EvR (tOp (fun x y H Q => y = .non ∧ Q (.bl (!decide (x = .non))) H) ta (tC .non)) σ H (IsB b) :=
  er_two (S2 := IsV .non) ha er_c fun y z H1 _ ex ey _ q => ⟨ey, q _ H1 (Same.refl _) (by rw [← hb, show y = x from ex]; rfl)⟩
/-- o.f = e -/
theorem sq_fld {f : Str} {a C dx : Addr} {fs : List (Str × V)} (h : EvR tv σ H R) [Mn R] (ho : EvR ta σ H (IsV (.ref a))) (hi : H a = some (.ins C dx fs)) (c : Cls K C) (n : NoAttr K C f) (hl : fs.length < 1000)
    (k : ∀ v H1, Same H H1 → R v H1 → u D σ (upd H1 a (.ins C dx (putF f v fs)))) : tSeq (sFld K ta tv f) u D σ H :=
  h H (Same.refl _) _ fun v H1 s1 r => ho H1 s1 _ fun x H2 s2 ex => ⟨a, C, dx, fs, ex, s2 _ _ (s1 _ _ hi), c, n, hl, k v H2 (s1.trans s2) (Mn.mn s2 r)⟩
theorem sr_fld {f : Str} {a C dx : Addr} {fs : List (Str × V)} (h : EvR tv σ H R) [Mn R] (ho : EvR ta σ H (IsV (.ref a))) (hi : H a = some (.ins C dx fs)) (c : Cls K C) (n : NoAttr K C f) (hl : fs.length < 1000)
    (k : ∀ v H1, Same H H1 → R v H1 → D.nx σ (upd H1 a (.ins C dx (putF f v fs)))) : sFld K ta tv f D σ H :=
  h H (Same.refl _) _ fun v H1 s1 r => ho H1 s1 _ fun x H2 s2 ex => ⟨a, C, dx, fs, ex, s2 _ _ (s1 _ _ hi), c, n, hl, k v H2 (s1.trans s2) (Mn.mn s2 r)⟩
/-- xs.extend(e) -/
theorem sq_ext {l : Addr} {vs : List V} {zs : List V} (h : EvR te σ H (IsL zs)) (hl : EvR ta σ H (IsV (.ref l))) (hv : H l = some (.lst vs)) (hz : vs.length + zs.length ≤ 1000000) (k : ∀ H1, Same H H1 → u D σ (upd H1 l (.lst (vs ++ zs)))) :
    tSeq (tDrop (tBM K "list" rExtend ta (tCons te tNil))) u D σ H :=
  hl H (Same.refl _) _ fun w H1 s1 ew => by
    obtain rfl : w = .ref l := ew
    exact ⟨Or.inl ⟨rfl, vs, SqL.of (s1 _ _ hv)⟩, h H1 s1 _ fun v H2 s2 ⟨b, eb, hb⟩ => ⟨l, b, vs, zs, rfl, by rw [eb], s2 _ _ (s1 _ _ hv), hb, Nat.le_trans hz (by decide), k H2 (s1.trans s2)⟩⟩
end
/-! ### 14. The chip: all but it stays -/
theorem kp_chip {H : Hp} {c C dx : Addr} {fs fs' : List (Str × V)} {v : V} (h : H c = some (.ins C dx fs)) (hs : fs.lookup ("source" : Str) = some v) : Kp GC H (upd H c (.ins C dx fs')) := fun b o e g => by
  by_cases z : b = c
  · subst z
    rw [h] at e
    cases e
    have g : fs.lookup ("source" : Str) = none := g
    rw [hs] at g
    cases g
  · rw [upd_ne z]
    exact e
/-- there or None -/
def IsO {α : Type} (R : α → Rp) : Option α → Rp
  | none => IsV .non
  | some x => fun v H => (v = .non → False) ∧ R x v H
instance {α : Type} {R : α → Rp} {o : Option α} [∀ x, Mn (R x)] : Mn (IsO R o) := ⟨fun {v H H'} s h => match o, h with
  | none, h => h
  | some x, h => ⟨h.1, Mn.mn s h.2⟩⟩
end Clk
set_option Elab.async false
set_option maxRecDepth 100000
set_option maxHeartbeats 4000000
set_option linter.all false
set_option autoImplicit false
namespace Clk
open PySem PySem.Spec PyProof.Rows L2
/-! ### 20. What the top has written -/
def DefIn (K : PySem.W.Frag) (x : Str) (st : Stmt) : Prop := ∃ (f : Addr) (oc : Value) (od an : Option Addr) (sl : Array (Option Value)) (kV dc pm cd ct : Value), PySem.W.nsIn K mainGlobals x = some (some (.ref f)) ∧
  K.lookup f = some ⟨oc, od, .func (PySem.W.fnOf x x (defArgs st) (defBody st) (defScope st) .none kV dc pm an cd ct), sl⟩ ∧ PySem.W.codeIn K cd x = true ∧ PySem.W.keepIn K (.ref f) = true
theorem defIn_mk {K : PySem.W.Frag} {x : Str} {st : Stmt} {f : Addr} {oc : Value} {od an : Option Addr} {sl : Array (Option Value)} {kV dc pm cd ct : Value} (a : PySem.W.nsIn K mainGlobals x = some (some (.ref f)))
    (l : K.lookup f = some ⟨oc, od, .func (PySem.W.fnOf x x (defArgs st) (defBody st) (defScope st) .none kV dc pm an cd ct), sl⟩) (c : PySem.W.codeIn K cd x = true) (k : PySem.W.keepIn K (.ref f) = true) : DefIn K x st := ⟨f, oc, od, an, sl, kV, dc, pm, cd, ct, a, l, c, k⟩
/-- how arguments meet the parameters -/
def Bd (x q : Str) (st : Stmt) (ps : List Str) : Prop := ∀ (kV doc pm : Value) (an : Option Addr) (cdv ct : Value) (us : List Value), us.length = ps.length → bindArgs (PySem.W.fnOf x q (defArgs st) (defBody st) (defScope st) .none kV doc pm an cdv ct) ⟨us, []⟩ = pure (ps.zip us)
theorem DefIn.at_ {K : PySem.W.Frag} {x : Str} {st : Stmt} {h : Heap} {mg : Str → Option Value} {ps : List Str} (d : DefIn K x st) (X : K.In h) (G : h.Ns mainGlobals mg) (b : Bd x x st ps) : DefAt K mg x st ps := by
  obtain ⟨f, oc, od, an, sl, kV, dc, pm, cd, ct, a, l, c, k⟩ := d
  have F := fun_mk (st := st) l c k
  exact ⟨f, _, F, PySem.W.mg_of X G a, F.binds b⟩
/-- a class with an __init__ -/
def ClsIn (K : PySem.W.Frag) (x q : Str) (C : Addr) (st : Stmt) : Prop := ∃ (f : Addr) (oc : Value) (od an : Option Addr) (sl : Array (Option Value)) (kV dc pm cd ct : Value), PySem.W.nsIn K mainGlobals x = some (some (.ref C)) ∧ PySem.W.findIn K (.ref C) "__init__" = some (some (.ref f)) ∧ PySem.W.isFn K (.ref f) = true ∧
  K.lookup f = some ⟨oc, od, .func (PySem.W.fnOf "__init__" q (defArgs st) (defBody st) (defScope st) .none kV dc pm an cd ct), sl⟩ ∧ PySem.W.codeIn K cd q = true ∧ PySem.W.keepIn K (.ref f) = true ∧ PySem.W.makesIn K C = true ∧ PySem.W.keepIn K (.ref C) = true
theorem clsIn_mk {K : PySem.W.Frag} {x q : Str} {C : Addr} {st : Stmt} {f : Addr} {oc : Value} {od an : Option Addr} {sl : Array (Option Value)} {kV dc pm cd ct : Value} (a : PySem.W.nsIn K mainGlobals x = some (some (.ref C))) (i : PySem.W.findIn K (.ref C) "__init__" = some (some (.ref f))) (n : PySem.W.isFn K (.ref f) = true)
    (l : K.lookup f = some ⟨oc, od, .func (PySem.W.fnOf "__init__" q (defArgs st) (defBody st) (defScope st) .none kV dc pm an cd ct), sl⟩) (c : PySem.W.codeIn K cd q = true) (k : PySem.W.keepIn K (.ref f) = true) (m : PySem.W.makesIn K C = true) (kc : PySem.W.keepIn K (.ref C) = true) : ClsIn K x q C st :=
  ⟨f, oc, od, an, sl, kV, dc, pm, cd, ct, a, i, n, l, c, k, m, kc⟩
theorem ClsIn.at_ {K : PySem.W.Frag} {x q : Str} {C : Addr} {st : Stmt} {h : Heap} {mg : Str → Option Value} {ps : List Str} (d : ClsIn K x q C st) (X : K.In h) (G : h.Ns mainGlobals mg) (b : Bd "__init__" q st ps) : ClsAt K mg x q C st ps := by
  obtain ⟨f, oc, od, an, sl, kV, dc, pm, cd, ct, a, i, n, l, c, k, m, kc⟩ := d
  have F := fun_mk (st := st) l c k
  exact ⟨f, _, F, ⟨m, i, n, kc⟩, PySem.W.mg_of X G a, F.binds b⟩
theorem gv_mk {K : PySem.W.Frag} {x : Str} {h : Heap} {mg : Str → Option Value} {i : Int} {t : Tok} (X : K.In h) (G : h.Ns mainGlobals mg) (a : PySem.W.nsIn K mainGlobals x = some (some (.int i t))) : GV mg x (.int i) := ⟨_, PySem.W.mg_of X G a, ⟨t, rfl⟩⟩
theorem kdi_mk {K : PySem.W.Frag} {a : Addr} {k : Int} {v : V} {es : Array DictEntry} {n : Nat} {u : Value} (l : K.lookup a = some ⟨.type "dict", none, .dict es n, #[]⟩) (hk : KeysI es.toList) (f : findBy Value.isInt es k = some u) (r : RelV v u) : KDci K a k v := ⟨es, n, u, l, hk, f, r⟩
end Clk
set_option Elab.async false
set_option maxRecDepth 100000
set_option maxHeartbeats 4000000
set_option linter.all false
set_option autoImplicit false
namespace Clk
open PySem PySem.Spec PyProof.Rows L2
/-! ### 15. More: extend by a tuple, min and max of a list, slices from the end, comprehensions with a test, a for over zip -/
def rExtT : V → List V → Hp → VK → Prop := fun x vs H Q => ∃ l b xs zs, x = .ref l ∧ vs = [.ref b] ∧ H l = some (.lst xs) ∧ H b = some (.tup zs) ∧ xs.length + zs.length ≤ sizeLine ∧ Q .non (upd H l (.lst (xs ++ zs)))
open PySem.AutoSeq1 in
theorem ext_tup (l : Addr) (items : Array Value) (n : Nat) (b : Addr) (items2 : Array Value) (n2 : Nat) (dd : Option Addr) (sl : Array (Option Value)) (hs0 : ¬(!items.isEmpty && Builtin.List.listTooLong (items.size + items2.size)) = true) (hs1 : items.size ≤ sizeLine) (hs2 : items.size + items2.size ≤ sizeLine + 1) :
    Meets (Builtin.«list.extend» ⟨[.ref l, .ref b], []⟩) (fun _ R s => s.heap.get? l = some { cls := .type "list", dict := none, data := .seq items n, slots := #[] } ∧ s.heap.get? b = some { cls := .type "tuple", dict := dd, data := .seq items2 n2, slots := sl } ∧ R (.ok (.ret Value.none)) { s with heap := s.heap.update l (Obj.mapSeq fun x => x ++ items2), toks := s.toks }) :=
  .of_wp fun prog w A R s h => by
    obtain ⟨hp, g, d, tk, os⟩ := s
    obtain ⟨hl, hb, h⟩ := h
    have f1 := PySem.AutoSeq1.idx_int
    have f2 := PySem.AutoSeq1.sub_tuple_tuple
    have f3 := PySem.AutoSeq1.sub_list_list
    have f4 := PySem.AutoSeq1.sub_tuple_list
    have f5 := PySem.AutoSeq1.sub_list_tuple
    have hz' : (items ++ items2).size ≤ sizeLine + 1 := by rw [Array.size_append]; exact hs2
    wp_walk using (wpAny_updateSeq hl rfl (hz := hs1) (_hz' := hz')), wpAny_loadPart' hl, wpAny_loadPart' hb
    exact ⟨_, rfl, h⟩
theorem mt_extendT {X : Cx} : MtM X "list.extend" rExtT := by
  intro pins s σ H x vs v us Q I rx rv h
  obtain ⟨l, b, xs, zs, rfl, rfl, hH, hB, hz, q⟩ := h
  cases rx
  obtain ⟨u, rfl, ru⟩ := rv.one
  cases ru
  obtain ⟨z, its, n, r, hl, e⟩ := I.lstM hH
  obtain ⟨its2, r2, pt, z2⟩ := I.tuple (SqT.of (K := X.K) hB)
  have pt : s.heap.IsTuple b its2.toArray := pt
  obtain ⟨⟨oc, dd, da, sl⟩, e2, hc, n2, hd⟩ := pt
  have hc : oc = .type "tuple" := hc
  have hd : da = .seq its2.toArray n2 := hd
  subst hc hd
  have hl2 := r2.length
  have hsz : its.toArray.size + its2.toArray.size ≤ sizeLine := by rw [List.size_toArray, List.size_toArray]; omega
  have hlong : ¬ (!its.toArray.isEmpty && Builtin.List.listTooLong (its.toArray.size + its2.toArray.size)) = true := by
    rw [notLongL hsz, Bool.and_false]
    exact Bool.false_ne_true
  refine call_meets F.slot_list_extend ⟨_, e, rfl⟩ F.entry_list_extend (F.args_list_extend_2 _ _)
    (ext_tup l its.toArray n b its2.toArray n2 dd sl hlong (by rw [List.size_toArray]; omega) (by omega)) ⟨e, e2, ?_⟩
  refine ⟨.non, _, I.lset (its' := its ++ its2) hH e (by simp) (r.append r2) ?_, rfl, q⟩
  rw [List.length_append]
  omega
section
variable {σ : L2.St} {H H' : Hp} {R R' : Rp} {ta tb tc te tl tv : TE} {K : PySem.W.Frag} {D : Ends} {g : TG} {tu u : TS}
theorem sr_extT {l : Addr} {vs : List V} {zs : List V} (h : EvR te σ H (IsT zs)) (hl : EvR ta σ H (IsV (.ref l))) (hv : H l = some (.lst vs)) (hz : vs.length + zs.length ≤ 1000000) (k : ∀ H1, Same H H1 → D.nx σ (upd H1 l (.lst (vs ++ zs)))) :
    tDrop (tBM K "list" rExtT ta (tCons te tNil)) D σ H :=
  hl H (Same.refl _) _ fun w H1 s1 ew => by
    obtain rfl : w = .ref l := ew
    exact ⟨Or.inl ⟨rfl, vs, SqL.of (s1 _ _ hv)⟩, h H1 s1 _ fun v H2 s2 ⟨b, eb, hb⟩ => ⟨l, b, vs, zs, rfl, by rw [eb], s2 _ _ (s1 _ _ hv), hb, Nat.le_trans hz (by decide), k H2 (s1.trans s2)⟩⟩
/-- a <= b <= c -/
theorem er_chain {i j k : Int} (ha : EvR ta σ H (IsI i)) (hb : EvR tb σ H (IsI j)) (hc : EvR tc σ H (IsI k)) : EvR (tChain (rI0 fun i j => .bl (decide (i ≤ j))) (rI0 fun i j => .bl (decide (i ≤ j))) ta tb tc) σ H (IsB (decide (i ≤ j) && decide (j ≤ k))) := fun H1 s Q q =>
  ha H1 s _ fun x H2 s2 ex => hb H2 (s.trans s2) _ fun y H3 s3 ey => by
    refine ⟨i, j, ex, ey, _, rfl, ?_⟩
    by_cases c : i ≤ j
    · rw [if_pos (decide_eq_true c)]
      refine hc H3 (s.trans (s2.trans s3)) _ fun z H4 s4 ez => ⟨j, k, ey, ez, q _ H4 (s2.trans (s3.trans s4)) ?_⟩
      rw [decide_eq_true c, Bool.true_and]
      rfl
    · rw [if_neg (by rw [decide_eq_false c]; decide)]
      refine q _ H3 (s2.trans s3) ?_
      rw [decide_eq_false c, Bool.false_and]
      rfl
theorem er_minL {ns : List Int} {m : Int} (h : EvR te σ H (LstOf (fun i => IsI i) ns)) (hn : 0 < ns.length) (hm : ∀ x ∈ ns, (∀ y ∈ ns, x ≤ y) → x = m) : EvR (tCB (rMin K) (tCons te tNil)) σ H (IsI m) := fun H1 s _ q =>
  h H1 s _ fun v H2 s2 ⟨a, us, e, hl, r⟩ => ⟨a, ns, by rw [e], by rw [← r.ints]; exact SqL.of hl, hn, fun x hx hy => q _ H2 s2 (by rw [hm x hx hy]; rfl)⟩
theorem er_maxL {ns : List Int} {m : Int} (h : EvR te σ H (LstOf (fun i => IsI i) ns)) (hn : 0 < ns.length) (hm : ∀ x ∈ ns, (∀ y ∈ ns, y ≤ x) → x = m) : EvR (tCB (rMax K) (tCons te tNil)) σ H (IsI m) := fun H1 s _ q =>
  h H1 s _ fun v H2 s2 ⟨a, us, e, hl, r⟩ => ⟨a, ns, by rw [e], by rw [← r.ints]; exact SqL.of hl, hn, fun x hx hy => q _ H2 s2 (by rw [hm x hx hy]; rfl)⟩
theorem minK {X : Cx} (hc : X.calm = true) (h : X.K = K) : CallR X (.builtin "min") (rMin K) := h ▸ cr_min hc
theorem maxK {X : Cx} (hc : X.calm = true) (h : X.K = K) : CallR X (.builtin "max") (rMax K) := h ▸ cr_max hc
/-! slices from the end -/
theorem cut_back {xs : List V} {j : Nat} (hj : 0 < j) : cutV xs (some (-(j : Int))) none = xs.drop (xs.length - j) := by
  unfold cutV
  have e : HT.sIx xs.length 0 (some (-(j : Int))) = xs.length - j := by
    show (if (-(j : Int)) < 0 then ((-(j : Int)) + (xs.length : Int)).toNat else min (-(j : Int)).toNat xs.length) = _
    rw [if_pos (by omega)]
    omega
  rw [HT.sIx_none, e, List.take_of_length_le (by rw [List.length_drop]; omega)]
theorem cut_last {xs : List V} : cutV xs none (some (-1)) = xs.take (xs.length - 1) := by
  unfold cutV
  have e : HT.sIx xs.length xs.length (some (-1)) = xs.length - 1 := by
    show (if (-1 : Int) < 0 then ((-1 : Int) + (xs.length : Int)).toNat else min (-1 : Int).toNat xs.length) = _
    rw [if_pos (by decide)]
    omega
  rw [HT.sIx_none, e, List.drop_zero, Nat.sub_zero]
theorem er_slBack {α : Type} {R : α → Rp} [∀ x, Mn (R x)] {xs : List α} {tl : TO} {i : Int} {j : Nat} (h : EvR te σ H (LstOf R xs)) (hh : EvO tl σ H (some i)) (hi : i = -(j : Int)) (hj : 0 < j) : EvR (tSl (rSlL K) te tl tNoPart) σ H (LstOf R (xs.drop (xs.length - j))) := fun H1 s Q q =>
  h H1 s _ fun x H2 s2 ⟨a, vs, e, ht, r⟩ => hh H2 (s.trans s2) _ fun H3 s3 => by
    refine ⟨a, vs, e, SqL.of (s3 _ _ ht), fun p hp => ?_⟩
    have s4 := same_new hp (.lst (cutV vs (some i) none))
    refine q _ _ ((s2.trans s3).trans s4) ⟨p, _, rfl, upd_same, ?_⟩
    rw [hi, cut_back hj]
    rw [hi, cut_back hj] at s4
    rw [r.length]
    rw [r.length] at s4
    exact Each.mn (s3.trans s4) (r.drop _)
theorem er_slLast {α : Type} {R : α → Rp} [∀ x, Mn (R x)] {xs : List α} {th : TO} (h : EvR te σ H (LstOf R xs)) (hh : EvO th σ H (some (-1))) : EvR (tSl (rSlL K) te tNoPart th) σ H (LstOf R (xs.take (xs.length - 1))) := fun H1 s Q q =>
  h H1 s _ fun x H2 s2 ⟨a, vs, e, ht, r⟩ => hh H2 (s.trans s2) _ fun H3 s3 => by
    refine ⟨a, vs, e, SqL.of (s3 _ _ ht), fun p hp => ?_⟩
    have s4 := same_new hp (.lst (cutV vs none (some (-1))))
    refine q _ _ ((s2.trans s3).trans s4) ⟨p, _, rfl, upd_same, ?_⟩
    rw [cut_last]
    rw [cut_last] at s4
    rw [r.length]
    rw [r.length] at s4
    exact Each.mn (s3.trans s4) (r.take _)
/-- xs + ys, [x] of what stays -/
theorem er_catN {α : Type} {R : α → Rp} [∀ x, Mn (R x)] {xs ys : List α} (ha : EvR ta σ H (LstOf R xs)) (hb : EvR tb σ H (LstOf R ys)) (hz : xs.length + ys.length ≤ 100000) : EvR (tOp rCat ta tb) σ H (LstOf R (xs ++ ys)) :=
  er_two ha hb fun x y H1 _ ⟨a, us, ea, hu, r⟩ ⟨b, ws, eb, hw, r2⟩ Q q => ⟨a, b, us, ws, ea, eb, hu, hw, Nat.le_trans (by rw [r.length, r2.length]; exact hz) (by decide : 100000 ≤ sizeLine), fun p hp => q _ _ (same_new hp _) ⟨p, _, rfl, upd_same, (Each.mn (same_new hp _) r).append (Each.mn (same_new hp _) r2)⟩⟩
theorem er_lst1N {α : Type} {R : α → Rp} [∀ x, Mn (R x)] {x : α} (h : EvR te σ H (R x)) : EvR (tLst (tCons te tNil)) σ H (LstOf R [x]) :=
  er_lst (ea_cons h ea_nil) (by simp) fun v vs a H' e h' ⟨H0, s0, n0, r, e'⟩ => by
    obtain ⟨v1, rfl, r1⟩ := alls1 r
    subst e'
    exact ⟨a, [v1], e, h', Mn.mn (same_new n0 _) r1, trivial⟩
theorem er_lst0 {α : Type} {R : α → Rp} : EvR (tLst tNil) σ H (LstOf R []) := er_lst ea_nil (by simp) fun v vs a H' e h' ⟨H0, s0, n0, r, e'⟩ => by
  match vs, r with
  | [], _ => exact ⟨a, [], e, h', trivial⟩
/-- [.. for v in xs if ..] -/
theorem er_lcIf {α β : Type} {R : α → Rp} {R' : β → Rp} [∀ x, Mg (R x)] [∀ x, Mg (R' x)] {xs : List α} {p : α → Bool} {f : α → β} {tt : TT} {j : Nat} {vs : List Nat} (h : EvR tl σ H (LstOf R xs)) (hz : xs.length ≤ 100000) (hw : ∀ x, wipe ((wipe σ vs).set j (some x)) vs = wipe σ vs)
    (ht : ∀ (i : Nat) x v H1, xs[i]? = some x → Same H H1 → R x v H1 → EvT tt ((wipe σ vs).set j (some v)) H1 (p x)) (he : ∀ (i : Nat) x v H1, xs[i]? = some x → Same H H1 → R x v H1 → EvR te ((wipe σ vs).set j (some v)) H1 (R' (f x))) :
    EvR (tLc (iList K tl) (gName j) tt te vs) σ H (LstOf R' ((xs.filter p).map f)) := fun H0 s0 Q q =>
  h H0 s0 _ fun v H1 s1 ⟨a, us, ev, hl, r⟩ => ⟨a, ev, ⟨us, SqL.of hl⟩, fun Dl hD => by
    refine lc_list (xs := us) (fun i H' => Acc R' H1 Dl (((xs.take i).filter p).map f) H') (by rw [List.take_zero]; exact Acc.nil hD) (fun i H' _ p => SqL.of (p.same _ _ hl)) (fun i x H' hi ac => ⟨hw x, ?_⟩) (fun H' ac => ?_)
    · obtain ⟨x', hx', rx⟩ := r.getV hi
      have sH := s0.trans (s1.trans ac.same)
      have e1 : ((xs.take (i + 1)).filter p).map f = ((xs.take i).filter p).map f ++ (if p x' then [f x'] else []) := by
        rw [List.take_add_one, hx', List.filter_append, List.map_append]
        congr 1
        show ([x'].filter p).map f = _
        cases hp : p x' <;> simp [hp]
      refine ht i x' x H' hx' sH (Mn.mn ac.same rx) H' (Same.refl _) _ fun H2 s2 => ?_
      cases hp : p x' with
      | false =>
        rw [if_neg (by decide), e1, hp, if_neg (by decide), List.append_nil]
        exact ac.grow s2
      | true =>
        rw [if_pos rfl]
        refine he i x' x H' hx' sH (Mn.mn ac.same rx) H2 s2 _ fun y H3 s3 ry => ?_
        obtain ⟨ws, hw', e'⟩ := (ac.grow (s2.trans s3)).lst
        have lw : ws.length ≤ xs.length := by
          rw [e'.length, List.length_map]
          refine Nat.le_trans (List.length_filter_le _ _) ?_
          rw [List.length_take]
          omega
        refine ⟨ws, hw', Nat.lt_of_le_of_lt (Nat.le_trans lw hz) (by decide), ?_⟩
        rw [e1, hp, if_pos rfl]
        exact ac.snoc (s2.trans s3) hw' ry
    · rw [r.length, List.take_length] at ac
      obtain ⟨ws, hw', e'⟩ := ac.lst
      exact q _ H' (s1.trans ac.same) ⟨Dl, ws, rfl, hw', e'⟩⟩
/-- for a, b in zip(t, u) of two tuples -/
theorem sr_forZ {i j : Nat} {us ws : List V} (h1 : EvR ta σ H (IsT us)) (h2 : EvR tb σ H (IsT ws)) (hn : us.length = ws.length)
    (k : ∀ H1, Same H H1 → ∃ Pv : Nat → L2.St → Hp → Prop, Pv 0 σ H1 ∧ (∀ n σ' H', Pv n σ' H' → Kp GF H1 H') ∧
      (∀ n x y σ' H' H2, us[n]? = some x → ws[n]? = some y → Pv n σ' H' → Same H' H2 → tu { D with nx := Pv (n + 1), ct := Pv (n + 1), bk := D.nx } ((σ'.set i (some x)).set j (some y)) H2) ∧ ∀ σ' H', Pv us.length σ' H' → D.nx σ' H') :
    tFor (RZ.iZipA K (tCons ta (tCons tb tNil))) (gTup K 2 (gCons (gName i) (gCons (gName j) gNil))) tu D σ H :=
  h1 H (Same.refl _) _ fun v H1 s1 ⟨a, ev, ht⟩ => h2 H1 s1 _ fun v2 H2 s2 ⟨b, ev2, ht2⟩ => ⟨a, b, us, ws, by rw [ev, ev2], .inr ⟨SqT.of (s2 _ _ ht), SqT.of ht2, by
    obtain ⟨Pv, p0, p1, p2, p3⟩ := k H2 (s1.trans s2)
    refine for_it (walk_zT hn) Pv p0 (fun n σ' H' _ p => ⟨SqT.of (p1 n σ' H' p _ _ (s2 _ _ ht) trivial), SqT.of (p1 n σ' H' p _ _ ht2 trivial)⟩) (fun n x σ' H' H3 hi p ⟨T, x1, y1, e1, e2, e3, e4, e5⟩ => ?_) p3
    subst e1 e3
    exact g_pair upd_same (p2 n x1 y1 σ' H' _ e4 e5 p (same_new e2 _))⟩⟩
end
end Clk
set_option Elab.async false
set_option maxRecDepth 100000
set_option maxHeartbeats 4000000
set_option linter.all false
set_option autoImplicit false
namespace Clk
open PySem PySem.Spec PyProof.Rows L2
abbrev Pl := Lr71.Place
abbrev Ar := Lr71.Area
def top (i : Nat) : Stmt := PySem.Challenge.pw_clocktree_s01_answers.main.body.getD i (.Pass ⟨0, 0, 0, 0⟩)
/-- what the names of the module's top and the built-ins' names stand for -/
structure Gs (mg : Str → Option Value) : Prop where
  z_len : mg "len" = none
  z_max : mg "max" = none
  z_min : mg "min" = none
  z_abs : mg "abs" = none
  z_sum : mg "sum" = none
  z_tuple : mg "tuple" = none
  z_list : mg "list" = none
  z_range : mg "range" = none
  z_enumerate : mg "enumerate" = none
  z_zip : mg "zip" = none
  z_isinstance : mg "isinstance" = none
  z_int : mg "int" = none
  g_PARTS : GV mg "PARTS" (.int 256)
abbrev IsPl (p : Pl) : Rp := IsT [.int p.s, .int p.t]
abbrev IsAr (x : Ar) : Rp := IsT [.int x.a, .int x.b, .int x.c, .int x.d]
section
variable {P : Program} {w : World} {K : PySem.W.Frag} {mg : Str → Option Value} {base : Heap}
abbrev s_in_parts : Stmt := top 2
abbrev N_in_parts : List Str := ["number"]
abbrev P_in_parts : List Str := ["number"]
theorem sc_in_parts : FnScope N_in_parts P_in_parts (defScope s_in_parts) := ⟨rfl, rfl, rfl, by decide +kernel, rfl, by decide +kernel, by decide +kernel⟩
def sp_in_parts : Sp := SpOf (ι := Int) (fun i => -(2 ^ 33) < i ∧ i < 2 ^ 33) (fun i => [IsI i]) (fun i => IsI (i * 256))
theorem ok_in_parts (F : DefAt K mg "in_parts" s_in_parts P_in_parts) (T : Gs mg) : Cal P w K mg base 1 "in_parts" P_in_parts sp_in_parts := by
  refine F.ok sc_in_parts (spOf_len fun _ => rfl) (fun f cdv A outer s H vs Q E hr ⟨i, hp, ha, k⟩ => ⟨_,
    (pss_one (ps_ret (pe_op op_mul (pv 0) (pgl T.g_PARTS)))), ?_⟩)
  obtain ⟨v1, rfl, h1⟩ := alls1 ha
  exact sr_ret (er_I (er_var rfl h1) er_c (.inr ⟨by decide, by decide⟩)) k
abbrev s_apart : Stmt := top 3
abbrev N_apart : List Str := ["place", "other"]
abbrev P_apart : List Str := ["place", "other"]
theorem sc_apart : FnScope N_apart P_apart (defScope s_apart) := ⟨rfl, rfl, rfl, by decide +kernel, rfl, by decide +kernel, by decide +kernel⟩
def sp_apart : Sp := SpOf (ι := Pl × Pl) (fun _ => True) (fun i => [IsPl i.1, IsPl i.2]) (fun i => IsI (Lr71.far i.1 i.2))
theorem ok_apart (F : DefAt K mg "apart" s_apart P_apart) (T : Gs mg) : Cal P w K mg base 1 "apart" P_apart sp_apart := by
  refine F.ok sc_apart (spOf_len fun _ => rfl) (fun f cdv A outer s H vs Q E hr ⟨i, hp, ha, k⟩ => ⟨_,
    (pss_one (ps_ret (pe_callB (cMax2 rfl) rfl T.z_max (by decide +kernel) (pa_cons (pe_callB cAbs rfl T.z_abs (by decide +kernel) (pa_cons (pe_op op_sub (pe_ix (ixK (K := K) rfl) (pv 0) pe_int (fun _ _ => rfl)) (pe_ix (ixK (K := K) rfl) (pv 1) pe_int (fun _ _ => rfl))) pa_nil)) (pa_cons (pe_callB cAbs rfl T.z_abs (by decide +kernel) (pa_cons (pe_op op_sub (pe_ix (ixK (K := K) rfl) (pv 0) pe_int (fun _ _ => rfl)) (pe_ix (ixK (K := K) rfl) (pv 1) pe_int (fun _ _ => rfl))) pa_nil)) pa_nil))))), ?_⟩)
  obtain ⟨v1, v2, rfl, h1, h2⟩ := alls2 ha
  exact sr_ret (er_max2 (er_abs (er_I0 (er_ixV (j := 0) (er_var rfl h1) er_c rfl rfl) (er_ixV (j := 0) (er_var rfl h2) er_c rfl rfl))) (er_abs (er_I0 (er_ixV (j := 1) (er_var rfl h1) er_c rfl rfl) (er_ixV (j := 1) (er_var rfl h2) er_c rfl rfl)))) k
abbrev s_area_of_place : Stmt := top 4
abbrev N_area_of_place : List Str := ["place"]
abbrev P_area_of_place : List Str := ["place"]
theorem sc_area_of_place : FnScope N_area_of_place P_area_of_place (defScope s_area_of_place) := ⟨rfl, rfl, rfl, by decide +kernel, rfl, by decide +kernel, by decide +kernel⟩
def sp_area_of_place : Sp := SpOf (ι := Pl) (fun _ => True) (fun i => [IsPl i]) (fun i => IsAr (Lr71.point i))
theorem ok_area_of_place (F : DefAt K mg "area_of_place" s_area_of_place P_area_of_place) (T : Gs mg) : Cal P w K mg base 1 "area_of_place" P_area_of_place sp_area_of_place := by
  refine F.ok sc_area_of_place (spOf_len fun _ => rfl) (fun f cdv A outer s H vs Q E hr ⟨i, hp, ha, k⟩ => ⟨_,
    (pss_one (ps_ret (pe_tup (pa_cons (pe_ix (ixK (K := K) rfl) (pv 0) pe_int (fun _ _ => rfl)) (pa_cons (pe_ix (ixK (K := K) rfl) (pv 0) pe_int (fun _ _ => rfl)) (pa_cons (pe_ix (ixK (K := K) rfl) (pv 0) pe_int (fun _ _ => rfl)) (pa_cons (pe_ix (ixK (K := K) rfl) (pv 0) pe_int (fun _ _ => rfl)) pa_nil))))))), ?_⟩)
  obtain ⟨v1, rfl, h1⟩ := alls1 ha
  exact sr_ret (er_t4 (er_ixV (j := 0) (er_var rfl h1) er_c rfl rfl) (er_ixV (j := 0) (er_var rfl h1) er_c rfl rfl) (er_ixV (j := 1) (er_var rfl h1) er_c rfl rfl) (er_ixV (j := 1) (er_var rfl h1) er_c rfl rfl)) k
abbrev s_gap : Stmt := top 5
abbrev N_gap : List Str := ["low", "high", "other_low", "other_high"]
abbrev P_gap : List Str := ["low", "high", "other_low", "other_high"]
theorem sc_gap : FnScope N_gap P_gap (defScope s_gap) := ⟨rfl, rfl, rfl, by decide +kernel, rfl, by decide +kernel, by decide +kernel⟩
def sp_gap : Sp := SpOf (ι := Int × Int × Int × Int) (fun _ => True) (fun i => [IsI i.1, IsI i.2.1, IsI i.2.2.1, IsI i.2.2.2]) (fun i => IsI (max (max 0 (i.2.2.1 - i.2.1)) (i.1 - i.2.2.2)))
theorem ok_gap (F : DefAt K mg "gap" s_gap P_gap) (T : Gs mg) : Cal P w K mg base 1 "gap" P_gap sp_gap := by
  refine F.ok sc_gap (spOf_len fun _ => rfl) (fun f cdv A outer s H vs Q E hr ⟨i, hp, ha, k⟩ => ⟨_,
    (pss_one (ps_ret (pe_callB (cMax3 rfl) rfl T.z_max (by decide +kernel) (pa_cons pe_int (pa_cons (pe_op op_sub (pv 2) (pv 1)) (pa_cons (pe_op op_sub (pv 0) (pv 3)) pa_nil)))))), ?_⟩)
  obtain ⟨v1, v2, v3, v4, rfl, h1, h2, h3, h4⟩ := alls4 ha
  exact sr_ret (er_max3 er_c (er_I0 (er_var rfl h3) (er_var rfl h2)) (er_I0 (er_var rfl h1) (er_var rfl h4))) k
abbrev s_areas_apart : Stmt := top 6
abbrev N_areas_apart : List Str := ["area", "other", "sums", "differences"]
abbrev P_areas_apart : List Str := ["area", "other"]
theorem sc_areas_apart : FnScope N_areas_apart P_areas_apart (defScope s_areas_apart) := ⟨rfl, rfl, rfl, by decide +kernel, rfl, by decide +kernel, by decide +kernel⟩
def sp_areas_apart : Sp := SpOf (ι := Ar × Ar) (fun _ => True) (fun i => [IsAr i.1, IsAr i.2]) (fun i => IsI (Lr71.apart i.1 i.2))
theorem ok_areas_apart (F : DefAt K mg "areas_apart" s_areas_apart P_areas_apart) (T : Gs mg) (c_gap : Cal P w K mg base 1 "gap" P_gap sp_gap) : Cal P w K mg base 2 "areas_apart" P_areas_apart sp_areas_apart := by
  refine F.ok sc_areas_apart (spOf_len fun _ => rfl) (fun f cdv A outer s H vs Q E hr ⟨⟨x, y⟩, hp, ha, k⟩ => ⟨_,
    (pss_cons (ps_set (i := 2) sc_areas_apart.nd rfl (Or.inl rfl) (pc c_gap hr (pa_cons (pe_ix (ixK (K := K) rfl) (pv 0) pe_int (fun _ _ => rfl)) (pa_cons (pe_ix (ixK (K := K) rfl) (pv 0) pe_int (fun _ _ => rfl)) (pa_cons (pe_ix (ixK (K := K) rfl) (pv 1) pe_int (fun _ _ => rfl)) (pa_cons (pe_ix (ixK (K := K) rfl) (pv 1) pe_int (fun _ _ => rfl)) pa_nil))))))
    (pss_cons (ps_set (i := 3) sc_areas_apart.nd rfl (Or.inl rfl) (pc c_gap hr (pa_cons (pe_ix (ixK (K := K) rfl) (pv 0) pe_int (fun _ _ => rfl)) (pa_cons (pe_ix (ixK (K := K) rfl) (pv 0) pe_int (fun _ _ => rfl)) (pa_cons (pe_ix (ixK (K := K) rfl) (pv 1) pe_int (fun _ _ => rfl)) (pa_cons (pe_ix (ixK (K := K) rfl) (pv 1) pe_int (fun _ _ => rfl)) pa_nil))))))
    (pss_one (ps_ret (pe_callB (cMax2 rfl) rfl T.z_max (by decide +kernel) (pa_cons (pv 2) (pa_cons (pv 3) pa_nil))))))), ?_⟩)
  obtain ⟨v1, v2, rfl, h1, h2⟩ := alls2 ha
  refine sq_asg (er_call (x.a, x.b, y.a, y.b) trivial (ea_cons (er_ixV (j := 0) (er_var rfl h1) er_c rfl rfl) (ea_cons (er_ixV (j := 1) (er_var rfl h1) er_c rfl rfl) (ea_cons (er_ixV (j := 0) (er_var rfl h2) er_c rfl rfl) (ea_cons (er_ixV (j := 1) (er_var rfl h2) er_c rfl rfl) ea_nil))))) fun v3 H1 s1 e3 => ?_
  refine sq_asg (er_call (x.c, x.d, y.c, y.d) trivial (ea_cons (er_ixV (j := 2) (er_var rfl (Mn.mn s1 h1)) er_c rfl rfl) (ea_cons (er_ixV (j := 3) (er_var rfl (Mn.mn s1 h1)) er_c rfl rfl) (ea_cons (er_ixV (j := 2) (er_var rfl (Mn.mn s1 h2)) er_c rfl rfl) (ea_cons (er_ixV (j := 3) (er_var rfl (Mn.mn s1 h2)) er_c rfl rfl) ea_nil))))) fun v4 H2 s2 e4 => ?_
  refine sr_ret (er_is (er_max2 (er_var rfl e3) (er_var rfl e4)) ?_) fun v H3 s3 r => k v H3 (s1.trans (s2.trans s3)) r
  show V.int _ = V.int (Lr71.apart x y)
  unfold Lr71.apart
  refine congrArg V.int ?_
  dsimp only
  omega
abbrev s_area_within : Stmt := top 7
abbrev N_area_within : List Str := ["area", "reach", "other", "other_reach"]
abbrev P_area_within : List Str := ["area", "reach", "other", "other_reach"]
theorem sc_area_within : FnScope N_area_within P_area_within (defScope s_area_within) := ⟨rfl, rfl, rfl, by decide +kernel, rfl, by decide +kernel, by decide +kernel⟩
def sp_area_within : Sp := SpOf (ι := Ar × Int × Ar × Int) (fun _ => True) (fun i => [IsAr i.1, IsI i.2.1, IsAr i.2.2.1, IsI i.2.2.2]) (fun i => IsAr (Lr71.common (Lr71.grown i.1 i.2.1) (Lr71.grown i.2.2.1 i.2.2.2)))
theorem ok_area_within (F : DefAt K mg "area_within" s_area_within P_area_within) (T : Gs mg) : Cal P w K mg base 1 "area_within" P_area_within sp_area_within := by
  refine F.ok sc_area_within (spOf_len fun _ => rfl) (fun f cdv A outer s H vs Q E hr ⟨i, hp, ha, k⟩ => ⟨_,
    (pss_one (ps_ret (pe_tup (pa_cons (pe_callB (cMax2 rfl) rfl T.z_max (by decide +kernel) (pa_cons (pe_op op_sub (pe_ix (ixK (K := K) rfl) (pv 0) pe_int (fun _ _ => rfl)) (pv 1)) (pa_cons (pe_op op_sub (pe_ix (ixK (K := K) rfl) (pv 2) pe_int (fun _ _ => rfl)) (pv 3)) pa_nil))) (pa_cons (pe_callB (cMin2 rfl) rfl T.z_min (by decide +kernel) (pa_cons (pe_op op_add (pe_ix (ixK (K := K) rfl) (pv 0) pe_int (fun _ _ => rfl)) (pv 1)) (pa_cons (pe_op op_add (pe_ix (ixK (K := K) rfl) (pv 2) pe_int (fun _ _ => rfl)) (pv 3)) pa_nil))) (pa_cons (pe_callB (cMax2 rfl) rfl T.z_max (by decide +kernel) (pa_cons (pe_op op_sub (pe_ix (ixK (K := K) rfl) (pv 0) pe_int (fun _ _ => rfl)) (pv 1)) (pa_cons (pe_op op_sub (pe_ix (ixK (K := K) rfl) (pv 2) pe_int (fun _ _ => rfl)) (pv 3)) pa_nil))) (pa_cons (pe_callB (cMin2 rfl) rfl T.z_min (by decide +kernel) (pa_cons (pe_op op_add (pe_ix (ixK (K := K) rfl) (pv 0) pe_int (fun _ _ => rfl)) (pv 1)) (pa_cons (pe_op op_add (pe_ix (ixK (K := K) rfl) (pv 2) pe_int (fun _ _ => rfl)) (pv 3)) pa_nil))) pa_nil))))))), ?_⟩)
  obtain ⟨v1, v2, v3, v4, rfl, h1, h2, h3, h4⟩ := alls4 ha
  exact sr_ret (er_tupV (ea_cons (er_max2 (er_I0 (er_ixV (j := 0) (er_var rfl h1) er_c rfl rfl) (er_var rfl h2)) (er_I0 (er_ixV (j := 0) (er_var rfl h3) er_c rfl rfl) (er_var rfl h4)))
    (ea_cons (er_min2 (er_I0 (er_ixV (j := 1) (er_var rfl h1) er_c rfl rfl) (er_var rfl h2)) (er_I0 (er_ixV (j := 1) (er_var rfl h3) er_c rfl rfl) (er_var rfl h4)))
    (ea_cons (er_max2 (er_I0 (er_ixV (j := 2) (er_var rfl h1) er_c rfl rfl) (er_var rfl h2)) (er_I0 (er_ixV (j := 2) (er_var rfl h3) er_c rfl rfl) (er_var rfl h4)))
    (ea_cons (er_min2 (er_I0 (er_ixV (j := 3) (er_var rfl h1) er_c rfl rfl) (er_var rfl h2)) (er_I0 (er_ixV (j := 3) (er_var rfl h3) er_c rfl rfl) (er_var rfl h4))) ea_nil))))) k
abbrev s_clamped : Stmt := top 8
abbrev N_clamped : List Str := ["number", "low", "high"]
abbrev P_clamped : List Str := ["number", "low", "high"]
theorem sc_clamped : FnScope N_clamped P_clamped (defScope s_clamped) := ⟨rfl, rfl, rfl, by decide +kernel, rfl, by decide +kernel, by decide +kernel⟩
def sp_clamped : Sp := SpOf (ι := Int × Int × Int) (fun i => i.2.1 ≤ i.2.2) (fun i => [IsI i.1, IsI i.2.1, IsI i.2.2]) (fun i => IsI (Lr71.within i.2.1 i.2.2 i.1))
theorem ok_clamped (F : DefAt K mg "clamped" s_clamped P_clamped) (T : Gs mg) : Cal P w K mg base 1 "clamped" P_clamped sp_clamped := by
  refine F.ok sc_clamped (spOf_len fun _ => rfl) (fun f cdv A outer s H vs Q E hr ⟨i, hp, ha, k⟩ => ⟨_,
    (pss_one (ps_ret (pe_callB (cMax2 rfl) rfl T.z_max (by decide +kernel) (pa_cons (pv 1) (pa_cons (pe_callB (cMin2 rfl) rfl T.z_min (by decide +kernel) (pa_cons (pv 0) (pa_cons (pv 2) pa_nil))) pa_nil))))), ?_⟩)
  obtain ⟨v1, v2, v3, rfl, h1, h2, h3⟩ := alls3 ha
  refine sr_ret (er_is (er_max2 (er_var rfl h2) (er_min2 (er_var rfl h1) (er_var rfl h3))) ?_) k
  refine congrArg V.int ?_
  unfold Lr71.within
  have := hp
  split
  · omega
  · split <;> omega
abbrev s_nearest_place : Stmt := top 9
abbrev N_nearest_place : List Str := ["area", "place"]
abbrev P_nearest_place : List Str := ["area", "place"]
theorem sc_nearest_place : FnScope N_nearest_place P_nearest_place (defScope s_nearest_place) := ⟨rfl, rfl, rfl, by decide +kernel, rfl, by decide +kernel, by decide +kernel⟩
def sp_nearest_place : Sp := SpOf (ι := Ar × Pl) (fun i => i.1.a ≤ i.1.b ∧ i.1.c ≤ i.1.d) (fun i => [IsAr i.1, IsPl i.2]) (fun i => IsPl (Lr71.near i.1 i.2))
theorem ok_nearest_place (F : DefAt K mg "nearest_place" s_nearest_place P_nearest_place) (T : Gs mg) (c_clamped : Cal P w K mg base 1 "clamped" P_clamped sp_clamped) : Cal P w K mg base 2 "nearest_place" P_nearest_place sp_nearest_place := by
  refine F.ok sc_nearest_place (spOf_len fun _ => rfl) (fun f cdv A outer s H vs Q E hr ⟨⟨x, p⟩, hp, ha, k⟩ => ⟨_,
    (pss_one (ps_ret (pe_tup (pa_cons (pc c_clamped hr (pa_cons (pe_ix (ixK (K := K) rfl) (pv 1) pe_int (fun _ _ => rfl)) (pa_cons (pe_ix (ixK (K := K) rfl) (pv 0) pe_int (fun _ _ => rfl)) (pa_cons (pe_ix (ixK (K := K) rfl) (pv 0) pe_int (fun _ _ => rfl)) pa_nil)))) (pa_cons (pc c_clamped hr (pa_cons (pe_ix (ixK (K := K) rfl) (pv 1) pe_int (fun _ _ => rfl)) (pa_cons (pe_ix (ixK (K := K) rfl) (pv 0) pe_int (fun _ _ => rfl)) (pa_cons (pe_ix (ixK (K := K) rfl) (pv 0) pe_int (fun _ _ => rfl)) pa_nil)))) pa_nil))))), ?_⟩)
  obtain ⟨v1, v2, rfl, h1, h2⟩ := alls2 ha
  exact sr_ret (er_t2 (er_call (p.s, x.a, x.b) hp.1 (ea_cons (er_ixV (j := 0) (er_var rfl h2) er_c rfl rfl) (ea_cons (er_ixV (j := 0) (er_var rfl h1) er_c rfl rfl) (ea_cons (er_ixV (j := 1) (er_var rfl h1) er_c rfl rfl) ea_nil))))
    (er_call (p.t, x.c, x.d) hp.2 (ea_cons (er_ixV (j := 1) (er_var rfl h2) er_c rfl rfl) (ea_cons (er_ixV (j := 2) (er_var rfl h1) er_c rfl rfl) (ea_cons (er_ixV (j := 3) (er_var rfl h1) er_c rfl rfl) ea_nil))))) k
end
end Clk
set_option Elab.async false
set_option maxRecDepth 100000
set_option maxHeartbeats 4000000
set_option linter.all false
set_option autoImplicit false
namespace Clk
open PySem PySem.Spec PyProof.Rows L2
abbrev Tr := Lr72.Tree
abbrev NN := Nat × Nat
abbrev IsN (k : Nat) : Rp := IsI (k : Int)
abbrev IsPr (p : NN) : Rp := IsT [.int (p.1 : Int), .int (p.2 : Int)]
abbrev IsPs (ps : List NN) : Rp := TupOf IsPr ps
section
variable {P : Program} {w : World} {K : PySem.W.Frag} {mg : Str → Option Value} {base : Heap}
abbrev s_joint_above : Stmt := top 16
abbrev N_joint_above : List Str := ["pairs", "number", "at", "pair"]
abbrev P_joint_above : List Str := ["pairs", "number"]
theorem sc_joint_above : FnScope N_joint_above P_joint_above (defScope s_joint_above) := ⟨rfl, rfl, rfl, by decide +kernel, rfl, by decide +kernel, by decide +kernel⟩
def sp_joint_above : Sp := SpOf (ι := List NN × Nat) (fun _ => True) (fun i => [IsPs i.1, IsN i.2]) (fun i => match CM.above i.1 i.2 with | some j => IsN j | none => IsV .non)
theorem above_at {ps : List NN} {k i : Nat} {p : NN} (hi : ps[i]? = some p) (hn : ∀ j q, j < i → ps[j]? = some q → (q.1 == k || q.2 == k) = false) (hp : (p.1 == k || p.2 == k) = true) : CM.above ps k = some i := by
  unfold CM.above
  rw [List.findIdx?_eq_some_iff_getElem]
  obtain ⟨h, e⟩ := List.getElem?_eq_some_iff.mp hi
  refine ⟨h, by rw [e]; exact hp, fun j hj => ?_⟩
  rw [hn j ps[j] hj (by simp)]
  exact Bool.false_ne_true
theorem above_none {ps : List NN} {k : Nat} (hn : ∀ j q, j < ps.length → ps[j]? = some q → (q.1 == k || q.2 == k) = false) : CM.above ps k = none := by
  unfold CM.above
  rw [List.findIdx?_eq_none_iff]
  intro x hx
  obtain ⟨j, hj, e⟩ := List.getElem_of_mem hx
  exact hn j x hj (by rw [← e]; simp)
theorem in_pair (k : Nat) (p : NN) : inV (.int (k : Int)) [.int (p.1 : Int), .int (p.2 : Int)] = (p.1 == k || p.2 == k) := by
  show ((decide ((p.1 : Int) = (k : Int))) || ((decide ((p.2 : Int) = (k : Int))) || false)) = _
  rw [Bool.or_false, Bool.eq_iff_iff]
  simp
  omega
theorem ok_joint_above (F : DefAt K mg "joint_above" s_joint_above P_joint_above) (T : Gs mg) : Cal P w K mg base 1 "joint_above" P_joint_above sp_joint_above := by
  refine F.ok sc_joint_above (spOf_len fun _ => rfl) (fun f cdv A outer s H vs Q E hr ⟨⟨ps, k⟩, hp, ha, kk⟩ => ⟨_,
    (pss_cons (ps_for PassesOwn.never rfl (piET (K := K) rfl rfl T.z_enumerate (pa_cons (pv 0) pa_nil)) (pgT (K := K) (n := 2) rfl rfl (pgs_cons (pg_name (i := 2) sc_joint_above.nd rfl (Or.inl rfl)) (pgs_cons (pg_name (i := 3) sc_joint_above.nd rfl (Or.inl rfl)) pgs_nil)))
      (pss_one (ps_if (pt_cmpR (inK (K := K) rfl) (pv 1) (pv 3) (by rfl)) (pss_one (ps_ret (pv 2))) pss_nil)))
    (pss_one (ps_ret pe_non))), ?_⟩)
  obtain ⟨v1, v2, rfl, h1, h2⟩ := alls2 ha
  obtain rfl : v2 = .int k := h2
  refine sq_forEnT (R := IsPs ps) (er_var rfl h1) fun v H1 s1 ⟨a, us, ev, hu, r⟩ => ⟨a, us, ev, hu, fun i σ' H' => Same H1 H' ∧ (∃ x y, σ' = [some v1, some (.int k), x, y]) ∧ ∀ j q, j < i → ps[j]? = some q → (q.1 == k || q.2 == k) = false, ⟨Same.refl _, ⟨_, _, rfl⟩, fun j q hj => absurd hj (Nat.not_lt_zero _)⟩, fun i σ' H' _ p => p.1 _ _ hu, ?_, ?_⟩
  · rintro i x T' σ' H' hx ⟨s2, ⟨x', y', rfl⟩, hn⟩ hT
    refine g_pair upd_same ?_
    obtain ⟨p, hp', rp⟩ := r.getV hx
    have s3 := s2.trans (same_new hT (.tup [.int (i : Nat), x]))
    have e1 : EvR (tOp (rIn K false) (tVar 1) (tVar 3)) [some v1, some (.int k), some (.int (i : Nat)), some x] (upd H' T' (.tup [.int (i : Nat), x])) (IsB (p.1 == k || p.2 == k)) :=
      er_two (R1 := IsN k) (S2 := IsPr p) (er_var rfl rfl) (er_var rfl (Mn.mn s3 rp)) fun u1 u2 H2 _ eu ⟨b, eb, hb⟩ Q' q => by
        obtain rfl : u1 = .int k := eu
        refine ⟨b, _, eb, .inr (SqT.of hb), rfl, rfl, q _ H2 (Same.refl _) ?_⟩
        show V.bl (inV (.int k) [.int (p.1 : Int), .int (p.2 : Int)]) = _
        rw [in_pair]
    refine sr_if (et_test e1) (fun c H2 s4 => ?_) (fun c H2 s4 => ⟨s3.trans s4, ⟨_, _, rfl⟩, fun j q hj hq => ?_⟩)
    · refine sr_ret (R := IsN i) (er_var rfl rfl) fun v' H3 s5 e => kk v' H3 (s1.trans (s3.trans (s4.trans s5))) ?_
      show (match CM.above ps k with | some j => IsN j | none => IsV .non) v' H3
      rw [above_at hp' hn c]
      exact e
    · by_cases z : j < i
      · exact hn j q z hq
      · obtain rfl : j = i := by omega
        rw [hp'] at hq
        cases hq
        exact c
  · rintro σ' H' ⟨s2, ⟨x', y', rfl⟩, hn⟩
    refine sr_ret (R := IsV .non) er_c fun v' H3 s5 e => kk v' H3 (s1.trans (s2.trans s5)) ?_
    show (match CM.above ps k with | some j => IsN j | none => IsV .non) v' H3
    rw [above_none (fun j q hj hq => hn j q (by rw [r.length]; exact hj) hq)]
    exact e
abbrev s_other_side : Stmt := top 17
abbrev N_other_side : List Str := ["pair", "number"]
abbrev P_other_side : List Str := ["pair", "number"]
theorem sc_other_side : FnScope N_other_side P_other_side (defScope s_other_side) := ⟨rfl, rfl, rfl, by decide +kernel, rfl, by decide +kernel, by decide +kernel⟩
def sp_other_side : Sp := SpOf (ι := NN × Nat) (fun _ => True) (fun i => [IsPr i.1, IsN i.2]) (fun i => IsN (CM.other i.1 i.2))
theorem ok_other_side (F : DefAt K mg "other_side" s_other_side P_other_side) (T : Gs mg) : Cal P w K mg base 1 "other_side" P_other_side sp_other_side := by
  refine F.ok sc_other_side (spOf_len fun _ => rfl) (fun f cdv A outer s H vs Q E hr ⟨⟨p, k⟩, hp, ha, kk⟩ => ⟨_,
    (pss_one (ps_ret (pe_ifExp (pt_cmpR op_eq (pe_ix (ixK (K := K) rfl) (pv 0) pe_int (fun _ _ => rfl)) (pv 1) (nomark _)) (pe_ix (ixK (K := K) rfl) (pv 0) pe_int (fun _ _ => rfl)) (pe_ix (ixK (K := K) rfl) (pv 0) pe_int (fun _ _ => rfl))))), ?_⟩)
  obtain ⟨v1, v2, rfl, h1, h2⟩ := alls2 ha
  refine sr_ret (er_ifE (et_test (er_eqI (er_ixV (j := 0) (er_var rfl h1) er_c rfl rfl) (er_var rfl h2))) (fun c => er_is (er_ixV (j := 1) (er_var rfl h1) er_c rfl rfl) ?_) (fun c => er_is (er_ixV (j := 0) (er_var rfl h1) er_c rfl rfl) ?_)) kk
  · have c : (p.1 : Int) = k := of_decide_eq_true c
    show V.int (p.2 : Int) = V.int (CM.other p k : Int)
    unfold CM.other
    rw [if_pos (by omega)]
  · have c : ¬ (p.1 : Int) = k := of_decide_eq_false c
    show V.int (p.1 : Int) = V.int (CM.other p k : Int)
    unfold CM.other
    rw [if_neg (by omega)]
abbrev s_number_without : Stmt := top 18
abbrev N_number_without : List Str := ["number", "leaf", "gone", "other", "kept"]
abbrev P_number_without : List Str := ["number", "leaf", "gone", "other"]
theorem sc_number_without : FnScope N_number_without P_number_without (defScope s_number_without) := ⟨rfl, rfl, rfl, by decide +kernel, rfl, by decide +kernel, by decide +kernel⟩
def sp_number_without : Sp := SpOf (ι := Nat × Nat × Nat × Nat) (fun i => 2 ≤ i.2.2.1) (fun i => [IsN i.1, IsN i.2.1, IsN i.2.2.1, IsN i.2.2.2]) (fun i => IsN (CM.numW i.1 i.2.1 i.2.2.1 i.2.2.2))
theorem ok_number_without (F : DefAt K mg "number_without" s_number_without P_number_without) (T : Gs mg) : Cal P w K mg base 1 "number_without" P_number_without sp_number_without := by
  refine F.ok sc_number_without (spOf_len fun _ => rfl) (fun f cdv A outer s H vs Q E hr ⟨⟨x, k, g, o⟩, hp, ha, kk⟩ => ⟨_,
    (pss_cons (ps_set (i := 4) sc_number_without.nd rfl (Or.inl rfl) (pe_ifExp (pt_cmpR op_eq (pv 0) (pv 2) (nomark _)) (pv 3) (pv 0)))
    (pss_cons (ps_if (pt_cmpR op_gt (pv 4) (pv 2) (nomark _)) (pss_one (ps_ret (pe_op op_sub (pv 4) pe_int))) pss_nil)
    (pss_cons (ps_if (pt_cmpR op_gt (pv 4) (pv 1) (nomark _)) (pss_one (ps_ret (pe_op op_sub (pv 4) pe_int))) pss_nil)
    (pss_one (ps_ret (pv 4)))))), ?_⟩)
  obtain ⟨v1, v2, v3, v4, rfl, h1, h2, h3, h4⟩ := alls4 ha
  have hp : 2 ≤ g := hp
  refine sq_asg (R := IsN (if x = g then o else x)) (er_ifE (et_test (er_eqI (er_var rfl h1) (er_var rfl h3))) (fun c => (er_var rfl h4).to fun v H' _ e => ?_) (fun c => (er_var rfl h1).to fun v H' _ e => ?_)) fun v5 H1 s1 e5 => ?_
  · have c : (x : Int) = g := of_decide_eq_true c
    rw [if_pos (by omega)]
    exact e
  · have c : ¬ (x : Int) = g := of_decide_eq_false c
    rw [if_neg (by omega)]
    exact e
  generalize hy : (if x = g then o else x) = y at e5
  have k1 : ∀ (z : Int) v' H', Same H H' → IsI z v' H' → z = (CM.numV y k g : Int) → Q v' H' := fun z v' H' s' e ez => kk v' H' s' (by
    show IsI ((CM.numV (if x = g then o else x) k g : Nat) : Int) v' H'
    rw [hy, ← ez]
    exact e)
  refine sq_ifr (et_test (er_I0 (er_var rfl e5) (er_var rfl (Mn.mn s1 h3)))) (fun c H2 s2 => ?_) fun c H2 s2 => ?_
  · have c : (g : Int) < (y : Int) := of_decide_eq_true c
    refine sr_ret (er_I0 (er_var rfl (Mn.mn s2 e5)) er_c) fun v' H3 s3 e => k1 _ v' H3 (s1.trans (s2.trans s3)) e ?_
    unfold CM.numV
    rw [if_pos (by omega)]
    omega
  have c : ¬ (g : Int) < (y : Int) := of_decide_eq_false c
  refine sq_ifr (et_test (er_I0 (er_var rfl (Mn.mn s2 e5)) (er_var rfl (Mn.mn (s1.trans s2) h2)))) (fun d H3 s3 => ?_) fun d H3 s3 => ?_
  · have d : (k : Int) < (y : Int) := of_decide_eq_true d
    refine sr_ret (er_I0 (er_var rfl (Mn.mn (s2.trans s3) e5)) er_c) fun v' H4 s4 e => k1 _ v' H4 (s1.trans (s2.trans (s3.trans s4))) e ?_
    unfold CM.numV
    rw [if_neg (by omega), if_pos (by omega)]
    omega
  · have d : ¬ (k : Int) < (y : Int) := of_decide_eq_false d
    refine sr_ret (er_var rfl (Mn.mn (s2.trans s3) e5)) fun v' H4 s4 e => k1 _ v' H4 (s1.trans (s2.trans (s3.trans s4))) e ?_
    unfold CM.numV
    rw [if_neg (by omega), if_neg (by omega)]
abbrev s_pairs_without : Stmt := top 19
abbrev N_pairs_without : List Str := ["pairs", "leaf", "above", "gone", "other", "kept", "pair"]
abbrev P_pairs_without : List Str := ["pairs", "leaf"]
theorem sc_pairs_without : FnScope N_pairs_without P_pairs_without (defScope s_pairs_without) := ⟨rfl, rfl, rfl, by decide +kernel, rfl, by decide +kernel, by decide +kernel⟩
def sp_pairs_without : Sp := SpOf (ι := List NN × Nat × Nat) (fun i => CM.above i.1 i.2.1 = some i.2.2 ∧ i.1.length ≤ 1000) (fun i => [IsPs i.1, IsN i.2.1]) (fun i => IsPs (CM.without i.1 i.2.1 i.2.2))
theorem above_lt {ps : List NN} {k j : Nat} (h : CM.above ps k = some j) : j < ps.length := by
  unfold CM.above at h
  rw [List.findIdx?_eq_some_iff_getElem] at h
  exact h.1
theorem ok_pairs_without (F : DefAt K mg "pairs_without" s_pairs_without P_pairs_without) (T : Gs mg) (c_joint_above : Cal P w K mg base 1 "joint_above" P_joint_above sp_joint_above) (c_other_side : Cal P w K mg base 1 "other_side" P_other_side sp_other_side)
    (c_number_without : Cal P w K mg base 1 "number_without" P_number_without sp_number_without) : Cal P w K mg base 2 "pairs_without" P_pairs_without sp_pairs_without := by
  refine F.ok sc_pairs_without (spOf_len fun _ => rfl) (fun f cdv A outer s H vs Q E hr ⟨⟨ps, k, j⟩, ⟨hj, hz⟩, ha, kk⟩ => ⟨_,
    (pss_cons (ps_set (i := 2) sc_pairs_without.nd rfl (Or.inl rfl) (pc c_joint_above hr (pa_cons (pv 0) (pa_cons (pv 1) pa_nil))))
    (pss_cons (ps_set (i := 3) sc_pairs_without.nd rfl (Or.inr rfl) (pe_op op_add (pe_op op_add (pe_callB (lenK (K := K) rfl) rfl T.z_len PySem.boot_len (pa_cons (pv 0) pa_nil)) pe_int) (pv 2)))
    (pss_cons (ps_set (i := 4) sc_pairs_without.nd rfl (Or.inr rfl) (pc c_other_side hr (pa_cons (pe_ix (ixK (K := K) rfl) (pv 0) (pv 2) (fun _ _ => rfl)) (pa_cons (pv 1) pa_nil))))
    (pss_cons (ps_set (i := 5) sc_pairs_without.nd rfl (Or.inl rfl) (pe_op (catK (K := K) rfl) (pe_slice (sltK (K := K) rfl) (pv 0) po_none (po_some (pv 2))) (pe_slice (sltK (K := K) rfl) (pv 0) (po_some (pe_op op_add (pv 2) pe_int)) po_none)))
    (pss_one (ps_ret (pe_callTy (tupK (K := K) rfl) rfl T.z_tuple (by decide +kernel) (pa_cons (pe_lc (own := [("pair", 6)]) (g := gName 6) (tt := tYes) rfl sc_pairs_without.nd (piT (K := K) rfl (pv 5)) (blkOk_by (own := [("pair", 6)]) (N := N_pairs_without) (sc := defScope s_pairs_without) (by decide +kernel)) (fun _ _ _ _ _ => (pg_name (i := 6) sc_pairs_without.nd rfl (Or.inl rfl))) (fun _ _ _ _ _ => pts_nil) (fun _ _ _ _ _ => (pe_tup (pa_cons (pc c_number_without hr (pa_cons (pe_ix (ixK (K := K) rfl) (pv 6) pe_int (fun _ _ => rfl)) (pa_cons (pv 1) (pa_cons (pv 3) (pa_cons (pv 4) pa_nil))))) (pa_cons (pc c_number_without hr (pa_cons (pe_ix (ixK (K := K) rfl) (pv 6) pe_int (fun _ _ => rfl)) (pa_cons (pv 1) (pa_cons (pv 3) (pa_cons (pv 4) pa_nil))))) pa_nil))))) pa_nil)))))))), ?_⟩)
  obtain ⟨v1, v2, rfl, h1, h2⟩ := alls2 (show Alls [IsPs ps, IsN k] vs H from ha)
  have hj : CM.above ps k = some j := hj
  have hz : ps.length ≤ 1000 := hz
  have jl := above_lt hj
  have gj : ps[j]? = some (ps.getD j (0, 0)) := by simp [jl]
  refine sq_asg (R := IsN j) ((er_call (ps, k) trivial (ea_cons (er_var rfl h1) (ea_cons (er_var rfl h2) ea_nil))).to fun v H' _ e => ?_) fun v3 H1 s1 e3 => ?_
  · have e : (match CM.above ps k with | some j => IsN j | none => IsV .non) v H' := e
    rw [hj] at e
    exact e
  refine sq_asg (R := IsN (ps.length + 1 + j)) (er_i (er_I0 (er_I0 (er_lenT (er_var rfl (Mn.mn s1 h1))) er_c) (er_var rfl e3)) (by omega)) fun v4 H2 s2 e4 => ?_
  refine sq_asg (er_call (ps.getD j (0, 0), k) trivial (ea_cons (er_ixT (j := j) (er_var rfl (Mn.mn (s1.trans s2) h1)) (er_var rfl (Mn.mn s2 e3)) rfl gj) (ea_cons (er_var rfl (Mn.mn (s1.trans s2) h2)) ea_nil))) fun v5 H3 s3 e5 => ?_
  have s13 : Same H H3 := s1.trans (s2.trans s3)
  refine sq_asg (R := IsPs (CM.cutP ps j)) (er_catT (er_slT (j := j) (er_var rfl (Mn.mn s13 h1)) (eo_some (er_var rfl (Mn.mn (s2.trans s3) e3))) rfl jl) (er_slTd (j := j + 1) (er_var rfl (Mn.mn s13 h1)) (eo_some (er_I0 (er_var rfl (Mn.mn (s2.trans s3) e3)) er_c)) rfl (Nat.succ_pos _) (by omega)) ?_) fun v6 H4 s4 e6 => ?_
  · rw [List.length_take, List.length_drop]
    omega
  have s14 := s13.trans s4
  have hc : (CM.cutP ps j).length ≤ 1000 := by
    unfold CM.cutP
    rw [List.length_append, List.length_take, List.length_drop]
    omega
  refine sr_ret (er_tuple (er_lcT (R' := IsPr) (ys := CM.without ps k j) (er_var rfl e6) (by unfold CM.without; rw [List.length_map]) (by omega) (fun _ => rfl) (fun i x y v H5 hx hy s5 rv => ?_))) fun v H5 s5 r => kk v H5 (s14.trans s5) r
  have ey : y = (CM.numW x.1 k (ps.length + 1 + j) (CM.other (ps.getD j (0, 0)) k), CM.numW x.2 k (ps.length + 1 + j) (CM.other (ps.getD j (0, 0)) k)) := by
    unfold CM.without at hy
    rw [List.getElem?_map, hx] at hy
    exact (Option.some.inj hy).symm
  subst ey
  have a1 : IsN (ps.length + 1 + j) v4 H5 := Mn.mn (s3.trans (s4.trans s5)) e4
  have a2 := Mn.mn (s4.trans s5) e5
  have a3 := Mn.mn (s14.trans s5) h2
  exact er_t2 (er_call (x.1, k, ps.length + 1 + j, CM.other (ps.getD j (0, 0)) k) (show 2 ≤ ps.length + 1 + j by omega) (ea_cons (er_ixV (j := 0) (er_var rfl rv) er_c rfl rfl) (ea_cons (er_var rfl a3) (ea_cons (er_var rfl a1) (ea_cons (er_var rfl a2) ea_nil)))))
    (er_call (x.2, k, ps.length + 1 + j, CM.other (ps.getD j (0, 0)) k) (show 2 ≤ ps.length + 1 + j by omega) (ea_cons (er_ixV (j := 1) (er_var rfl rv) er_c rfl rfl) (ea_cons (er_var rfl a3) (ea_cons (er_var rfl a1) (ea_cons (er_var rfl a2) ea_nil)))))
abbrev IsNs (l : List Nat) : Rp := TupOf IsN l
abbrev IsWay (w : List Nat × List Nat) : Rp := IsPair (IsNs w.1) (IsNs w.2)
abbrev s_splits : Stmt := top 15
abbrev N_splits : List Str := ["numbers", "ways", "number", "on_first", "on_second", "way"]
abbrev P_splits : List Str := ["numbers"]
theorem sc_splits : FnScope N_splits P_splits (defScope s_splits) := ⟨rfl, rfl, rfl, by decide +kernel, rfl, by decide +kernel, by decide +kernel⟩
def sp_splits : Sp := SpOf (ι := List Nat) (fun l => 2 ≤ l.length ∧ l.length ≤ 8) (fun l => [IsNs l]) (fun l => LstOf IsWay (CM.split l))
theorem pow_le7 {n : Nat} (h : n ≤ 7) : 2 ^ n ≤ 128 := Nat.pow_le_pow_right (by decide) h
theorem way_len {l : List Nat} (hl : l.length ≤ 8) (i : Nat) : (CM.ways ((l.drop 1).take i) [(l.take 1, [])]).length ≤ 128 := by
  rw [CM.ways_len, List.length_singleton, Nat.mul_one]
  refine pow_le7 ?_
  rw [List.length_take, List.length_drop]
  omega
theorem way_mem : ∀ (l : List Nat) (ws : List (List Nat × List Nat)) (n : Nat), (∀ w ∈ ws, w.1.length + w.2.length ≤ n) → ∀ w ∈ CM.ways l ws, w.1.length + w.2.length ≤ n + l.length
  | [], ws, n, h, w, hw => h w hw
  | k :: l, ws, n, h, w, hw => by
    have q := way_mem l (ws.map (fun w => (w.1 ++ [k], w.2)) ++ ws.map (fun w => (w.1, w.2 ++ [k]))) (n + 1) (fun w hw => ?_) w hw
    · rw [List.length_cons]
      omega
    · rcases List.mem_append.mp hw with z | z
      all_goals
        obtain ⟨w0, h0, rfl⟩ := List.mem_map.mp z
        have := h w0 h0
        simp only [List.length_append, List.length_singleton]
        omega
theorem ok_splits (F : DefAt K mg "splits" s_splits P_splits) (T : Gs mg) : Cal P w K mg base 1 "splits" P_splits sp_splits := by
  refine F.ok sc_splits (spOf_len fun _ => rfl) (fun f cdv A outer s H vs Q E hr ⟨l, ⟨hl, hl8⟩, ha, kk⟩ => ⟨_,
    (pss_cons (ps_set (i := 1) sc_splits.nd rfl (Or.inl rfl) (pe_lst (pa_cons (pe_tup (pa_cons (pe_slice (sltK (K := K) rfl) (pv 0) po_none (po_some pe_int)) (pa_cons (pe_tup pa_nil) pa_nil))) pa_nil)))
    (pss_cons (ps_for PassesOwn.never rfl (piT (K := K) rfl (pe_slice (sltK (K := K) rfl) (pv 0) (po_some pe_int) po_none)) (pg_name (i := 2) sc_splits.nd rfl (Or.inr rfl))
      (pss_cons (ps_setLc (own := [("way", 5)]) (g := gName 5) (tt := tYes) (i := 3) rfl sc_splits.nd rfl rfl (sw_true rfl rfl rfl (by decide +kernel)) (piL (K := K) rfl (pv 1)) (blkOk_by (own := [("way", 5)]) (N := N_splits) (sc := defScope s_splits) (by decide +kernel)) (fun _ _ _ _ _ => (pg_name (i := 5) sc_splits.nd rfl (Or.inl rfl))) (fun _ _ _ _ _ => pts_nil) (fun _ _ _ _ _ => (pe_tup (pa_cons (pe_op (catK (K := K) rfl) (pe_ix (ixK (K := K) rfl) (pv 5) pe_int (fun _ _ => rfl)) (pe_tup (pa_cons (pv 2) pa_nil))) (pa_cons (pe_ix (ixK (K := K) rfl) (pv 5) pe_int (fun _ _ => rfl)) pa_nil)))))
    (pss_cons (ps_setLc (own := [("way", 5)]) (g := gName 5) (tt := tYes) (i := 4) rfl sc_splits.nd rfl rfl (sw_true rfl rfl rfl (by decide +kernel)) (piL (K := K) rfl (pv 1)) (blkOk_by (own := [("way", 5)]) (N := N_splits) (sc := defScope s_splits) (by decide +kernel)) (fun _ _ _ _ _ => (pg_name (i := 5) sc_splits.nd rfl (Or.inl rfl))) (fun _ _ _ _ _ => pts_nil) (fun _ _ _ _ _ => (pe_tup (pa_cons (pe_ix (ixK (K := K) rfl) (pv 5) pe_int (fun _ _ => rfl)) (pa_cons (pe_op (catK (K := K) rfl) (pe_ix (ixK (K := K) rfl) (pv 5) pe_int (fun _ _ => rfl)) (pe_tup (pa_cons (pv 2) pa_nil))) pa_nil)))))
    (pss_one (ps_set (i := 1) sc_splits.nd rfl (Or.inl rfl) (pe_op op_cat (pv 3) (pv 4)))))))
    (pss_one (ps_ret (pe_slice (sllK (K := K) rfl) (pv 1) (po_some pe_int) po_none))))), ?_⟩)
  obtain ⟨v1, rfl, h1⟩ := alls1 ha
  refine sq_asg (R := LstOf IsWay [(l.take 1, [])]) (er_lst1 (R := IsWay) (x := (l.take 1, [])) (er_pair (er_slT (j := 1) (er_var rfl h1) (eo_some er_c) rfl (by omega)) er_tup0)) fun v2 H1 s1 e2 => ?_
  refine sq_forT (R := IsNs (l.drop 1)) (er_slTd (j := 1) (er_var rfl (Mn.mn s1 h1)) (eo_some er_c) rfl (by decide) (by omega)) fun v H2 s2 ⟨a, us, ev, hu, r⟩ => ⟨a, us, ev, hu, fun i σ' H' => Same H2 H' ∧ ∃ vw x y z, σ' = [some v1, some vw, x, y, z, none] ∧ LstOf IsWay (CM.ways ((l.drop 1).take i) [(l.take 1, [])]) vw H',
    ⟨Same.refl _, v2, none, none, none, rfl, Mn.mn s2 e2⟩, fun i σ' H' _ p => p.1 _ _ hu, ?_, ?_⟩
  · rintro i x σ' H' hx ⟨s3, vw, y2, y3, y4, rfl, hw⟩
    obtain ⟨n, hn, rn⟩ := r.getV hx
    obtain rfl : x = .int n := rn
    have wl := way_len hl8 i
    have wm : ∀ w ∈ CM.ways ((l.drop 1).take i) [(l.take 1, [])], w.1.length + w.2.length ≤ 20 := fun w hw => by
      have q := way_mem _ [(l.take 1, [])] 1 (fun w hw => by rw [List.mem_singleton.mp hw]; simp; omega) w hw
      rw [List.length_take, List.length_drop] at q
      omega
    refine sq_asg (R := LstOf IsWay ((CM.ways ((l.drop 1).take i) [(l.take 1, [])]).map fun w => (w.1 ++ [n], w.2))) (er_lcL (er_var rfl hw) (by rw [List.length_map]) (by omega) (fun _ => rfl) fun j p q v' H3 hp hq s4 rv => ?_) fun v3 H3 s4 e3 => ?_
    · rw [List.getElem?_map, hp] at hq
      obtain rfl := Option.some.inj hq
      have := wm p (List.mem_of_getElem? hp)
      exact er_pair (er_catT (er_fst (er_var rfl rv)) (er_tup1 (er_var rfl rfl)) (by simp; omega)) (er_snd (er_var rfl rv))
    refine sq_asg (R := LstOf IsWay ((CM.ways ((l.drop 1).take i) [(l.take 1, [])]).map fun w => (w.1, w.2 ++ [n]))) (er_lcL (er_var rfl (Mn.mn s4 hw)) (by rw [List.length_map]) (by omega) (fun _ => rfl) fun j p q v' H4 hp hq s5 rv => ?_) fun v4 H4 s5 e4 => ?_
    · rw [List.getElem?_map, hp] at hq
      obtain rfl := Option.some.inj hq
      have := wm p (List.mem_of_getElem? hp)
      exact er_pair (er_fst (er_var rfl rv)) (er_catT (er_snd (er_var rfl rv)) (er_tup1 (er_var rfl rfl)) (by simp; omega))
    refine sr_asg (er_catL (er_var rfl (Mn.mn s5 e3)) (er_var rfl e4) (by rw [List.length_map, List.length_map]; omega)) fun v5 H5 s6 e5 => ⟨s3.trans (s4.trans (s5.trans s6)), v5, _, _, _, rfl, ?_⟩
    rw [List.take_add_one, hn]
    show LstOf IsWay (CM.ways ((l.drop 1).take i ++ [n]) [(l.take 1, [])]) v5 H5
    rw [CM.ways_snoc]
    exact e5
  · rintro σ' H' ⟨s3, vw, y2, y3, y4, rfl, hw⟩
    rw [r.length, List.take_length] at hw
    exact sr_ret (er_slLd (j := 1) (er_var rfl hw) (eo_some er_c) rfl) fun v' H3 s5 e => kk v' H3 (s1.trans (s2.trans (s3.trans s5))) e
/-- a tree: a leaf's number, or a pair of trees -/
def IsTree : Tr → Rp
  | .leaf k => IsN k
  | .two x y => IsPair (IsTree x) (IsTree y)
theorem isTree_mg : ∀ t : Tr, Mg (IsTree t)
  | .leaf k => inferInstanceAs (Mg (IsN k))
  | .two x y => by
    have := isTree_mg x
    have := isTree_mg y
    exact inferInstanceAs (Mg (IsPair (IsTree x) (IsTree y)))
instance {t : Tr} : Mg (IsTree t) := isTree_mg t
abbrev s_add_pairs : Stmt := top 13
abbrev N_add_pairs : List Str := ["tree", "count", "pairs", "first", "second"]
abbrev P_add_pairs : List Str := ["tree", "count", "pairs"]
theorem sc_add_pairs : FnScope N_add_pairs P_add_pairs (defScope s_add_pairs) := ⟨rfl, rfl, rfl, by decide +kernel, rfl, by decide +kernel, by decide +kernel⟩
def sp_add_pairs (n : Nat) : Sp := fun vs H Q _ => ∃ (t : Tr) (c : Nat) (v : V) (l : Addr) (us : List V) (ps : List NN), CM.high t < n ∧ vs = [v, .int (c : Int), .ref l] ∧ IsTree t v H ∧ H l = some (.lst us) ∧ Each IsPr H us ps ∧ ps.length + (CM.prs t (c + ps.length)).1.length ≤ 1000 ∧
  ∀ H' us', (∀ b o, H b = some o → b ≠ l → H' b = some o) → H' l = some (.lst us') → Each IsPr H' us' (ps ++ (CM.prs t (c + ps.length)).1) → Q (.int ((CM.prs t (c + ps.length)).2.1 : Int)) H'
theorem kp_but {H H' : Hp} {l : Addr} {us : List V} (hl : H l = some (.lst us)) (k : ∀ b o, H b = some o → b ≠ l → H' b = some o) : Kp GF H H' := fun b o e g => k b o e fun z => by
  subst z
  rw [hl] at e
  cases e
  exact g
theorem ok_add_pairs (F : DefAt K mg "add_pairs" s_add_pairs P_add_pairs) (T : Gs mg) : ∀ n, Cal P w K mg base n "add_pairs" P_add_pairs (sp_add_pairs n)
  | 0 => by
    obtain ⟨f, fd, F, m, b⟩ := F
    have no : ∀ vs H Q E, ¬ sp_add_pairs 0 vs H Q E := fun vs H Q E ⟨t, c, v, l, us, ps, h, _⟩ => Nat.not_lt_zero _ h
    exact ⟨f, fd, ⟨fun vs H Q E h => absurd h (no vs H Q E), fun A outer s H args us vs Q E _ _ _ _ h => absurd h (no vs H Q E)⟩, m, F.kp, b⟩
  | n + 1 => by
    have c_add_pairs : Cal P w K mg base n "add_pairs" P_add_pairs (sp_add_pairs n) := ok_add_pairs F T n
    refine F.ok sc_add_pairs (fun vs H Q E ⟨t, c, v, l, us, ps, _, e, _⟩ => by rw [e]; rfl) (fun f cdv A outer s H vs Q E hr ⟨t, c, v, l, us, ps, hh, hvs, ht, hl, he, hz, kk⟩ => ⟨_,
      (pss_cons (ps_if (pt_val (pe_callB (isiK (K := K) rfl) rfl T.z_isinstance (by decide +kernel) (pa_cons (pv 0) (pa_cons (pe_bltn (v := .ty "int") rfl T.z_int boot_int rfl) pa_nil)))) (pss_one (ps_ret (pv 0))) pss_nil)
    (pss_cons (ps_set (i := 3) sc_add_pairs.nd rfl (Or.inl rfl) (pc c_add_pairs hr (pa_cons (pe_ix (ixK (K := K) rfl) (pv 0) pe_int (fun _ _ => rfl)) (pa_cons (pv 1) (pa_cons (pv 2) pa_nil)))))
    (pss_cons (ps_set (i := 4) sc_add_pairs.nd rfl (Or.inl rfl) (pc c_add_pairs hr (pa_cons (pe_ix (ixK (K := K) rfl) (pv 0) pe_int (fun _ _ => rfl)) (pa_cons (pv 1) (pa_cons (pv 2) pa_nil)))))
    (pss_cons (ps_expr (pbm (K := K) (T := "list") rfl (pe_bm PySem.F.plainAttrs_list PySem.F.slot_list_append PySem.F.type_list_append mt_append (pv 2) (pa_cons (pe_tup (pa_cons (pv 3) (pa_cons (pv 4) pa_nil))) pa_nil))))
    (pss_one (ps_ret (pe_op op_sub (pe_op op_add (pv 1) (pe_callB (lenK (K := K) rfl) rfl T.z_len PySem.boot_len (pa_cons (pv 2) pa_nil))) pe_int))))))), ?_⟩)
    subst hvs
    cases t with
    | leaf k =>
      obtain rfl : v = .int k := ht
      refine ⟨_, rfl, .int k, .ty "int", .type "int", .type "int", true, rfl, .ty _, .base (.int _), (by rfl), true, rfl, iteT ?_⟩
      refine ⟨_, rfl, ?_⟩
      exact kk H us (fun b o e _ => e) hl (by rw [show (CM.prs (.leaf k) (c + ps.length)).1 = [] from rfl, List.append_nil]; exact he)
    | two x y =>
      have hx : CM.high x < n := by
        have : CM.high (.two x y) = max (CM.high x) (CM.high y) + 1 := rfl
        omega
      have hy : CM.high y < n := by
        have : CM.high (.two x y) = max (CM.high x) (CM.high y) + 1 := rfl
        omega
      obtain ⟨a, u1, u2, rfl, ha, h1, h2⟩ := ht
      have ep : (CM.prs (.two x y) (c + ps.length)).1 = (CM.prs x (c + ps.length)).1 ++ (CM.prs y (CM.prs x (c + ps.length)).2.2).1 ++ [((CM.prs x (c + ps.length)).2.1, (CM.prs y (CM.prs x (c + ps.length)).2.2).2.1)] := rfl
      have en := CM.prs_next x (c + ps.length)
      have en2 := CM.prs_next y (CM.prs x (c + ps.length)).2.2
      rw [ep] at hz kk
      rw [List.length_append, List.length_append, List.length_singleton] at hz
      refine ⟨_, rfl, .ref a, .ty "int", .type "tuple", .type "int", false, rfl, .ty _, .base (.tup ha), (by rfl), false, rfl, iteF ?_⟩
      -- first = add_pairs(tree[0], count, pairs)
      refine ⟨_, rfl, .inr (.inl ⟨a, _, 0, u1, rfl, rfl, SqT.of ha, at_of (j := 0) rfl rfl, _, rfl, _, rfl, x, c, u1, l, us, ps, hx, rfl, h1, hl, he, by omega, fun H1 us1 k1 hl1 he1 => ?_⟩)⟩
      have q1 := kp_but hl k1
      have ha1 : H1 a = some (.tup [u1, u2]) := q1 _ _ ha trivial
      -- second
      have el : c + (ps ++ (CM.prs x (c + ps.length)).1).length = (CM.prs x (c + ps.length)).2.2 := by
        rw [List.length_append]
        omega
      refine ⟨_, rfl, .inr (.inl ⟨a, _, 1, u2, rfl, rfl, SqT.of ha1, at_of (j := 1) rfl rfl, _, rfl, _, rfl, y, c, u2, l, us1, _, hy, rfl, Mg.mg q1 h2, hl1, he1, by rw [el, List.length_append]; omega, fun H2 us2 k2 hl2 he2 => ?_⟩)⟩
      rw [el] at he2 ⊢
      -- pairs.append((first, second))
      have hlen := he2.length
      rw [List.length_append, List.length_append] at hlen
      refine sq_app (R := IsPr ((CM.prs x (c + ps.length)).2.1, (CM.prs y (CM.prs x (c + ps.length)).2.2).2.1)) (er_t2 (er_var rfl rfl) (er_var rfl rfl)) (er_var rfl rfl) hl2 (by omega) fun v3 H3 s3 e3 => ?_
      have he3 : Each IsPr (upd H3 l (.lst (us2 ++ [v3]))) (us2 ++ [v3]) (ps ++ ((CM.prs x (c + ps.length)).1 ++ (CM.prs y (CM.prs x (c + ps.length)).2.2).1 ++ [((CM.prs x (c + ps.length)).2.1, (CM.prs y (CM.prs x (c + ps.length)).2.2).2.1)])) := by
        have q := ((Each.mn (m := fun _ => mn_of_mg) s3 he2).mg (kp_lst (ys := us2 ++ [v3]) (s3 _ _ hl2))).snoc (Mg.mg (kp_lst (ys := us2 ++ [v3]) (s3 _ _ hl2)) e3)
        simp only [List.append_assoc] at q ⊢
        exact q
      refine sr_ret (R := IsN (CM.prs (.two x y) (c + ps.length)).2.1) (er_i (er_I0 (er_I0 (er_var rfl rfl) (er_lenL (er_var rfl ⟨l, _, rfl, upd_same, he3⟩))) er_c) ?_) fun v4 H4 s4 e4 => ?_
      · show (c : Int) + _ - 1 = ((CM.prs y (CM.prs x (c + ps.length)).2.2).2.2 : Int)
        rw [List.length_append, List.length_append, List.length_append, List.length_singleton]
        omega
      · obtain rfl : v4 = .int _ := e4
        refine kk H4 (us2 ++ [v3]) (fun b o e nb => s4 _ _ ?_) (s4 _ _ upd_same) (Each.mn (m := fun _ => mn_of_mg) s4 he3)
        rw [upd_ne nb]
        exact s3 _ _ (k2 b o (k1 b o e nb) nb)
abbrev s_pairs_of_tree : Stmt := top 14
abbrev N_pairs_of_tree : List Str := ["tree", "count", "pairs"]
abbrev P_pairs_of_tree : List Str := ["tree", "count"]
theorem sc_pairs_of_tree : FnScope N_pairs_of_tree P_pairs_of_tree (defScope s_pairs_of_tree) := ⟨rfl, rfl, rfl, by decide +kernel, rfl, by decide +kernel, by decide +kernel⟩
def sp_pairs_of_tree : Sp := SpOf (ι := Tr × Nat) (fun i => CM.high i.1 ≤ 20 ∧ (CM.prs i.1 i.2).1.length ≤ 1000) (fun i => [IsTree i.1, IsN i.2]) (fun i => IsPs (CM.prs i.1 i.2).1)
theorem ok_pairs_of_tree (F : DefAt K mg "pairs_of_tree" s_pairs_of_tree P_pairs_of_tree) (T : Gs mg) (c_add_pairs : Cal P w K mg base 21 "add_pairs" P_add_pairs (sp_add_pairs 21)) : Cal P w K mg base 22 "pairs_of_tree" P_pairs_of_tree sp_pairs_of_tree := by
  refine F.ok sc_pairs_of_tree (spOf_len fun _ => rfl) (fun f cdv A outer s H vs Q E hr ⟨⟨t, c⟩, ⟨hh, hz⟩, ha, kk⟩ => ⟨_,
    (pss_cons (ps_set (i := 2) sc_pairs_of_tree.nd rfl (Or.inl rfl) (pe_lst pa_nil))
    (pss_cons (ps_expr (pc c_add_pairs hr (pa_cons (pv 0) (pa_cons (pv 1) (pa_cons (pv 2) pa_nil)))))
    (pss_one (ps_ret (pe_callTy (tupK (K := K) rfl) rfl T.z_tuple (by decide +kernel) (pa_cons (pv 2) pa_nil)))))), ?_⟩)
  have hh : CM.high t ≤ 20 := hh
  have hz : (CM.prs t c).1.length ≤ 1000 := hz
  obtain ⟨v1, v2, rfl, h1, h2⟩ := alls2 (show Alls [IsTree t, IsN c] vs H from ha)
  obtain rfl : v2 = .int c := h2
  refine sq_new fun l hl => ?_
  refine ⟨_, rfl, _, rfl, _, rfl, t, c, v1, l, [], [], by omega, rfl, Mn.mn (same_new hl _) h1, upd_same, trivial, (by show 0 + (CM.prs t (c + 0)).1.length ≤ 1000; rw [Nat.add_zero]; omega), fun H1 us1 k1 hl1 he1 => ?_⟩
  have s1 : Same H H1 := fun b o e => k1 b o (by rw [upd_ne (ne_of_none e hl)]; exact e) (ne_of_none e hl)
  refine sr_ret (er_tuple (er_var (R := LstOf IsPr (CM.prs t c).1) rfl ⟨l, us1, rfl, hl1, ?_⟩)) fun v H2 s2 r => kk v H2 (s1.trans s2) r
  rw [List.nil_append, List.length_nil] at he1
  exact he1
abbrev s_tree_of_numbers : Stmt := top 12
abbrev N_tree_of_numbers : List Str := ["numbers", "count", "trees", "at"]
abbrev P_tree_of_numbers : List Str := ["numbers", "count"]
theorem sc_tree_of_numbers : FnScope N_tree_of_numbers P_tree_of_numbers (defScope s_tree_of_numbers) := ⟨rfl, rfl, rfl, by decide +kernel, rfl, by decide +kernel, by decide +kernel⟩
def sp_tree_of_numbers : Sp := SpOf (ι := List Nat × Nat) (fun i => 1 ≤ i.2 ∧ i.2 ≤ 100 ∧ i.1.length = 2 * i.2 - 2 ∧ CM.okNums i.2 i.1) (fun i => [LstOf IsN i.1, IsN i.2]) (fun i => IsTree (CM.treeNums i.2 i.1))
theorem ok_tree_of_numbers (F : DefAt K mg "tree_of_numbers" s_tree_of_numbers P_tree_of_numbers) (T : Gs mg) : Cal P w K mg base 1 "tree_of_numbers" P_tree_of_numbers sp_tree_of_numbers := by
  refine F.ok sc_tree_of_numbers (spOf_len fun _ => rfl) (fun f cdv A outer s H vs Q E hr ⟨⟨ns, n⟩, ⟨hn, hn8, hlen, hok⟩, ha, kk⟩ => ⟨_,
    (pss_cons (ps_set (i := 2) sc_tree_of_numbers.nd rfl (Or.inl rfl) (pe_listRg rfl rfl T.z_list (prg_1 rfl T.z_range (pv 1))))
    (pss_cons (ps_for PassesOwn.never rfl (pi_range3 rfl T.z_range (pa_cons pe_int (pa_cons (pe_callB (lenK (K := K) rfl) rfl T.z_len PySem.boot_len (pa_cons (pv 0) pa_nil)) (pa_cons pe_int pa_nil)))) (pg_name (i := 3) sc_tree_of_numbers.nd rfl (Or.inl rfl))
      (pss_one (ps_expr (pbm (K := K) (T := "list") rfl (pe_bm PySem.F.plainAttrs_list PySem.F.slot_list_append PySem.F.type_list_append mt_append (pv 2) (pa_cons (pe_tup (pa_cons (pe_ix (ixK (K := K) rfl) (pv 2) (pe_ix (ixK (K := K) rfl) (pv 0) (pv 3) (fun _ _ => rfl)) (fun _ _ => rfl)) (pa_cons (pe_ix (ixK (K := K) rfl) (pv 2) (pe_ix (ixK (K := K) rfl) (pv 0) (pe_op op_add (pv 3) pe_int) (fun _ _ => rfl)) (fun _ _ => rfl)) pa_nil))) pa_nil))))))
    (pss_one (ps_ret (pe_ix (ixK (K := K) rfl) (pv 2) (pe_un un_neg pe_int) (fun _ _ => rfl)))))), ?_⟩)
  have hn : 1 ≤ n := hn
  have hn8 : n ≤ 100 := hn8
  have hlen : ns.length = 2 * n - 2 := hlen
  have hok : CM.okNums n ns := hok
  obtain ⟨v1, v2, rfl, h1, h2⟩ := alls2 (show Alls [LstOf IsN ns, IsN n] vs H from ha)
  -- trees = list(range(count))
  refine ⟨_, rfl, (n : Int), h2, RgOk.of_le (by omega) (by omega) (by omega) (by omega), fun l hl => ?_⟩
  have s0 := same_new hl (.lst (rgV 0 (n : Int)))
  have a0 : Acc IsTree H l (CM.trs n ns 0) (upd H l (.lst (rgV 0 (n : Int)))) := by
    refine ⟨hl, s0, _, upd_same, (rg_each (H := H) n).imp ?_ fun i v x y hx hy e => ?_⟩
    · rw [CM.trs_len, List.length_range]
      rfl
    · have q : ((List.range n).map Lr72.Tree.leaf)[i]? = some y := hy
      rw [List.getElem?_map, hx] at q
      obtain rfl := Option.some.inj q
      exact e
  refine sq_forR2 (m := n - 1) (ea_cons er_c (ea_cons (er_i (er_lenL (er_var rfl (Mn.mn s0 h1))) (by omega)) (ea_cons er_c ea_nil))) (by omega) fun H1 s1 => ⟨fun i σ' H' => Acc IsTree H l (CM.trs n ns i) H' ∧ ∃ x, σ' = [some v1, some v2, some (.ref l), x], ⟨?_, _, rfl⟩, ?_, ?_⟩
  · obtain ⟨us, hu, he⟩ := a0.lst
    exact ⟨hl, s0.trans s1, us, s1 _ _ hu, Each.mn (m := fun _ => mn_of_mg) s1 he⟩
  · rintro i σ' H' hi ⟨a, x, rfl⟩
    obtain ⟨us, hu, he⟩ := a.lst
    have g1 : ns[2 * i]? = some (ns.getD (2 * i) 0) := by simp [show 2 * i < ns.length by omega]
    have g2 : ns[2 * i + 1]? = some (ns.getD (2 * i + 1) 0) := by simp [show 2 * i + 1 < ns.length by omega]
    have b1 := (hok _ _ g1).1
    have b2 := (hok _ _ g2).1
    have tl := CM.trs_len n ns i
    have r1 : (CM.trs n ns i)[ns.getD (2 * i) 0]? = some ((CM.trs n ns i).getD (ns.getD (2 * i) 0) (.leaf 0)) := CM.getD_at (by omega)
    have r2 : (CM.trs n ns i)[ns.getD (2 * i + 1) 0]? = some ((CM.trs n ns i).getD (ns.getD (2 * i + 1) 0) (.leaf 0)) := CM.getD_at (by omega)
    have hL : LstOf IsTree (CM.trs n ns i) (.ref l) H' := ⟨l, us, rfl, hu, he⟩
    have hN : LstOf IsN ns v1 H' := Mn.mn a.same h1
    refine sr_app (er_pair (er_ixL (er_var rfl hL) (er_ixL (Q := IsN) (j := 2 * i) (er_var rfl hN) (er_var rfl rfl) rfl g1) rfl r1) (er_ixL (er_var rfl hL) (er_ixL (Q := IsN) (j := 2 * i + 1) (er_var rfl hN) (er_i (er_I0 (er_var (R := IsI ((2 * i : Nat) : Int)) rfl rfl) er_c) rfl) (by omega) g2) rfl r2)) (er_var rfl rfl) hu ?_ fun v H2 s2 r => ?_
    · rw [he.length]
      omega
    · exact ⟨a.snoc s2 (s2 _ _ hu) r, _, rfl⟩
  · rintro σ' H' ⟨a, x, rfl⟩
    obtain ⟨us, hu, he⟩ := a.lst
    have tl := CM.trs_len n ns (n - 1)
    refine sr_ret (er_ixLast (x := CM.treeNums n ns) (er_var (R := LstOf IsTree (CM.trs n ns (n - 1))) rfl ⟨l, us, rfl, hu, he⟩) ?_) fun v H2 s2 r => kk v H2 (a.same.trans s2) r
    unfold CM.treeNums
    rw [tl, show n + (n - 1) - 1 = 2 * n - 2 by omega]
    exact CM.getD_at (by omega)
abbrev s_is_shape : Stmt := top 11
abbrev N_is_shape : List Str := ["numbers", "count", "used", "at", "number"]
abbrev P_is_shape : List Str := ["numbers", "count"]
theorem sc_is_shape : FnScope N_is_shape P_is_shape (defScope s_is_shape) := ⟨rfl, rfl, rfl, by decide +kernel, rfl, by decide +kernel, by decide +kernel⟩
def sp_is_shape : Sp := SpOf (ι := List Nat × Nat) (fun i => 1 ≤ i.2 ∧ i.2 ≤ 100 ∧ i.1.length ≤ 1000) (fun i => [LstOf IsN i.1, IsN i.2]) (fun i => IsB (CM.okB i.2 i.1))
def usedK (l : List Nat) : List (Key × V) := l.map fun (x : Nat) => (Sum.inl (x : Int), V.bl true)
theorem used_val (l : List Nat) (x : Nat) : (valV (usedK l) (Sum.inl (x : Int))).isSome = l.contains x := by
  rw [← valV_any, Bool.eq_iff_iff, List.any_eq_true, List.contains_iff_mem]
  unfold usedK
  constructor
  · rintro ⟨p, hp, e⟩
    obtain ⟨y, hy, rfl⟩ := List.mem_map.mp hp
    have e : (Sum.inl (y : Int) : Key) = Sum.inl (x : Int) := of_decide_eq_true e
    injection e with e
    obtain rfl : y = x := by omega
    exact hy
  · exact fun h => ⟨_, List.mem_map.mpr ⟨x, h, rfl⟩, decide_eq_true rfl⟩
theorem ok_is_shape (F : DefAt K mg "is_shape" s_is_shape P_is_shape) (T : Gs mg) : Cal P w K mg base 1 "is_shape" P_is_shape sp_is_shape := by
  refine F.ok sc_is_shape (spOf_len fun _ => rfl) (fun f cdv A outer s H vs Q E hr ⟨⟨ns, n⟩, ⟨hn, hn8, hz⟩, ha, kk⟩ => ?_)
  have hu := hu_of hr
  refine ⟨_,
    (pss_cons (ps_if (pt_cmpR op_ne (pe_callB (lenK (K := K) rfl) rfl T.z_len PySem.boot_len (pa_cons (pv 0) pa_nil)) (pe_op op_sub (pe_op op_mul pe_int (pv 1)) pe_int) (nomark _)) (pss_one (ps_ret pe_bl)) pss_nil)
    (pss_cons (ps_set (i := 2) sc_is_shape.nd rfl (Or.inl rfl) pe_dnewK)
    (pss_cons (ps_for PassesOwn.never rfl (piE (K := K) rfl rfl T.z_enumerate (pa_cons (pv 0) pa_nil)) (pgT (K := K) (n := 2) rfl rfl (pgs_cons (pg_name (i := 3) sc_is_shape.nd rfl (Or.inl rfl)) (pgs_cons (pg_name (i := 4) sc_is_shape.nd rfl (Or.inl rfl)) pgs_nil)))
      (pss_cons (ps_if (PW.pt (pw_or (pt_cmpR op_ge (pv 4) (pe_op op_add (pv 1) (pe_op op_fdiv (pv 3) pe_int)) (nomark _)) (pw_or1 (pt_cmp (pc_din hu (pv 4) (pv 2)))))) (pss_one (ps_ret pe_bl)) pss_nil)
    (pss_one (ps_dput hu (pv 2) (pv 4) pe_bl rfl))))
    (pss_one (ps_ret pe_bl))))), ?_⟩
  have hn : 1 ≤ n := hn
  have hn8 : n ≤ 100 := hn8
  have hz : ns.length ≤ 1000 := hz
  obtain ⟨v1, v2, rfl, h1, h2⟩ := alls2 (show Alls [LstOf IsN ns, IsN n] vs H from ha)
  obtain rfl : v2 = .int n := h2
  have no : ∀ v H', Same H H' → IsB false v H' → ¬ (CM.okB n ns = true) → Q v H' := fun v H' s e h => kk v H' s (by
    show IsB (CM.okB n ns) v H'
    rw [Bool.eq_false_iff.mpr h]
    exact e)
  refine sq_ifr (et_test (er_neI (er_lenL (er_var rfl h1)) (er_I0 (er_I er_c (er_var (R := IsN n) rfl rfl) (.inl ⟨by decide, by decide⟩)) er_c))) (fun c H1 s1 => ?_) fun c H1 s1 => ?_
  · have c : (ns.length : Int) ≠ 2 * (n : Int) - 2 := of_decide_eq_true c
    refine sr_ret er_c fun v H2 s2 e => no v H2 (s1.trans s2) e fun z => c ?_
    have q := (CM.okB_iff.mp z).1
    omega
  have c : ¬ (ns.length : Int) ≠ 2 * (n : Int) - 2 := of_decide_eq_false c
  have hlen : ns.length = 2 * n - 2 := by omega
  refine fun d hd => ?_
  have s2 := s1.trans (same_new hd (.dK []))
  refine sq_forEnL (R := LstOf IsN ns) (er_var rfl (Mn.mn s2 h1)) fun v H2 s3 ⟨a, us, ev, hu, r⟩ => ⟨a, us, ev, hu, fun i σ' H' => Same H1 H' ∧ H' a = some (.lst us) ∧ H' d = some (.dK (usedK (ns.take i))) ∧ (∃ x y, σ' = [some v1, some (.int n), some (.ref d), x, y]) ∧ ∀ j x, j < i → ns[j]? = some x → x < n + j / 2 ∧ x ∉ ns.take j,
    ⟨(same_new hd _).trans s3, hu, s3 _ _ upd_same, ⟨_, _, rfl⟩, fun j x hj => absurd hj (Nat.not_lt_zero _)⟩, fun i σ' H' _ p => p.2.1, ?_, ?_⟩
  · rintro i x T' σ' H' hx ⟨s4, hu4, hd4, ⟨x', y', rfl⟩, hok⟩ hT
    refine g_pair upd_same ?_
    obtain ⟨m, hm, rm⟩ := r.getV hx
    obtain rfl : x = .int m := rm
    have s5 := same_new hT (.tup [.int (i : Nat), .int m])
    have mk : m ∈ ns := List.mem_of_getElem? hm
    have hil : i < ns.length := (List.getElem?_eq_some_iff.mp hm).1
    have e2 : EvT (tB (tDIn (tVar 4) (tVar 2))) [some v1, some (.int n), some (.ref d), some (.int (i : Nat)), some (.int m)] (upd H' T' (.tup [.int (i : Nat), .int m])) ((ns.take i).contains m) := fun H6 s6 Q' q =>
      ⟨_, rfl, _, rfl, d, _, rfl, DGet.k (k := Sum.inl (m : Int)) (s6 _ _ (s5 _ _ hd4)), _, rfl, by rw [used_val]; exact q H6 (Same.refl _)⟩
    refine sq_ifr (et_or (et_test (er_I0 (er_var (R := IsN m) rfl rfl) (er_I0 (er_var (R := IsN n) rfl rfl) (er_I (er_var (R := IsN i) rfl rfl) er_c ⟨by decide, by decide⟩)))) fun _ => e2) (fun b H6 s6 => ?_) fun b H6 s6 => ?_
    · refine sr_ret er_c fun v H7 s7 e => no v H7 (s1.trans (s4.trans (s5.trans (s6.trans s7)))) e fun z => ?_
      have q := (CM.okB_iff.mp z).2 i m hm
      rw [Bool.or_eq_true, decide_eq_true_eq, List.contains_iff_mem] at b
      rcases b with b | b
      · have b : (n : Int) + (i : Int) / 2 ≤ (m : Int) := b
        omega
      · exact q.2 b
    · rw [Bool.or_eq_false_iff, decide_eq_false_iff_not, ← Bool.not_eq_true, List.contains_iff_mem] at b
      have b1 : ¬ (n : Int) + (i : Int) / 2 ≤ (m : Int) := b.1
      have hv : valV (usedK (ns.take i)) (Sum.inl (m : Int)) = none := by
        have q := used_val (ns.take i) m
        rw [Bool.eq_false_iff.mpr (fun z => b.2 (List.contains_iff_mem.mp z))] at q
        exact Option.isNone_iff_eq_none.mp (by rw [← Option.not_isSome]; rw [q]; rfl)
      have hd6 := s6 _ _ (s5 _ _ hd4)
      refine ⟨_, rfl, _, rfl, d, _, rfl, DPut.k (k := Sum.inl (m : Int)) hd6 (Nat.lt_of_le_of_lt (by unfold usedK; rw [List.length_map, List.length_take]; exact Nat.le_trans (Nat.min_le_right _ _) hz) (by decide : 1000 < sizeLine)), ?_⟩
      have nda : a ≠ d := ne_of (s6 _ _ (s5 _ _ hu4)) hd6 (fun z => nomatch z)
      refine ⟨same_mut (s4.trans (s5.trans s6)) hd, by rw [upd_ne nda]; exact s6 _ _ (s5 _ _ hu4), ?_, ⟨_, _, rfl⟩, fun j y hj hy => ?_⟩
      · rw [upd_same, putK_new _ hv, List.take_add_one, hm]
        unfold usedK
        rw [List.map_append]
        rfl
      · by_cases z : j < i
        · exact hok j y z hy
        · obtain rfl : j = i := by omega
          rw [hm] at hy
          cases hy
          exact ⟨by omega, b.2⟩
  · rintro σ' H' ⟨s4, hu4, hd4, ⟨x', y', rfl⟩, hok⟩
    refine sr_ret er_c fun v H7 s7 e => kk v H7 (s1.trans (s4.trans s7)) ?_
    show IsB (CM.okB n ns) v H7
    rw [CM.okB_iff.mpr ⟨hlen, fun i x hx => hok i x (by rw [r.length]; exact (List.getElem?_eq_some_iff.mp hx).1) hx⟩]
    exact e
end
end Clk
set_option Elab.async false
set_option maxRecDepth 100000
set_option maxHeartbeats 4000000
set_option linter.all false
set_option autoImplicit false
namespace Clk
open PySem PySem.Spec PyProof.Rows L2
open CM (LD OD)
structure LeafC (K : PySem.W.Frag) (C : Addr) : Prop where
  cl : Cls K C
  place : NoAttr K C "place"
  late : NoAttr K C "late"
  need : NoAttr K C "need"
structure OutC (K : PySem.W.Frag) (C : Addr) : Prop where
  cl : Cls K C
  tree : NoAttr K C "tree"
  area : NoAttr K C "area"
  time : NoAttr K C "time"
  wire : NoAttr K C "wire"
  power : NoAttr K C "power"
  needs : NoAttr K C "needs"
  steps : NoAttr K C "steps"
def lfF (p l n : V) : List (Str × V) := [("place", p), ("late", l), ("need", n)]
def ocF (t a i w p n s : V) : List (Str × V) := [("tree", t), ("area", a), ("time", i), ("wire", w), ("power", p), ("needs", n), ("steps", s)]
theorem lf_place {p l n : V} : (lfF p l n).lookup ("place" : Str) = some p := lkH
theorem lf_late {p l n : V} : (lfF p l n).lookup ("late" : Str) = some l := lkP (by decide +kernel) lkH
theorem lf_need {p l n : V} : (lfF p l n).lookup ("need" : Str) = some n := lkP (by decide +kernel) (lkP (by decide +kernel) lkH)
theorem lf_none {p l n : V} : (lfF p l n).lookup ("source" : Str) = none := lkP (by decide +kernel) (lkP (by decide +kernel) (lkP (by decide +kernel) lkN))
theorem oc_tree {t a i w p n s : V} : (ocF t a i w p n s).lookup ("tree" : Str) = some t := lkH
theorem oc_area {t a i w p n s : V} : (ocF t a i w p n s).lookup ("area" : Str) = some a := lkP (by decide +kernel) lkH
theorem oc_time {t a i w p n s : V} : (ocF t a i w p n s).lookup ("time" : Str) = some i := lkP (by decide +kernel) (lkP (by decide +kernel) lkH)
theorem oc_wire {t a i w p n s : V} : (ocF t a i w p n s).lookup ("wire" : Str) = some w := lkP (by decide +kernel) (lkP (by decide +kernel) (lkP (by decide +kernel) lkH))
theorem oc_power {t a i w p n s : V} : (ocF t a i w p n s).lookup ("power" : Str) = some p := lkP (by decide +kernel) (lkP (by decide +kernel) (lkP (by decide +kernel) (lkP (by decide +kernel) lkH)))
theorem oc_needs {t a i w p n s : V} : (ocF t a i w p n s).lookup ("needs" : Str) = some n := lkP (by decide +kernel) (lkP (by decide +kernel) (lkP (by decide +kernel) (lkP (by decide +kernel) (lkP (by decide +kernel) lkH))))
theorem oc_steps {t a i w p n s : V} : (ocF t a i w p n s).lookup ("steps" : Str) = some s := lkP (by decide +kernel) (lkP (by decide +kernel) (lkP (by decide +kernel) (lkP (by decide +kernel) (lkP (by decide +kernel) (lkP (by decide +kernel) lkH)))))
theorem oc_none {t a i w p n s : V} : (ocF t a i w p n s).lookup ("source" : Str) = none := lkP (by decide +kernel) (lkP (by decide +kernel) (lkP (by decide +kernel) (lkP (by decide +kernel) (lkP (by decide +kernel) (lkP (by decide +kernel) (lkP (by decide +kernel) lkN))))))
/-- a Leaf, an Outcome -/
def IsLf (C : Addr) (l : LD) : Rp := fun v H => ∃ a dx pv, v = .ref a ∧ H a = some (.ins C dx (lfF pv (.int l.late) (.int (l.need : Int)))) ∧ IsPl l.place pv H
def IsOc (C : Addr) (o : OD) : Rp := fun v H => ∃ a dx tv av, v = .ref a ∧ H a = some (.ins C dx (ocF tv av (.int o.time) (.int o.wire) (.int o.power) (.int (o.needs : Int)) (.int o.steps))) ∧ IsTree o.tree tv H ∧ IsAr o.area av H
instance {C : Addr} {l : LD} : Mg (IsLf C l) := ⟨fun k ⟨a, dx, pv, e, h, r⟩ => ⟨a, dx, pv, e, k _ _ h (Gd.ins _ _ _ lf_none), Mg.mg k r⟩⟩
instance {C : Addr} {o : OD} : Mg (IsOc C o) := ⟨fun k ⟨a, dx, tv, av, e, h, r1, r2⟩ => ⟨a, dx, tv, av, e, k _ _ h (Gd.ins _ _ _ oc_none), Mg.mg k r1, Mg.mg k r2⟩⟩
section
variable {K : PySem.W.Frag} {C : Addr} {l : LD} {o : OD}
theorem f_place (c : LeafC K C) : Fld K (IsLf C l) "place" (IsPl l.place) := fun v H ⟨a, dx, pv, e, h, r⟩ => ⟨a, C, dx, _, pv, e, h, c.cl, c.place, lf_place, r⟩
theorem f_late (c : LeafC K C) : Fld K (IsLf C l) "late" (IsI l.late) := fun v H ⟨a, dx, pv, e, h, r⟩ => ⟨a, C, dx, _, _, e, h, c.cl, c.late, lf_late, rfl⟩
theorem f_need (c : LeafC K C) : Fld K (IsLf C l) "need" (IsN l.need) := fun v H ⟨a, dx, pv, e, h, r⟩ => ⟨a, C, dx, _, _, e, h, c.cl, c.need, lf_need, rfl⟩
theorem f_tree (c : OutC K C) : Fld K (IsOc C o) "tree" (IsTree o.tree) := fun v H ⟨a, dx, tv, av, e, h, r1, r2⟩ => ⟨a, C, dx, _, _, e, h, c.cl, c.tree, oc_tree, r1⟩
theorem f_area (c : OutC K C) : Fld K (IsOc C o) "area" (IsAr o.area) := fun v H ⟨a, dx, tv, av, e, h, r1, r2⟩ => ⟨a, C, dx, _, _, e, h, c.cl, c.area, oc_area, r2⟩
theorem f_time (c : OutC K C) : Fld K (IsOc C o) "time" (IsI o.time) := fun v H ⟨a, dx, tv, av, e, h, r1, r2⟩ => ⟨a, C, dx, _, _, e, h, c.cl, c.time, oc_time, rfl⟩
theorem f_wire (c : OutC K C) : Fld K (IsOc C o) "wire" (IsI o.wire) := fun v H ⟨a, dx, tv, av, e, h, r1, r2⟩ => ⟨a, C, dx, _, _, e, h, c.cl, c.wire, oc_wire, rfl⟩
theorem f_power (c : OutC K C) : Fld K (IsOc C o) "power" (IsI o.power) := fun v H ⟨a, dx, tv, av, e, h, r1, r2⟩ => ⟨a, C, dx, _, _, e, h, c.cl, c.power, oc_power, rfl⟩
theorem f_needs (c : OutC K C) : Fld K (IsOc C o) "needs" (IsN o.needs) := fun v H ⟨a, dx, tv, av, e, h, r1, r2⟩ => ⟨a, C, dx, _, _, e, h, c.cl, c.needs, oc_needs, rfl⟩
theorem f_steps (c : OutC K C) : Fld K (IsOc C o) "steps" (IsI o.steps) := fun v H ⟨a, dx, tv, av, e, h, r1, r2⟩ => ⟨a, C, dx, _, _, e, h, c.cl, c.steps, oc_steps, rfl⟩
end
section
variable {P : Program} {w : World} {K : PySem.W.Frag} {mg : Str → Option Value} {base : Heap} {CL CO : Addr}
abbrev s_Leaf_init : Stmt := inClass (top 21) 0
abbrev N_Leaf_init : List Str := ["self", "place", "late", "need"]
abbrev P_Leaf_init : List Str := ["self", "place", "late", "need"]
theorem sc_Leaf_init : FnScope N_Leaf_init P_Leaf_init (defScope s_Leaf_init) := ⟨rfl, rfl, rfl, by decide +kernel, rfl, by decide +kernel, by decide +kernel⟩
def mkLf : List V → List (Str × V)
  | [p, l, n] => lfF p l n
  | _ => []
def sp_Leaf (C : Addr) : Sp := SpInit C (fun as => as.length = 3) mkLf
theorem list3 {as : List V} (h : as.length = 3) : ∃ x y z, as = [x, y, z] := match as, h with | [x, y, z], _ => ⟨x, y, z, rfl⟩
theorem list6 {as : List V} (h : as.length = 6) : ∃ x y z u v w, as = [x, y, z, u, v, w] := match as, h with | [x, y, z, u, v, w], _ => ⟨x, y, z, u, v, w, rfl⟩
theorem ok_Leaf (F : ClsAt K mg "Leaf" "Leaf.__init__" CL s_Leaf_init P_Leaf_init) (c : LeafC K CL) : MkC P w K mg base 1 "Leaf" CL P_Leaf_init (sp_Leaf CL) := by
  refine F.ok sc_Leaf_init (fun vs H Q E ⟨p, dx, as, e, h, _⟩ => by rw [e, List.length_cons, h]; rfl) (fun f cdv A outer s H vs Q E hr ⟨p, dx, as, e, hl, hp, k⟩ => ⟨_,
    (pss_cons (psf (K := K) rfl (pv 0) (pv 1) rfl)
    (pss_cons (psf (K := K) rfl (pv 0) (pv 2) rfl)
    (pss_one (psf (K := K) rfl (pv 0) (pv 3) rfl)))), ?_⟩)
  obtain ⟨x, y, z, rfl⟩ := list3 hl
  subst e
  refine ⟨_, rfl, _, rfl, p, CL, dx, _, rfl, hp, c.cl, c.place, (by decide : 0 < 1000), ?_⟩
  refine ⟨_, rfl, _, rfl, p, CL, dx, _, rfl, upd_same, c.cl, c.late, (by show 1 < 1000; decide), ?_⟩
  refine ⟨_, rfl, _, rfl, p, CL, dx, _, rfl, upd_same, c.cl, c.need, (by show 2 < 1000; decide), ?_⟩
  refine k _ ?_ fun b o e nb => by
    rw [upd_ne nb, upd_ne nb, upd_ne nb]
    exact e
  rw [upd_same]
  exact congrArg (fun q => some (HO.ins CL dx q)) (ptP (by decide +kernel) (ptP (by decide +kernel) ptN))
abbrev s_steps_in : Stmt := top 23
abbrev N_steps_in : List Str := ["needs", "steps", "left"]
abbrev P_steps_in : List Str := ["needs"]
theorem sc_steps_in : FnScope N_steps_in P_steps_in (defScope s_steps_in) := ⟨rfl, rfl, rfl, by decide +kernel, rfl, by decide +kernel, by decide +kernel⟩
def sp_steps_in : Sp := SpOf (ι := Nat) (fun _ => True) (fun n => [IsN n]) (fun n => IsN (CM.pop n))
theorem and1 (n : Nat) : Builtin.bitAnd (n : Int) 1 = ((n % 2 : Nat) : Int) := by
  have h := Bits.bitAnd_mask (x := (n : Int)) 1 (by omega)
  have e : (2 : Int) ^ 1 - 1 = 1 := by decide
  rw [e] at h
  rw [h]
  omega
theorem ok_steps_in (F : DefAt K mg "steps_in" s_steps_in P_steps_in) (T : Gs mg) : Cal P w K mg base 1 "steps_in" P_steps_in sp_steps_in := by
  refine F.ok sc_steps_in (spOf_len fun _ => rfl) (fun f cdv A outer s H vs Q E hr ⟨n, hp, ha, kk⟩ => ⟨_,
    (pss_cons (ps_set (i := 1) sc_steps_in.nd rfl (Or.inl rfl) pe_int)
    (pss_cons (ps_set (i := 2) sc_steps_in.nd rfl (Or.inl rfl) (pv 0))
    (pss_cons (ps_while PassesOwn.never (pt_cmpR op_gt (pv 2) pe_int (nomark _))
      (pss_cons (ps_aug (i := 1) sc_steps_in.nd rfl (.inl rfl) (pe_op op_and (pv 2) pe_int) ip_add)
    (pss_one (ps_set (i := 2) sc_steps_in.nd rfl (Or.inl rfl) (pe_op op_shr (pv 2) pe_int)))))
    (pss_one (ps_ret (pv 1)))))), ?_⟩)
  obtain ⟨v1, rfl, h1⟩ := alls1 ha
  obtain rfl : v1 = .int n := h1
  refine sq_asg (R := IsI 0) er_c fun v2 H1 s1 e2 => ?_
  refine sq_asg (R := IsN n) (er_var rfl rfl) fun v3 H2 s2 e3 => ?_
  obtain rfl : v2 = .int 0 := e2
  obtain rfl : v3 = .int n := e3
  refine sq_while (fun m σ' H' => Same H H' ∧ ∃ a b : Nat, m = b ∧ σ' = [some (.int n), some (.int (a : Int)), some (.int (b : Int))] ∧ a + CM.pop b = CM.pop n) n ⟨s1.trans s2, 0, n, rfl, rfl, by omega⟩ ?_
  rintro m σ' H' ⟨s3, a, b, hm, rfl, hab⟩
  subst m
  refine ⟨_, et_test (er_I0 (er_var (R := IsN b) rfl rfl) er_c), fun c H3 s4 => ?_, fun c H3 s4 => ?_⟩
  · have c : (0 : Int) < (b : Int) := of_decide_eq_true c
    refine ⟨fun σ2 H2 => ∃ b' : Nat, b' < b ∧ Same H H2 ∧ ∃ a' : Nat, σ2 = [some (.int n), some (.int (a' : Int)), some (.int (b' : Int))] ∧ a' + CM.pop b' = CM.pop n, fun σ2 H2 ⟨b', l, s5, a', e, q⟩ => ⟨b', l, s5, a', b', rfl, e, q⟩, ?_⟩
    refine sq_aug (a := (a : Int)) rfl (er_i (er_I0 (er_var (R := IsN b) rfl rfl) er_c) (and1 b)) fun H4 s5 => ?_
    refine sr_asg (er_I (er_var (R := IsN b) rfl rfl) er_c (by decide)) fun v5 H5 s6 e5 => ?_
    refine ⟨b / 2, by omega, s3.trans (s4.trans (s5.trans s6)), a + b % 2, ?_, ?_⟩
    · have e : v5 = .int ((b / 2 : Nat) : Int) := by
        rw [show v5 = _ from e5]
        refine congrArg V.int ?_
        show (b : Int) / 2 ^ (1 : Int).toNat = ((b / 2 : Nat) : Int)
        rw [show (2 : Int) ^ (1 : Int).toNat = 2 by decide]
        omega
      rw [e]
      show [some (V.int n), some (V.int ((a : Int) + ((b % 2 : Nat) : Int))), some (V.int ((b / 2 : Nat) : Int))] = _
      rw [show (a : Int) + ((b % 2 : Nat) : Int) = ((a + b % 2 : Nat) : Int) by omega]
    · rw [CM.pop_pos (n := b) (by omega)] at hab
      omega
  · have c : ¬ (0 : Int) < (b : Int) := of_decide_eq_false c
    obtain rfl : b = 0 := by omega
    rw [CM.pop_zero, Nat.add_zero] at hab
    subst hab
    exact sr_ret (er_var (R := IsN (CM.pop n)) rfl rfl) fun v H4 s5 e => kk v H4 (s3.trans (s4.trans s5)) e
abbrev s_Outcome_init : Stmt := inClass (top 22) 0
abbrev N_Outcome_init : List Str := ["self", "tree", "area", "time", "wire", "power", "needs"]
abbrev P_Outcome_init : List Str := ["self", "tree", "area", "time", "wire", "power", "needs"]
theorem sc_Outcome_init : FnScope N_Outcome_init P_Outcome_init (defScope s_Outcome_init) := ⟨rfl, rfl, rfl, by decide +kernel, rfl, by decide +kernel, by decide +kernel⟩
def mkOc : List V → List (Str × V)
  | [t, a, i, w, p, .int n] => ocF t a i w p (.int n) (.int (CM.pop n.toNat : Int))
  | _ => []
def sp_Outcome (C : Addr) : Sp := SpInit C (fun as => ∃ t a i w p, ∃ n : Nat, as = [t, a, i, w, p, .int (n : Int)]) mkOc
theorem ok_Outcome (F : ClsAt K mg "Outcome" "Outcome.__init__" CO s_Outcome_init P_Outcome_init) (c : OutC K CO) (c_steps_in : Cal P w K mg base 1 "steps_in" P_steps_in sp_steps_in) : MkC P w K mg base 2 "Outcome" CO P_Outcome_init (sp_Outcome CO) := by
  refine F.ok sc_Outcome_init (fun vs H Q E ⟨p, dx, as, e, ⟨t, a, i, w, q, n, h⟩, _⟩ => by rw [e, h]; rfl) (fun f cdv A outer s H vs Q E hr ⟨p, dx, as, e, hl, hp, k⟩ => ⟨_,
    (pss_cons (psf (K := K) rfl (pv 0) (pv 1) rfl)
    (pss_cons (psf (K := K) rfl (pv 0) (pv 2) rfl)
    (pss_cons (psf (K := K) rfl (pv 0) (pv 3) rfl)
    (pss_cons (psf (K := K) rfl (pv 0) (pv 4) rfl)
    (pss_cons (psf (K := K) rfl (pv 0) (pv 5) rfl)
    (pss_cons (psf (K := K) rfl (pv 0) (pv 6) rfl)
    (pss_one (psf (K := K) rfl (pv 0) (pc c_steps_in hr (pa_cons (pv 6) pa_nil)) rfl)))))))), ?_⟩)
  obtain ⟨t, a, i, wi, q, n, rfl⟩ := hl
  subst e
  refine ⟨_, rfl, _, rfl, p, CO, dx, _, rfl, hp, c.cl, c.tree, (by decide : 0 < 1000), ?_⟩
  refine ⟨_, rfl, _, rfl, p, CO, dx, _, rfl, upd_same, c.cl, c.area, (by show 1 < 1000; decide), ?_⟩
  refine ⟨_, rfl, _, rfl, p, CO, dx, _, rfl, upd_same, c.cl, c.time, (by show 2 < 1000; decide), ?_⟩
  refine ⟨_, rfl, _, rfl, p, CO, dx, _, rfl, upd_same, c.cl, c.wire, (by show 3 < 1000; decide), ?_⟩
  refine ⟨_, rfl, _, rfl, p, CO, dx, _, rfl, upd_same, c.cl, c.power, (by show 4 < 1000; decide), ?_⟩
  refine ⟨_, rfl, _, rfl, p, CO, dx, _, rfl, upd_same, c.cl, c.needs, (by show 5 < 1000; decide), ?_⟩
  refine ⟨_, rfl, n, trivial, ⟨rfl, trivial⟩, fun v H7 s7 ev => ?_⟩
  obtain rfl : v = .int (CM.pop n : Int) := ev
  refine ⟨_, rfl, p, CO, dx, _, rfl, s7 _ _ upd_same, c.cl, c.steps, (by show 6 < 1000; decide), ?_⟩
  refine k _ ?_ fun b o e nb => by
    rw [upd_ne nb]
    refine s7 _ _ ?_
    rw [upd_ne nb, upd_ne nb, upd_ne nb, upd_ne nb, upd_ne nb, upd_ne nb]
    exact e
  rw [upd_same]
  exact congrArg (fun q => some (HO.ins CO dx q)) (ptP (by decide +kernel) (ptP (by decide +kernel) (ptP (by decide +kernel) (ptP (by decide +kernel) (ptP (by decide +kernel) (ptP (by decide +kernel) ptN))))))
abbrev s_leaf_outcome : Stmt := top 24
abbrev N_leaf_outcome : List Str := ["number", "leaf"]
abbrev P_leaf_outcome : List Str := ["number", "leaf"]
theorem sc_leaf_outcome : FnScope N_leaf_outcome P_leaf_outcome (defScope s_leaf_outcome) := ⟨rfl, rfl, rfl, by decide +kernel, rfl, by decide +kernel, by decide +kernel⟩
def sp_leaf_outcome (CL CO : Addr) : Sp := SpOf (ι := Nat × LD) (fun _ => True) (fun i => [IsN i.1, IsLf CL i.2]) (fun i => IsOc CO (CM.leafOD i.1 i.2))
theorem oc_made {C : Addr} {o : OD} {H1 : Hp} {x dx : Addr} {vs : List V} (r : Alls [IsTree o.tree, IsAr o.area, IsI o.time, IsI o.wire, IsI o.power, IsN o.needs] vs H1) (h : H1 x = some (.ins C dx (mkOc vs))) : IsOc C o (.ref x) H1 := by
  obtain ⟨v1, v2, v3, v4, v5, v6, rfl, r1, r2, r3, r4, r5, r6⟩ := alls6 r
  obtain rfl : v3 = .int o.time := r3
  obtain rfl : v4 = .int o.wire := r4
  obtain rfl : v5 = .int o.power := r5
  obtain rfl : v6 = .int o.needs := r6
  exact ⟨x, dx, v1, v2, rfl, h, r1, r2⟩
theorem oc_args {o : OD} : ∀ vs H1, Alls [IsTree o.tree, IsAr o.area, IsI o.time, IsI o.wire, IsI o.power, IsN o.needs] vs H1 → ∃ t a i w p, ∃ n : Nat, vs = [t, a, i, w, p, .int (n : Int)] := fun vs H1 r => by
  obtain ⟨v1, v2, v3, v4, v5, v6, rfl, r1, r2, r3, r4, r5, r6⟩ := alls6 r
  obtain rfl : v6 = .int o.needs := r6
  exact ⟨_, _, _, _, _, _, rfl⟩
/-- Outcome(..) -/
theorem er_oc {σ : L2.St} {H : Hp} {C : Addr} {E : XK} {t : TA} (o : OD) (h : EvA t σ H [IsTree o.tree, IsAr o.area, IsI o.time, IsI o.wire, IsI o.power, IsN o.needs]) : EvR (tMake C (sp_Outcome C) [] E t) σ H (IsOc C o) :=
  er_make h oc_args fun vs H1 x dx _ r hx => oc_made r hx
theorem ok_leaf_outcome (F : DefAt K mg "leaf_outcome" s_leaf_outcome P_leaf_outcome) (T : Gs mg) (cL : LeafC K CL) (m_Outcome : MkC P w K mg base 2 "Outcome" CO P_Outcome_init (sp_Outcome CO)) (c_area_of_place : Cal P w K mg base 1 "area_of_place" P_area_of_place sp_area_of_place) :
    Cal P w K mg base 4 "leaf_outcome" P_leaf_outcome (sp_leaf_outcome CL CO) := by
  refine F.ok sc_leaf_outcome (spOf_len fun _ => rfl) (fun f cdv A outer s H vs Q E hr ⟨⟨n, l⟩, hp, ha, k⟩ => ⟨_,
    (pss_one (ps_ret (pm m_Outcome hr (pa_cons (pv 0) (pa_cons (pc c_area_of_place hr (pa_cons (pf (K := K) rfl (pv 1) rfl) pa_nil)) (pa_cons (pf (K := K) rfl (pv 1) rfl) (pa_cons pe_int (pa_cons pe_int (pa_cons (pf (K := K) rfl (pv 1) rfl) pa_nil))))))))), ?_⟩)
  obtain ⟨v1, v2, rfl, h1, h2⟩ := alls2 (show Alls [IsN n, IsLf CL l] vs H from ha)
  exact sr_ret (er_oc (CM.leafOD n l) (ea_cons (er_var rfl h1) (ea_cons (er_call l.place trivial (ea_cons (er_fld (er_var rfl h2) (f_place cL)) ea_nil)) (ea_cons (er_fld (er_var rfl h2) (f_late cL)) (ea_cons er_c (ea_cons er_c (ea_cons (er_fld (er_var rfl h2) (f_need cL)) ea_nil))))))) k
abbrev s_joint_outcome : Stmt := top 25
abbrev N_joint_outcome : List Str := ["first", "second", "distance", "time", "to_first", "to_second", "area", "wire", "power"]
abbrev P_joint_outcome : List Str := ["first", "second"]
theorem sc_joint_outcome : FnScope N_joint_outcome P_joint_outcome (defScope s_joint_outcome) := ⟨rfl, rfl, rfl, by decide +kernel, rfl, by decide +kernel, by decide +kernel⟩
def sp_joint_outcome (CO : Addr) : Sp := SpOf (ι := OD × OD) (fun i => i.1.needs < 65536 ∧ i.2.needs < 65536) (fun i => [IsOc CO i.1, IsOc CO i.2]) (fun i => IsOc CO (CM.joinOD i.1 i.2))
theorem steps_ok {o : OD} (h : o.needs < 65536) (z : Int) : CMul z o.steps := .inr (by
  have q := CM.pop_lt 16 o.needs h
  show -(2 ^ 64) < (CM.pop o.needs : Int) ∧ (CM.pop o.needs : Int) < 2 ^ 64
  omega)
theorem ok_joint_outcome (F : DefAt K mg "joint_outcome" s_joint_outcome P_joint_outcome) (T : Gs mg) (cO : OutC K CO) (m_Outcome : MkC P w K mg base 2 "Outcome" CO P_Outcome_init (sp_Outcome CO)) (c_areas_apart : Cal P w K mg base 2 "areas_apart" P_areas_apart sp_areas_apart) (c_area_within : Cal P w K mg base 1 "area_within" P_area_within sp_area_within) :
    Cal P w K mg base 4 "joint_outcome" P_joint_outcome (sp_joint_outcome CO) := by
  refine F.ok sc_joint_outcome (spOf_len fun _ => rfl) (fun f cdv A outer s H vs Q E hr ⟨⟨x, y⟩, ⟨hx, hy⟩, ha, k⟩ => ⟨_,
    (pss_cons (ps_set (i := 2) sc_joint_outcome.nd rfl (Or.inl rfl) (pc c_areas_apart hr (pa_cons (pf (K := K) rfl (pv 0) rfl) (pa_cons (pf (K := K) rfl (pv 1) rfl) pa_nil))))
    (pss_cons (ps_set (i := 3) sc_joint_outcome.nd rfl (Or.inl rfl) (pe_callB (cMax3 rfl) rfl T.z_max (by decide +kernel) (pa_cons (pf (K := K) rfl (pv 0) rfl) (pa_cons (pf (K := K) rfl (pv 1) rfl) (pa_cons (pe_op op_fdiv (pe_op op_add (pe_op op_add (pf (K := K) rfl (pv 0) rfl) (pf (K := K) rfl (pv 1) rfl)) (pv 2)) pe_int) pa_nil)))))
    (pss_cons (ps_set (i := 4) sc_joint_outcome.nd rfl (Or.inl rfl) (pe_op op_sub (pv 3) (pf (K := K) rfl (pv 0) rfl)))
    (pss_cons (ps_set (i := 5) sc_joint_outcome.nd rfl (Or.inl rfl) (pe_op op_sub (pv 3) (pf (K := K) rfl (pv 1) rfl)))
    (pss_cons (ps_set (i := 6) sc_joint_outcome.nd rfl (Or.inl rfl) (pc c_area_within hr (pa_cons (pf (K := K) rfl (pv 0) rfl) (pa_cons (pv 4) (pa_cons (pf (K := K) rfl (pv 1) rfl) (pa_cons (pv 5) pa_nil))))))
    (pss_cons (ps_set (i := 7) sc_joint_outcome.nd rfl (Or.inl rfl) (pe_op op_add (pe_op op_add (pe_op op_add (pf (K := K) rfl (pv 0) rfl) (pf (K := K) rfl (pv 1) rfl)) (pv 4)) (pv 5)))
    (pss_cons (ps_set (i := 8) sc_joint_outcome.nd rfl (Or.inl rfl) (pe_op op_add (pe_op op_add (pe_op op_add (pf (K := K) rfl (pv 0) rfl) (pf (K := K) rfl (pv 1) rfl)) (pe_op op_mul (pv 4) (pf (K := K) rfl (pv 0) rfl))) (pe_op op_mul (pv 5) (pf (K := K) rfl (pv 1) rfl))))
    (pss_one (ps_ret (pm m_Outcome hr (pa_cons (pe_tup (pa_cons (pf (K := K) rfl (pv 0) rfl) (pa_cons (pf (K := K) rfl (pv 1) rfl) pa_nil))) (pa_cons (pv 6) (pa_cons (pv 3) (pa_cons (pv 7) (pa_cons (pv 8) (pa_cons (pe_op op_or (pf (K := K) rfl (pv 0) rfl) (pf (K := K) rfl (pv 1) rfl)) pa_nil)))))))))))))))), ?_⟩)
  obtain ⟨v1, v2, rfl, h1, h2⟩ := alls2 (show Alls [IsOc CO x, IsOc CO y] vs H from ha)
  have hx : x.needs < 65536 := hx
  have hy : y.needs < 65536 := hy
  refine sq_asg (er_call (x.area, y.area) trivial (ea_cons (er_fld (er_var rfl h1) (f_area cO)) (ea_cons (er_fld (er_var rfl h2) (f_area cO)) ea_nil))) fun v3 H1 s1 e3 => ?_
  have a1 := Mn.mn s1 h1
  have a2 := Mn.mn s1 h2
  refine sq_asg (R := IsI (CM.jtime x y)) (er_max3 (er_fld (er_var rfl a1) (f_time cO)) (er_fld (er_var rfl a2) (f_time cO)) (er_I (er_I0 (er_I0 (er_fld (er_var rfl a1) (f_time cO)) (er_fld (er_var rfl a2) (f_time cO))) (er_var (R := IsI (Lr71.apart x.area y.area)) rfl e3)) er_c ⟨by decide, by decide⟩)) fun v4 H2 s2 e4 => ?_
  have b1 := Mn.mn s2 a1
  have b2 := Mn.mn s2 a2
  refine sq_asg (R := IsI (CM.jtime x y - x.time)) (er_I0 (er_var rfl e4) (er_fld (er_var rfl b1) (f_time cO))) fun v5 H3 s3 e5 => ?_
  have c2 := Mn.mn s3 b2
  have e4a := Mn.mn s3 e4
  refine sq_asg (R := IsI (CM.jtime x y - y.time)) (er_I0 (er_var rfl e4a) (er_fld (er_var rfl c2) (f_time cO))) fun v6 H4 s4 e6 => ?_
  have d1 := Mn.mn (s3.trans s4) b1
  have d2 := Mn.mn s4 c2
  have e5a := Mn.mn s4 e5
  refine sq_asg (er_call (x.area, CM.jtime x y - x.time, y.area, CM.jtime x y - y.time) trivial (ea_cons (er_fld (er_var rfl d1) (f_area cO)) (ea_cons (er_var rfl e5a) (ea_cons (er_fld (er_var rfl d2) (f_area cO)) (ea_cons (er_var rfl e6) ea_nil))))) fun v7 H5 s5 e7 => ?_
  have g1 := Mn.mn s5 d1
  have g2 := Mn.mn s5 d2
  have e5b := Mn.mn s5 e5a
  have e6a := Mn.mn s5 e6
  refine sq_asg (R := IsI (CM.joinOD x y).wire) (er_I0 (er_I0 (er_I0 (er_fld (er_var rfl g1) (f_wire cO)) (er_fld (er_var rfl g2) (f_wire cO))) (er_var rfl e5b)) (er_var rfl e6a)) fun v8 H6 s6 e8 => ?_
  have i1 := Mn.mn s6 g1
  have i2 := Mn.mn s6 g2
  have e5c := Mn.mn s6 e5b
  have e6b := Mn.mn s6 e6a
  refine sq_asg (R := IsI (CM.joinOD x y).power) (er_I0 (er_I0 (er_I0 (er_fld (er_var rfl i1) (f_power cO)) (er_fld (er_var rfl i2) (f_power cO))) (er_I (er_var rfl e5c) (er_fld (er_var rfl i1) (f_steps cO)) (steps_ok hx _))) (er_I (er_var rfl e6b) (er_fld (er_var rfl i2) (f_steps cO)) (steps_ok hy _))) fun v9 H7 s7 e9 => ?_
  have j1 := Mn.mn s7 i1
  have j2 := Mn.mn s7 i2
  have e7a := Mn.mn (s6.trans s7) e7
  have e8a := Mn.mn s7 e8
  have e4b : IsI (CM.jtime x y) v4 H7 := Mn.mn (s4.trans (s5.trans (s6.trans s7))) e4a
  refine sr_ret (er_oc (CM.joinOD x y) (ea_cons (er_pair (er_fld (er_var rfl j1) (f_tree cO)) (er_fld (er_var rfl j2) (f_tree cO))) (ea_cons (er_var rfl e7a) (ea_cons (er_var rfl e4b) (ea_cons (er_var rfl e8a) (ea_cons (er_var rfl e9) (ea_cons (er_i (er_I0 (er_fld (er_var rfl j1) (f_needs cO)) (er_fld (er_var rfl j2) (f_needs cO))) ?_) ea_nil))))))) fun v H8 s8 r => k v H8 (s1.trans (s2.trans (s3.trans (s4.trans (s5.trans (s6.trans (s7.trans s8))))))) r
  rw [Bits.bitOr_pp (by omega) (by omega), Int.toNat_natCast, Int.toNat_natCast]
  rfl
abbrev s_outcomes_of_pairs : Stmt := top 26
abbrev N_outcomes_of_pairs : List Str := ["leaves", "pairs", "outcomes", "pair", "number", "leaf"]
abbrev P_outcomes_of_pairs : List Str := ["leaves", "pairs"]
theorem sc_outcomes_of_pairs : FnScope N_outcomes_of_pairs P_outcomes_of_pairs (defScope s_outcomes_of_pairs) := ⟨rfl, rfl, rfl, by decide +kernel, rfl, by decide +kernel, by decide +kernel⟩
def sp_outcomes_of_pairs (CL CO : Addr) : Sp := SpOf (ι := List LD × List NN) (fun i => i.1.length ≤ 100 ∧ i.2.length ≤ 1000 ∧ CM.okPairs i.1.length i.2 ∧ CM.okNeeds i.1) (fun i => [LstOf (IsLf CL) i.1, IsPs i.2]) (fun i => LstOf (IsOc CO) (CM.ocs i.1 i.2 i.2.length))
theorem ok_outcomes_of_pairs (F : DefAt K mg "outcomes_of_pairs" s_outcomes_of_pairs P_outcomes_of_pairs) (T : Gs mg) (c_leaf_outcome : Cal P w K mg base 4 "leaf_outcome" P_leaf_outcome (sp_leaf_outcome CL CO)) (c_joint_outcome : Cal P w K mg base 4 "joint_outcome" P_joint_outcome (sp_joint_outcome CO)) :
    Cal P w K mg base 5 "outcomes_of_pairs" P_outcomes_of_pairs (sp_outcomes_of_pairs CL CO) := by
  refine F.ok sc_outcomes_of_pairs (spOf_len fun _ => rfl) (fun f cdv A outer s H vs Q E hr ⟨⟨ls, ps⟩, ⟨hl, hz, hok, hnd⟩, ha, k⟩ => ⟨_,
    (pss_cons (ps_setLc (own := [("number", 4), ("leaf", 5)]) (g := gTup K 2 (gCons (gName 4) (gCons (gName 5) gNil))) (tt := tYes) (i := 2) rfl sc_outcomes_of_pairs.nd rfl rfl (sw_true rfl rfl rfl (by decide +kernel)) (piE (K := K) rfl rfl T.z_enumerate (pa_cons (pv 0) pa_nil)) (blkOk_by (own := [("number", 4), ("leaf", 5)]) (N := N_outcomes_of_pairs) (sc := defScope s_outcomes_of_pairs) (by decide +kernel)) (fun _ _ _ _ _ => (pgT (K := K) (n := 2) rfl rfl (pgs_cons (pg_name (i := 4) sc_outcomes_of_pairs.nd rfl (Or.inl rfl)) (pgs_cons (pg_name (i := 5) sc_outcomes_of_pairs.nd rfl (Or.inl rfl)) pgs_nil)))) (fun _ _ _ _ _ => pts_nil) (fun _ _ _ _ _ => (pc c_leaf_outcome hr (pa_cons (pv 4) (pa_cons (pv 5) pa_nil)))))
    (pss_cons (ps_for PassesOwn.never rfl (piT (K := K) rfl (pv 1)) (pg_name (i := 3) sc_outcomes_of_pairs.nd rfl (Or.inl rfl))
      (pss_one (ps_expr (pbm (K := K) (T := "list") rfl (pe_bm PySem.F.plainAttrs_list PySem.F.slot_list_append PySem.F.type_list_append mt_append (pv 2) (pa_cons (pc c_joint_outcome hr (pa_cons (pe_ix (ixK (K := K) rfl) (pv 2) (pe_ix (ixK (K := K) rfl) (pv 3) pe_int (fun _ _ => rfl)) (fun _ _ => rfl)) (pa_cons (pe_ix (ixK (K := K) rfl) (pv 2) (pe_ix (ixK (K := K) rfl) (pv 3) pe_int (fun _ _ => rfl)) (fun _ _ => rfl)) pa_nil))) pa_nil))))))
    (pss_one (ps_ret (pv 2))))), ?_⟩)
  obtain ⟨v1, v2, rfl, h1, h2⟩ := alls2 (show Alls [LstOf (IsLf CL) ls, IsPs ps] vs H from ha)
  have hl : ls.length ≤ 100 := hl
  have hz : ps.length ≤ 1000 := hz
  have hok : CM.okPairs ls.length ps := hok
  have hnd : CM.okNeeds ls := hnd
  -- outcomes = [..]: a new list; it grows in the loop
  refine sq_lcEnA (R := IsLf CL) (R' := IsOc CO) (ys := CM.ocs ls ps 0) (er_var rfl h1) (by rw [CM.ocs_len]; rfl) (by omega) (fun _ _ => rfl) (fun i x y v H1 hx hy s1 rv => ?_) fun l H1 a1 => ?_
  · have q : (ls.mapIdx fun k l => CM.leafOD k l)[i]? = some y := hy
    rw [List.getElem?_mapIdx, hx] at q
    obtain rfl := Option.some.inj q
    exact er_call (i, x) trivial (ea_cons (er_var rfl rfl) (ea_cons (er_var rfl rv) ea_nil))
  refine sq_forT (R := IsPs ps) (er_var rfl (Mn.mn a1.same h2)) fun v H2 s2 ⟨a, us, ev, hu, r⟩ => ⟨a, us, ev, hu, fun i σ' H' => Kp GF H2 H' ∧ Acc (IsOc CO) H l (CM.ocs ls ps i) H' ∧ ∃ x, σ' = [some v1, some v2, some (.ref l), x, none, none], ⟨Kp.of_same (Same.refl _), a1.grow s2, _, rfl⟩, fun i σ' H' _ p => p.1 _ _ hu trivial, ?_, ?_⟩
  · rintro i x σ' H' hx ⟨kp, a, x', rfl⟩
    obtain ⟨p, hp, rp⟩ := r.getV hx
    obtain ⟨us', hu', he⟩ := a.lst
    have ob := hok i p hp
    have ol := CM.ocs_len ls ps i
    have gp : ps.getD i (0, 0) = p := by rw [List.getD, hp]; rfl
    have r1 : (CM.ocs ls ps i)[p.1]? = some ((CM.ocs ls ps i).getD p.1 .none) := CM.getD_at (by omega)
    have r2 : (CM.ocs ls ps i)[p.2]? = some ((CM.ocs ls ps i).getD p.2 .none) := CM.getD_at (by omega)
    have nd := CM.ocs_needs (ps := ps) hnd i
    have hL : LstOf (IsOc CO) (CM.ocs ls ps i) (.ref l) H' := ⟨l, us', rfl, hu', he⟩
    have hP : IsPr p x H' := Mg.mg kp rp
    refine sr_app (er_call ((CM.ocs ls ps i).getD p.1 .none, (CM.ocs ls ps i).getD p.2 .none) ⟨nd _ (List.mem_of_getElem? r1), nd _ (List.mem_of_getElem? r2)⟩ (ea_cons (er_ixL (j := p.1) (er_var rfl hL) (er_ixV (j := 0) (er_var rfl hP) er_c rfl rfl) rfl r1) (ea_cons (er_ixL (j := p.2) (er_var rfl hL) (er_ixV (j := 1) (er_var rfl hP) er_c rfl rfl) rfl r2) ea_nil))) (er_var rfl rfl) hu' ?_ fun v' H3 s3 rv => ?_
    · rw [he.length]
      have : i < ps.length := (List.getElem?_eq_some_iff.mp hp).1
      omega
    · refine ⟨kp.trans ((Kp.of_same s3).trans (kp_lst (s3 _ _ hu'))), ?_, _, rfl⟩
      have q := a.snoc s3 (s3 _ _ hu') rv
      show Acc (IsOc CO) H l (CM.ocs ls ps i ++ [CM.joinOD ((CM.ocs ls ps i).getD (ps.getD i (0, 0)).1 .none) ((CM.ocs ls ps i).getD (ps.getD i (0, 0)).2 .none)]) _
      rw [gp]
      exact q
  · rintro σ' H' ⟨kp, a, x', rfl⟩
    rw [r.length] at a
    obtain ⟨us', hu', he⟩ := a.lst
    exact sr_ret (er_var (R := LstOf (IsOc CO) (CM.ocs ls ps ps.length)) rfl ⟨l, us', rfl, hu', he⟩) fun v' H3 s3 e => k v' H3 (a.same.trans s3) e
end
end Clk
set_option Elab.async false
set_option maxRecDepth 100000
set_option maxHeartbeats 4000000
set_option linter.all false
set_option autoImplicit false
namespace Clk
open PySem PySem.Spec PyProof.Rows L2
open CM (LD OD)
/-! what is known: by leaves, all that their shapes come to -/
def keyOf (l : List Nat) : List Key := l.map fun (k : Nat) => Sum.inl (k : Int)
theorem keyOf_inj : ∀ {l m : List Nat}, keyOf l = keyOf m → l = m
  | [], [], _ => rfl
  | a :: l, b :: m, h => by
    have h : (Sum.inl (a : Int) : Key) :: keyOf l = Sum.inl (b : Int) :: keyOf m := h
    injection h with h1 h2
    injection h1 with h1
    rw [keyOf_inj h2, show a = b by omega]
  | [], _ :: _, h => nomatch h
  | _ :: _, [], h => nomatch h
theorem ns_key {l : List Nat} {us : List V} {H : Hp} (h : Each IsN H us l) : us = (keyOf l).map kV := by
  induction l generalizing us with
  | nil =>
    match us, h with
    | [], _ => rfl
  | cons a l ih =>
    match us, h with
    | v :: us, h =>
      show v :: us = V.int (a : Int) :: (keyOf l).map kV
      rw [show v = V.int (a : Int) from h.1, ih h.2]
structure Kn (CO : Addr) (ls : List LD) (d : Addr) (kvs : List (List Key × V)) (H : Hp) : Prop where
  at_ : H d = some (.dT kvs)
  val : ∀ key v, valV kvs key = some v → ∃ (l : List Nat) (a : Addr) (us : List V), key = keyOf l ∧ v = .ref a ∧ H a = some (.lst us) ∧ Each (IsOc CO) H us (CM.allC ls l)
/-- how many more may get known -/
def bud : Nat → Nat
  | 0 => 0
  | m + 1 => 1 + 2 ^ m * (2 * bud m)
theorem bud_mono : ∀ {m n : Nat}, m ≤ n → bud m ≤ bud n
  | 0, _, _ => Nat.zero_le _
  | m + 1, n + 1, h => by
    have := bud_mono (m := m) (n := n) (by omega)
    show 1 + 2 ^ m * (2 * bud m) ≤ 1 + 2 ^ n * (2 * bud n)
    exact Nat.add_le_add_left (Nat.mul_le_mul (Nat.pow_le_pow_right (by decide) (by omega)) (by omega)) 1
/-- from H to H' only d has changed: more is known -/
structure Gr (CO : Addr) (ls : List LD) (d : Addr) (kvs kvs' : List (List Key × V)) (H H' : Hp) (b : Nat) : Prop where
  kept : ∀ c o, H c = some o → c ≠ d → H' c = some o
  kn : Kn CO ls d kvs' H'
  few : kvs'.length ≤ kvs.length + b
  new : ∀ key v, valV kvs' key = some v → valV kvs key = some v ∨ ∃ a, v = .ref a ∧ H a = none
section
variable {P : Program} {w : World} {K : PySem.W.Frag} {mg : Str → Option Value} {base : Heap} {CL CO : Addr}
theorem Kn.same {ls : List LD} {d : Addr} {kvs : List (List Key × V)} {H H' : Hp} (k : Kn CO ls d kvs H) (s : Same H H') : Kn CO ls d kvs H' :=
  ⟨s _ _ k.at_, fun key v h => let ⟨l, a, us, e1, e2, e3, e4⟩ := k.val key v h; ⟨l, a, us, e1, e2, s _ _ e3, Each.mn (m := fun _ => mn_of_mg) s e4⟩⟩
theorem Gr.refl {ls : List LD} {d : Addr} {kvs : List (List Key × V)} {H H' : Hp} (k : Kn CO ls d kvs H) (s : Same H H') : Gr CO ls d kvs kvs H H' 0 := ⟨fun c o e _ => s _ _ e, k.same s, Nat.le_refl _, fun _ _ h => .inl h⟩
theorem Gr.trans {ls : List LD} {d : Addr} {k0 k1 k2 : List (List Key × V)} {H H1 H2 : Hp} {b c : Nat} (g : Gr CO ls d k0 k1 H H1 b) (h : Gr CO ls d k1 k2 H1 H2 c) (hd : ∃ o, H d = some o) : Gr CO ls d k0 k2 H H2 (b + c) :=
  ⟨fun x o e n => h.kept x o (g.kept x o e n) n, h.kn, by have := g.few; have := h.few; omega, fun key v e => by
    rcases h.new key v e with z | ⟨a, ea, n⟩
    · exact g.new key v z
    · refine .inr ⟨a, ea, ?_⟩
      cases q : H a with
      | none => rfl
      | some o =>
        exfalso
        by_cases c : a = d
        · subst c
          rw [g.kn.at_] at n
          cases n
        · rw [g.kept a o q c] at n
          cases n⟩
theorem Gr.kp {ls : List LD} {d : Addr} {k0 k1 : List (List Key × V)} {H H1 : Hp} {b : Nat} (g : Gr CO ls d k0 k1 H H1 b) (k : Kn CO ls d k0 H) : Kp GF H H1 := fun x o e z => g.kept x o e fun c => by
  subst c
  rw [k.at_] at e
  cases e
  exact z
/-- args of both -/
structure Ar3 (CL CO : Addr) (n : Nat) (l : List Nat) (ls : List LD) (kvs : List (List Key × V)) (d : Addr) (nv lv : V) (H : Hp) : Prop where
  le : l.length ≤ n
  le6 : l.length ≤ 6
  pos : 1 ≤ l.length
  mem : ∀ k ∈ l, k < ls.length
  nd : CM.okNeeds ls
  ns : IsNs l nv H
  lf : LstOf (IsLf CL) ls lv H
  kn : Kn CO ls d kvs H
  few : kvs.length + bud l.length ≤ 5000000
def sp_all_outcomes (CL CO : Addr) (n : Nat) : Sp := fun vs H Q _ => ∃ l ls kvs d nv lv, vs = [nv, lv, .ref d] ∧ Ar3 CL CO n l ls kvs d nv lv H ∧ ∀ v H' kvs', Gr CO ls d kvs kvs' H H' (bud l.length) → valV kvs' (keyOf l) = some v → Q v H'
def sp_joined_outcomes (CL CO : Addr) (n : Nat) : Sp := fun vs H Q _ => ∃ l ls kvs d nv lv, vs = [nv, lv, .ref d] ∧ Ar3 CL CO n l ls kvs d nv lv H ∧ 2 ≤ l.length ∧
  ∀ a us H' kvs', Gr CO ls d kvs kvs' H H' (bud l.length - 1) → H a = none → H' a = some (.lst us) → Each (IsOc CO) H' us (CM.allC ls l) → (∀ key, valV kvs' key ≠ some (.ref a)) → Q (.ref a) H'
abbrev s_all_outcomes : Stmt := top 28
abbrev N_all_outcomes : List Str := ["numbers", "leaves", "known"]
abbrev P_all_outcomes : List Str := ["numbers", "leaves", "known"]
theorem sc_all_outcomes : FnScope N_all_outcomes P_all_outcomes (defScope s_all_outcomes) := ⟨rfl, rfl, rfl, by decide +kernel, rfl, by decide +kernel, by decide +kernel⟩
abbrev s_joined_outcomes : Stmt := top 27
abbrev N_joined_outcomes : List Str := ["numbers", "leaves", "known", "outcomes", "way", "seconds", "first", "second"]
abbrev P_joined_outcomes : List Str := ["numbers", "leaves", "known"]
theorem sc_joined_outcomes : FnScope N_joined_outcomes P_joined_outcomes (defScope s_joined_outcomes) := ⟨rfl, rfl, rfl, by decide +kernel, rfl, by decide +kernel, by decide +kernel⟩
theorem ok_all_outcomes {n k : Nat} (hk : 4 ≤ k) (F : DefAt K mg "all_outcomes" s_all_outcomes P_all_outcomes) (T : Gs mg) (c_leaf_outcome : Cal P w K mg base 4 "leaf_outcome" P_leaf_outcome (sp_leaf_outcome CL CO)) (c_joined_outcomes : Cal P w K mg base k "joined_outcomes" P_joined_outcomes (sp_joined_outcomes CL CO n)) :
    Cal P w K mg base (k + 1) "all_outcomes" P_all_outcomes (sp_all_outcomes CL CO n) := by
  refine F.ok sc_all_outcomes (fun vs H Q E ⟨l, ls, kvs, d, nv, lv, e, _⟩ => by rw [e]; rfl) (fun f cdv A outer s H vs Q E hr ⟨l, ls, kvs, d, nv, lv, e, ar, kk⟩ => ?_)
  have hu := hu_of hr
  refine ⟨_,
    (pss_cons (ps_if (pt_cmp (pc_dnotin hu (pv 0) (pv 2))) (pss_one (ps_if (pt_cmpR op_eq (pe_callB (lenK (K := K) rfl) rfl T.z_len PySem.boot_len (pa_cons (pv 0) pa_nil)) pe_int (nomark _)) (pss_one (ps_dput hu (pv 2) (pv 0) (pe_lst (pa_cons (pc c_leaf_outcome hr (pa_cons (pe_ix (ixK (K := K) rfl) (pv 0) pe_int (fun _ _ => rfl)) (pa_cons (pe_ix (ixK (K := K) rfl) (pv 1) (pe_ix (ixK (K := K) rfl) (pv 0) pe_int (fun _ _ => rfl)) (fun _ _ => rfl)) pa_nil))) pa_nil)) rfl)) (pss_one (ps_dput hu (pv 2) (pv 0) (pc c_joined_outcomes hr (pa_cons (pv 0) (pa_cons (pv 1) (pa_cons (pv 2) pa_nil)))) rfl)))) pss_nil)
    (pss_one (ps_ret (pe_dget hu (pv 2) (pv 0) (fun _ _ => rfl))))), ?_⟩
  subst e
  obtain ⟨b, us, rfl, hb, he⟩ := ar.ns
  have hbk : H b = some (.tup ((keyOf l).map kV)) := by rw [← ns_key he]; exact hb
  have hd := ar.kn.at_
  refine ⟨_, rfl, _, rfl, d, _, rfl, DGet.t (k := keyOf l) hd hbk, _, rfl, ?_⟩
  cases hv : valV kvs (keyOf l) with
  | some v =>
    refine iteF ?_
    refine ⟨_, rfl, _, rfl, d, v, rfl, by rw [← hv]; exact DGet.t (k := keyOf l) hd hbk, ?_⟩
    have g := Gr.refl ar.kn (Same.refl H)
    exact kk v H kvs ⟨g.kept, g.kn, Nat.le_add_right _ _, g.new⟩ hv
  | none =>
    refine iteT ?_
    -- what is put, and what follows
    have fin : ∀ a us' H1 kvs1, Gr CO ls d kvs kvs1 H H1 (bud l.length - 1) → H a = none → H1 a = some (.lst us') → Each (IsOc CO) H1 us' (CM.allC ls l) → (∀ key, valV kvs1 key ≠ some (.ref a)) →
        ∃ H4, DPut H1 d (.ref b) (.ref a) H4 ∧ (tRet (tDGet (tVar 2) (tVar 0))) { nx := fun _ H' => Q .non H', rt := Q } [some (.ref b), some lv, some (.ref d)] H4 := by
      intro a us' H1 kvs1 g na ha hE nk
      have nbd : b ≠ d := ne_of hb hd (fun z => nomatch z)
      have nad : a ≠ d := fun z => by rw [z, hd] at na; cases na
      have hb1 : H1 b = some (.tup ((keyOf l).map kV)) := g.kept _ _ hbk nbd
      have hd1 := g.kn.at_
      have fw := g.few
      have fw0 := ar.few
      have bp : 1 ≤ bud l.length := by
        obtain ⟨m, hm⟩ : ∃ m, l.length = m + 1 := ⟨l.length - 1, by have := ar.pos; omega⟩
        rw [hm]
        show 1 ≤ 1 + _
        omega
      refine ⟨_, DPut.t (k := keyOf l) hd1 hb1 (Nat.lt_of_le_of_lt (by omega : kvs1.length ≤ 5000000) (by decide)), ?_⟩
      have kp : ∀ c o, H1 c = some o → c ≠ d → (upd H1 d (.dT (putK kvs1 (keyOf l) (.ref a)))) c = some o := fun c o e n => by rw [upd_ne n]; exact e
      have kp2 : Kp GF H1 (upd H1 d (.dT (putK kvs1 (keyOf l) (.ref a)))) := fun c o e z => kp c o e fun q => by
        subst q
        rw [hd1] at e
        cases e
        exact z
      have pv : ∀ key v, valV (putK kvs1 (keyOf l) (.ref a)) key = some v → (key = keyOf l ∧ v = .ref a) ∨ valV kvs1 key = some v := fun key v e => by
        rw [valV_put] at e
        by_cases c : key = keyOf l
        · rw [if_pos c] at e
          exact .inl ⟨c, (Option.some.inj e).symm⟩
        · rw [if_neg c] at e
          exact .inr e
      have len : (putK kvs1 (keyOf l) (.ref a)).length ≤ kvs1.length + 1 := by
        unfold putK
        split
        · rw [List.length_map]; omega
        · rw [List.length_append]; exact Nat.le_refl _
      have kn2 : Kn CO ls d (putK kvs1 (keyOf l) (.ref a)) (upd H1 d (.dT (putK kvs1 (keyOf l) (.ref a)))) := by
        refine ⟨upd_same, fun key v e => ?_⟩
        rcases pv key v e with ⟨rfl, rfl⟩ | e
        · exact ⟨l, a, us', rfl, rfl, kp _ _ ha nad, hE.mg kp2⟩
        · obtain ⟨l', a', us2, e1, e2, e3, e4⟩ := g.kn.val key v e
          have nd : a' ≠ d := ne_of e3 hd1 (fun z => nomatch z)
          exact ⟨l', a', us2, e1, e2, kp _ _ e3 nd, e4.mg kp2⟩
      refine ⟨_, rfl, _, rfl, d, .ref a, rfl, ?_, ?_⟩
      · have q : DGet (upd H1 d (.dT (putK kvs1 (keyOf l) (.ref a)))) d (.ref b) (valV (putK kvs1 (keyOf l) (.ref a)) (keyOf l)) := DGet.t (k := keyOf l) upd_same (kp _ _ hb1 nbd)
        rw [valV_put, if_pos rfl] at q
        exact q
      · refine kk _ _ (putK kvs1 (keyOf l) (.ref a)) ⟨fun c o e n => kp c o (g.kept c o e n) n, kn2, by omega, fun key v e => ?_⟩ (by rw [valV_put, if_pos rfl])
        rcases pv key v e with ⟨_, rfl⟩ | e
        · exact .inr ⟨a, rfl, na⟩
        · exact g.new key v e
    refine et_test (er_eqI (er_lenT (er_var (R := IsNs l) rfl ar.ns)) er_c) H (Same.refl _) _ fun H1 s1 => ?_
    by_cases c : l.length = 1
    · rw [decide_eq_true (show (l.length : Int) = 1 by omega)]
      refine iteT ?_
      have g0 : l[0]? = some (l.getD 0 0) := CM.getD_at (by omega)
      have m0 : l.getD 0 0 < ls.length := ar.mem _ (List.mem_of_getElem? g0)
      have g1 : ls[l.getD 0 0]? = some (ls.getD (l.getD 0 0) ⟨⟨0, 0⟩, 0, 0⟩) := CM.getD_at m0
      have n1 : IsNs l (.ref b) H1 := Mn.mn s1 ar.ns
      have lf1 : LstOf (IsLf CL) ls lv H1 := Mn.mn s1 ar.lf
      have ec : EvR (tCall (sp_leaf_outcome CL CO) [] E0 (tCons (tOp (rIx K) (tVar 0) (tC (.int 0))) (tCons (tOp (rIx K) (tVar 1) (tOp (rIx K) (tVar 0) (tC (.int 0)))) tNil))) [some (.ref b), some lv, some (.ref d)] H1 (IsOc CO (CM.leafOD (l.getD 0 0) (ls.getD (l.getD 0 0) ⟨⟨0, 0⟩, 0, 0⟩))) :=
        er_call (l.getD 0 0, ls.getD (l.getD 0 0) ⟨⟨0, 0⟩, 0, 0⟩) trivial (ea_cons (er_ixT (j := 0) (er_var rfl n1) er_c rfl g0) (ea_cons (er_ixL (j := l.getD 0 0) (er_var rfl lf1) (er_ixT (Q := IsN) (j := 0) (er_var rfl n1) er_c rfl g0) rfl g1) ea_nil))
      refine ec H1 (Same.refl _) _ fun v H2 s2 r => ?_
      refine ⟨(by decide : 1 ≤ sizeLine), fun a ha => ?_⟩
      have s3 : Same H (upd H2 a (.lst [v])) := s1.trans (s2.trans (same_new ha _))
      refine ⟨_, rfl, _, rfl, d, ?_⟩
      have na : H a = none := (s1.trans s2).free ha
      obtain ⟨H4, dp, q⟩ := fin a [v] (upd H2 a (.lst [v])) kvs (by
        have g := Gr.refl ar.kn s3
        exact ⟨g.kept, g.kn, Nat.le_add_right _ _, g.new⟩) na upd_same (by rw [CM.allC_one ls c]; exact ⟨Mn.mn (same_new ha _) r, trivial⟩) (fun key e => by
          obtain ⟨_, a', us2, _, e2, e3, _⟩ := ar.kn.val key _ e
          cases e2
          rw [na] at e3
          cases e3)
      exact ⟨H4, rfl, dp, q⟩
    · rw [decide_eq_false (show ¬ (l.length : Int) = 1 by omega)]
      refine iteF ?_
      refine ⟨_, rfl, _, rfl, _, rfl, l, ls, kvs, d, .ref b, lv, rfl, ⟨ar.le, ar.le6, ar.pos, ar.mem, ar.nd, Mn.mn s1 ar.ns, Mn.mn s1 ar.lf, ar.kn.same s1, ar.few⟩, (by have := ar.pos; omega), fun a us' H2 kvs2 g na ha hE nk => ?_⟩
      refine ⟨_, rfl, _, rfl, d, ?_⟩
      obtain ⟨H4, dp, q⟩ := fin a us' H2 kvs2 ⟨fun c o e n => g.kept c o (s1 _ _ e) n, g.kn, g.few, fun key v e => by
        rcases g.new key v e with z | ⟨a', e1, e2⟩
        · exact .inl z
        · exact .inr ⟨a', e1, s1.free e2⟩⟩ (s1.free na) ha hE nk
      exact ⟨H4, rfl, dp, q⟩
end
end Clk
set_option Elab.async false
set_option maxRecDepth 100000
set_option maxHeartbeats 4000000
set_option linter.all false
set_option autoImplicit false
namespace Clk
open PySem PySem.Spec PyProof.Rows L2
open CM (LD OD)
/-- a list at l grows, all else stays -/
structure In (CO : Addr) (H0 : Hp) (l : Addr) (xs : List OD) (H : Hp) : Prop where
  kept : ∀ c o, H0 c = some o → c ≠ l → H c = some o
  lst : ∃ us, H l = some (.lst us) ∧ Each (IsOc CO) H us xs
theorem In.snoc {CO : Addr} {H0 H H1 : Hp} {l : Addr} {xs : List OD} {v : V} {x : OD} {us : List V} (a : In CO H0 l xs H) (s : Same H H1) (h : H1 l = some (.lst us)) (r : IsOc CO x v H1) : In CO H0 l (xs ++ [x]) (upd H1 l (.lst (us ++ [v]))) := by
  obtain ⟨ws, hw, e⟩ := a.lst
  have z : ws = us := by
    have q := s _ _ hw
    rw [h] at q
    cases q
    rfl
  subst z
  have k : Kp GF H1 (upd H1 l (.lst (ws ++ [v]))) := kp_lst h
  exact ⟨fun c o q n => by rw [upd_ne n]; exact s _ _ (a.kept c o q n), _, upd_same, ((Each.mn (m := fun _ => mn_of_mg) s e).mg k).snoc (Mg.mg k r)⟩
section
variable {P : Program} {w : World} {K : PySem.W.Frag} {mg : Str → Option Value} {base : Heap} {CL CO : Addr}
theorem ok_joined_outcomes {n k : Nat} (hk : 4 ≤ k) (F : DefAt K mg "joined_outcomes" s_joined_outcomes P_joined_outcomes) (T : Gs mg) (c_joint_outcome : Cal P w K mg base 4 "joint_outcome" P_joint_outcome (sp_joint_outcome CO)) (c_splits : Cal P w K mg base 1 "splits" P_splits sp_splits)
    (c_all_outcomes : Cal P w K mg base k "all_outcomes" P_all_outcomes (sp_all_outcomes CL CO n)) : Cal P w K mg base (k + 1) "joined_outcomes" P_joined_outcomes (sp_joined_outcomes CL CO (n + 1)) := by
  refine F.ok sc_joined_outcomes (fun vs H Q E ⟨l, ls, kvs, d, nv, lv, e, _⟩ => by rw [e]; rfl) (fun f cdv A outer s H vs Q E hr ⟨m, ls, kvs, d, nv, lv, e, ar, hm2, kk⟩ => ⟨_,
    (pss_cons (ps_set (i := 3) sc_joined_outcomes.nd rfl (Or.inl rfl) (pe_lst pa_nil))
    (pss_cons (ps_for PassesOwn.never rfl (piL (K := K) rfl (pc c_splits hr (pa_cons (pv 0) pa_nil))) (pg_name (i := 4) sc_joined_outcomes.nd rfl (Or.inl rfl))
      (pss_cons (ps_set (i := 5) sc_joined_outcomes.nd rfl (Or.inl rfl) (pc c_all_outcomes hr (pa_cons (pe_ix (ixK (K := K) rfl) (pv 4) pe_int (fun _ _ => rfl)) (pa_cons (pv 1) (pa_cons (pv 2) pa_nil)))))
    (pss_one (ps_for PassesOwn.never rfl (piL (K := K) rfl (pc c_all_outcomes hr (pa_cons (pe_ix (ixK (K := K) rfl) (pv 4) pe_int (fun _ _ => rfl)) (pa_cons (pv 1) (pa_cons (pv 2) pa_nil))))) (pg_name (i := 6) sc_joined_outcomes.nd rfl (Or.inl rfl))
      (pss_one (ps_for PassesOwn.never rfl (piL (K := K) rfl (pv 5)) (pg_name (i := 7) sc_joined_outcomes.nd rfl (Or.inl rfl))
      (pss_one (ps_expr (pbm (K := K) (T := "list") rfl (pe_bm PySem.F.plainAttrs_list PySem.F.slot_list_append PySem.F.type_list_append mt_append (pv 3) (pa_cons (pc c_joint_outcome hr (pa_cons (pv 6) (pa_cons (pv 7) pa_nil))) pa_nil)))))))))))
    (pss_one (ps_ret (pv 3))))), ?_⟩)
  subst e
  have hd := ar.kn.at_
  have m6 := ar.le6
  have mn := ar.le
  -- outcomes = []
  refine sq_new fun l hl => ?_
  have s0 := same_new hl (.lst [])
  have nld : l ≠ d := fun z => by rw [z, hd] at hl; cases hl
  have hB : bud m.length = 1 + 2 ^ (m.length - 1) * (2 * bud (m.length - 1)) := by
    obtain ⟨q, hq⟩ : ∃ q, m.length = q + 1 := ⟨m.length - 1, by omega⟩
    rw [hq]
    rfl
  have hS := CM.split_len (l := m) (by omega)
  have hA := CM.all_few ls m6
  rw [CM.allC_more ls hm2] at hA
  -- for way in splits(numbers)
  refine sq_forL (R := LstOf IsWay (CM.split m)) (er_call m ⟨hm2, by omega⟩ (ea_cons (er_var rfl (Mn.mn s0 ar.ns)) ea_nil)) fun v H1 s1 ⟨aw, ws, ev, hws, rws⟩ => ?_
  have hl1 : H1 l = some (.lst []) := s1 _ _ upd_same
  have hd1 : H1 d = some (.dT kvs) := s1 _ _ (s0 _ _ hd)
  have wl := rws.length
  have sl1 : 1 ≤ (CM.split m).length := by
    unfold CM.split
    rw [List.length_drop, CM.ways_len, List.length_drop, List.length_singleton, Nat.mul_one]
    have : 2 ^ 1 ≤ 2 ^ (m.length - 1) := Nat.pow_le_pow_right (by decide) (by omega)
    omega
  have nwl : aw ≠ l := fun z => by
    rw [z, hl1] at hws
    cases hws
    simp at wl
    omega
  have nwd : aw ≠ d := ne_of hws hd1 (fun z => nomatch z)
  refine ⟨aw, ws, ev, hws, fun i σ' H' => ∃ kvs' us x4 x5 x6 x7, σ' = [some nv, some lv, some (.ref d), some (.ref l), x4, x5, x6, x7] ∧ Gr CO ls d kvs kvs' H H' (i * (2 * bud (m.length - 1))) ∧ (∀ c o, H1 c = some o → c ≠ l → c ≠ d → H' c = some o) ∧
    H' l = some (.lst us) ∧ Each (IsOc CO) H' us (((CM.split m).take i).flatMap (CM.joinAll ls)) ∧ ∀ key, valV kvs' key ≠ some (.ref l), ?_, ?_, ?_, ?_⟩
  · refine ⟨kvs, [], _, _, _, _, rfl, ?_, fun c o e _ _ => e, hl1, trivial, fun key e => ?_⟩
    · have g := Gr.refl ar.kn (s0.trans s1)
      exact ⟨g.kept, g.kn, Nat.le_add_right _ _, g.new⟩
    · obtain ⟨_, a', us2, _, e2, e3, _⟩ := ar.kn.val key _ e
      cases e2
      rw [hl] at e3
      cases e3
  · rintro i σ' H' _ ⟨kvs', us, x4, x5, x6, x7, rfl, g, kp, _⟩
    exact kp _ _ hws nwl nwd
  · rintro i x σ' H' hx ⟨kvs', us, x4, x5, x6, x7, rfl, g, kp, hu, he, nk⟩
    obtain ⟨z, hz, rz⟩ := rws.getV hx
    have hzm := List.mem_of_getElem? hz
    have zq := CM.split_mem (l := m) (by omega) z hzm
    have il : i < (CM.split m).length := (List.getElem?_eq_some_iff.mp hz).1
    have kf : Kp GF H1 H' := fun c o e q => kp c o e (fun y => by subst y; rw [hl1] at e; cases e; exact q) (fun y => by subst y; rw [hd1] at e; cases e; exact q)
    have kf0 : Kp GF H H' := (Kp.of_same (s0.trans s1)).trans kf
    have lf' : LstOf (IsLf CL) ls lv H' := by
      obtain ⟨a, vs', e1, e2, e3⟩ := ar.lf
      have n1 : a ≠ d := ne_of e2 hd (fun q => nomatch q)
      exact ⟨a, vs', e1, g.kept _ _ e2 n1, e3.mg kf0⟩
    have rz' : IsWay z x H' := Mg.mg kf rz
    have fw0 := ar.few
    have fw := g.few
    have b1 := bud_mono (show z.1.length ≤ m.length - 1 by omega)
    have b2 := bud_mono (show z.2.length ≤ m.length - 1 by omega)
    have bi : (i + 1) * (2 * bud (m.length - 1)) ≤ 2 ^ (m.length - 1) * (2 * bud (m.length - 1)) := Nat.mul_le_mul_right _ (by omega)
    have bi' : (i + 1) * (2 * bud (m.length - 1)) = i * (2 * bud (m.length - 1)) + 2 * bud (m.length - 1) := Nat.succ_mul _ _
    -- seconds = all_outcomes(way[1], leaves, known)
    refine sq_call (Rs := [IsNs z.2, IsV lv, IsV (.ref d)]) (ea_cons (er_snd (er_var (R := IsWay z) rfl rz')) (ea_cons (er_v rfl) (ea_cons (er_v rfl) ea_nil))) fun vs2 H2 s2 rs => ?_
    obtain ⟨u1, u2, u3, rfl, r1, r2, r3⟩ := alls3 rs
    obtain rfl : u2 = lv := r2
    obtain rfl : u3 = .ref d := r3
    refine ⟨z.2, ls, kvs', d, u1, u2, rfl, ⟨by omega, by omega, zq.2.1, fun k hk => ar.mem k (zq.2.2.2 k (.inr hk)), ar.nd, r1, Mn.mn s2 lf', g.kn.same s2, by omega⟩, fun v3 H3 kvs3 g3 hv3 => ?_⟩
    have hu3 : H3 l = some (.lst us) := g3.kept _ _ (s2 _ _ hu) nld
    have kf3 : Kp GF H' H3 := (Kp.of_same s2).trans (g3.kp (g.kn.same s2))
    have nk3 : ∀ key, valV kvs3 key ≠ some (.ref l) := fun key e => by
      rcases g3.new key _ e with y | ⟨a, e1, e2⟩
      · exact nk key y
      · cases e1
        rw [s2 _ _ hu] at e2
        cases e2
    have f3 := g3.few
    -- for first in all_outcomes(way[0], leaves, known)
    refine sr_forCall (Rs := [IsNs z.1, IsV u2, IsV (.ref d)]) (ea_cons (er_fst (er_var (R := IsWay z) rfl (Mg.mg kf3 rz'))) (ea_cons (er_v rfl) (ea_cons (er_v rfl) ea_nil))) fun vs4 H4 s4 rs4 => ?_
    obtain ⟨w1, w2, w3, rfl, q1, q2, q3⟩ := alls3 rs4
    obtain rfl : w2 = u2 := q2
    obtain rfl : w3 = .ref d := q3
    have lf3 : LstOf (IsLf CL) ls w2 H3 := by
      obtain ⟨a, vs', e1, e2, e3⟩ := lf'
      have n1 : a ≠ d := ne_of e2 g.kn.at_ (fun q => nomatch q)
      exact ⟨a, vs', e1, g3.kept _ _ (s2 _ _ e2) n1, e3.mg kf3⟩
    refine ⟨z.1, ls, kvs3, d, w1, w2, rfl, ⟨by omega, by omega, zq.1, fun k hk => ar.mem k (zq.2.2.2 k (.inl hk)), ar.nd, q1, Mn.mn s4 lf3, g3.kn.same s4, by omega⟩, fun v5 H5 kvs5 g5 hv5 => ?_⟩
    have f5 := g5.few
    have hu5 : H5 l = some (.lst us) := g5.kept _ _ (s4 _ _ hu3) nld
    have kf5 : Kp GF H3 H5 := (Kp.of_same s4).trans (g5.kp (g3.kn.same s4))
    have nk5 : ∀ key, valV kvs5 key ≠ some (.ref l) := fun key e => by
      rcases g5.new key _ e with y | ⟨a, e1, e2⟩
      · exact nk3 key y
      · cases e1
        rw [s4 _ _ hu3] at e2
        cases e2
    -- both lists stand in H5
    obtain ⟨l1, a1, us1, k1, rfl, ha1, hE1⟩ := g5.kn.val _ _ hv5
    obtain rfl := keyOf_inj k1
    obtain ⟨l2, a2, us2, k2, rfl, ha2', hE2'⟩ := g3.kn.val _ _ hv3
    obtain rfl := keyOf_inj k2
    have n1 : a1 ≠ l := fun y => nk5 _ (by rw [← y]; exact hv5)
    have n2 : a2 ≠ l := fun y => nk3 _ (by rw [← y]; exact hv3)
    have n2d : a2 ≠ d := ne_of ha2' g3.kn.at_ (fun q => nomatch q)
    have ha2 : H5 a2 = some (.lst us2) := g5.kept _ _ (s4 _ _ ha2') n2d
    have hE2 : Each (IsOc CO) H5 us2 (CM.allC ls z.2) := hE2'.mg kf5
    have few1 := CM.all_few ls (l := z.1) (by omega)
    have few2 := CM.all_few ls (l := z.2) (by omega)
    have fewz : (CM.joinAll ls z).length ≤ 945 := Nat.le_trans (CM.flat_mem_le (CM.joinAll ls) hzm) hA
    have fewi : (((CM.split m).take i).flatMap (CM.joinAll ls)).length ≤ 945 := Nat.le_trans (CM.flat_take_le _ _ _) hA
    have in0 : In CO H5 l (((CM.split m).take i).flatMap (CM.joinAll ls)) H5 := ⟨fun c o e _ => e, us, hu5, (he.mg kf3).mg kf5⟩
    have inK : ∀ {xs H6}, In CO H5 l xs H6 → Kp GF H5 H6 := fun p c o e q => p.kept c o e fun y => by subst y; rw [hu5] at e; cases e; exact q
    refine ⟨a1, rfl, ⟨us1, SqL.of ha1⟩, for_list (xs := us1) (fun j σ' H6 => In CO H5 l (((CM.split m).take i).flatMap (CM.joinAll ls) ++ ((CM.allC ls z.1).take j).flatMap fun x => (CM.allC ls z.2).map fun y => CM.joinOD x y) H6 ∧ ∃ x6 x7, σ' = [some nv, some w2, some (.ref d), some (.ref l), some x, some (.ref a2), x6, x7]) ⟨by rw [List.take_zero, List.flatMap_nil, List.append_nil]; exact in0, _, _, rfl⟩ (fun j σ' H6 _ p => SqL.of (p.1.kept _ _ ha1 n1)) ?_ ?_⟩
    · rintro j y σ' H6 hy ⟨p, x6', x7', rfl⟩
      obtain ⟨o1, ho1, ro1⟩ := hE1.getV hy
      have jl : j < (CM.allC ls z.1).length := (List.getElem?_eq_some_iff.mp ho1).1
      have fj : (((CM.allC ls z.1).take j).flatMap fun x => (CM.allC ls z.2).map fun y => CM.joinOD x y).length ≤ 945 := Nat.le_trans (CM.flat_take_le _ _ _) fewz
      -- for second in seconds
      refine sr_forL (R := IsV (.ref a2)) (er_v rfl) fun v7 H7 s7 e7 => ⟨a2, us2, e7, s7 _ _ (p.kept _ _ ha2 n2), fun k σ' H8 => In CO H5 l (((CM.split m).take i).flatMap (CM.joinAll ls) ++ (((CM.allC ls z.1).take j).flatMap fun x => (CM.allC ls z.2).map fun y => CM.joinOD x y) ++ ((CM.allC ls z.2).take k).map fun y => CM.joinOD o1 y) H8 ∧ ∃ x7, σ' = [some nv, some w2, some (.ref d), some (.ref l), some x, some (.ref a2), some y, x7], ?_, ?_, ?_, ?_⟩
      · refine ⟨?_, _, rfl⟩
        rw [List.take_zero, List.map_nil, List.append_nil]
        obtain ⟨us6, hu6, he6⟩ := p.lst
        exact ⟨fun c o e n => s7 _ _ (p.kept c o e n), us6, s7 _ _ hu6, Each.mn (m := fun _ => mn_of_mg) s7 he6⟩
      · rintro k σ' H8 _ ⟨p8, _⟩
        exact p8.kept _ _ ha2 n2
      · rintro k y2 σ' H8 hy2 ⟨p8, x7'', rfl⟩
        obtain ⟨o2, ho2, ro2⟩ := hE2.getV hy2
        obtain ⟨us8, hu8, he8⟩ := p8.lst
        have nd1 := CM.all_needs ar.nd _ o1 (List.mem_of_getElem? ho1)
        have nd2 := CM.all_needs ar.nd _ o2 (List.mem_of_getElem? ho2)
        refine sr_app (er_call (o1, o2) ⟨nd1, nd2⟩ (ea_cons (er_var (R := IsOc CO o1) rfl (Mg.mg (inK p8) ro1)) (ea_cons (er_var (R := IsOc CO o2) rfl (Mg.mg (inK p8) ro2)) ea_nil))) (er_v rfl) hu8 ?_ fun v9 H9 s9 r9 => ?_
        · have e8 := he8.length
          have k8 : (((CM.allC ls z.2).take k).map fun y => CM.joinOD o1 y).length ≤ 945 := by rw [List.length_map, List.length_take]; omega
          rw [List.length_append, List.length_append] at e8
          omega
        · refine ⟨?_, _, rfl⟩
          rw [CM.map_snoc _ ho2, ← List.append_assoc]
          exact p8.snoc s9 (s9 _ _ hu8) r9
      · rintro σ' H8 ⟨p8, x7'', rfl⟩
        refine ⟨?_, _, _, rfl⟩
        rw [hE2.length, List.take_length] at p8
        rw [CM.flat_snoc _ ho1, ← List.append_assoc]
        exact p8
    · rintro σ' H6 ⟨p, x6', x7', rfl⟩
      rw [hE1.length, List.take_length] at p
      obtain ⟨us6, hu6, he6⟩ := p.lst
      have d5 : ∃ o, H d = some o := ⟨_, hd⟩
      have gg : Gr CO ls d kvs kvs5 H H5 ((i + 1) * (2 * bud (m.length - 1))) := by
        have t3 : Gr CO ls d kvs' kvs3 H' H3 (bud z.2.length) := ⟨fun c o e n => g3.kept c o (s2 _ _ e) n, g3.kn, g3.few, fun key v e => (g3.new key v e).imp id fun ⟨a, e1, e2⟩ => ⟨a, e1, s2.free e2⟩⟩
        have t5 : Gr CO ls d kvs3 kvs5 H3 H5 (bud z.1.length) := ⟨fun c o e n => g5.kept c o (s4 _ _ e) n, g5.kn, g5.few, fun key v e => (g5.new key v e).imp id fun ⟨a, e1, e2⟩ => ⟨a, e1, s4.free e2⟩⟩
        have t := (g.trans t3 d5).trans t5 d5
        exact ⟨t.kept, t.kn, by have := t.few; omega, t.new⟩
      refine ⟨kvs5, us6, _, _, _, _, rfl, ⟨fun c o e n => ?_, ⟨p.kept _ _ g5.kn.at_ (Ne.symm nld), fun key v e => ?_⟩, gg.few, gg.new⟩, fun c o e n1' n2' => ?_, hu6, ?_, nk5⟩
      · by_cases q : c = l
        · rw [q, hl] at e
          cases e
        · exact p.kept _ _ (gg.kept c o e n) q
      · obtain ⟨l', a', us', e1, e2, e3, e4⟩ := g5.kn.val key v e
        have n' : a' ≠ l := fun y => nk5 key (by rw [e, e2, y])
        exact ⟨l', a', us', e1, e2, p.kept _ _ e3 n', e4.mg (inK p)⟩
      · exact p.kept _ _ (g5.kept _ _ (s4 _ _ (g3.kept _ _ (s2 _ _ (kp c o e n1' n2')) n2')) n2') n1'
      · rw [CM.flat_snoc _ hz]
        exact he6
  · rintro σ' H' ⟨kvs', us, x4, x5, x6, x7, rfl, g, kp, hu, he, nk⟩
    rw [wl, List.take_length] at he
    rw [wl] at g
    refine sr_ret (R := IsV (.ref l)) (er_v rfl) fun v' H2 s2 e => ?_
    obtain rfl : v' = .ref l := e
    refine kk l us H2 kvs' ⟨fun c o e n => s2 _ _ (g.kept c o e n), g.kn.same s2, ?_, g.new⟩ hl (s2 _ _ hu) (by rw [CM.allC_more ls hm2]; exact Each.mn (m := fun _ => mn_of_mg) s2 he) nk
    have fw := g.few
    have : (CM.split m).length * (2 * bud (m.length - 1)) ≤ 2 ^ (m.length - 1) * (2 * bud (m.length - 1)) := Nat.mul_le_mul_right _ hS
    omega
end
section
variable {P : Program} {w : World} {K : PySem.W.Frag} {mg : Str → Option Value} {base : Heap} {CL CO : Addr}
theorem ok_both (FA : DefAt K mg "all_outcomes" s_all_outcomes P_all_outcomes) (FJ : DefAt K mg "joined_outcomes" s_joined_outcomes P_joined_outcomes) (T : Gs mg) (c1 : Cal P w K mg base 4 "leaf_outcome" P_leaf_outcome (sp_leaf_outcome CL CO)) (c2 : Cal P w K mg base 4 "joint_outcome" P_joint_outcome (sp_joint_outcome CO)) (c3 : Cal P w K mg base 1 "splits" P_splits sp_splits) :
    ∀ n, Cal P w K mg base (2 * n + 4) "all_outcomes" P_all_outcomes (sp_all_outcomes CL CO n)
  | 0 => by
    obtain ⟨f, fd, F, m, b⟩ := FA
    have no : ∀ vs H Q E, ¬ sp_all_outcomes CL CO 0 vs H Q E := fun vs H Q E ⟨l, ls, kvs, d, nv, lv, e, ar, _⟩ => by
      have := ar.le
      have := ar.pos
      omega
    exact ⟨f, fd, ⟨fun vs H Q E h => absurd h (no vs H Q E), fun A outer s H args us vs Q E _ _ _ _ h => absurd h (no vs H Q E)⟩, m, F.kp, b⟩
  | n + 1 => ok_all_outcomes (by omega) FA T c1 (ok_joined_outcomes (by omega) FJ T c2 c3 (ok_both FA FJ T c1 c2 c3 n))
end
end Clk
set_option Elab.async false
set_option maxRecDepth 100000
set_option maxHeartbeats 4000000
set_option linter.all false
set_option autoImplicit false
namespace Clk
open PySem PySem.Spec PyProof.Rows L2
open CM (LD OD)
section
variable {P : Program} {w : World} {K : PySem.W.Frag} {mg : Str → Option Value} {base : Heap} {CL CO : Addr}
abbrev s_wire_then_time : Stmt := top 29
abbrev N_wire_then_time : List Str := ["outcome"]
abbrev P_wire_then_time : List Str := ["outcome"]
theorem sc_wire_then_time : FnScope N_wire_then_time P_wire_then_time (defScope s_wire_then_time) := ⟨rfl, rfl, rfl, by decide +kernel, rfl, by decide +kernel, by decide +kernel⟩
abbrev s_power_then_wire : Stmt := top 30
abbrev N_power_then_wire : List Str := ["outcome"]
abbrev P_power_then_wire : List Str := ["outcome"]
theorem sc_power_then_wire : FnScope N_power_then_wire P_power_then_wire (defScope s_power_then_wire) := ⟨rfl, rfl, rfl, by decide +kernel, rfl, by decide +kernel, by decide +kernel⟩
abbrev s_best_outcome : Stmt := top 31
abbrev N_best_outcome : List Str := ["leaves", "by_power", "outcomes"]
abbrev P_best_outcome : List Str := ["leaves", "by_power"]
theorem sc_best_outcome : FnScope N_best_outcome P_best_outcome (defScope s_best_outcome) := ⟨rfl, rfl, rfl, by decide +kernel, rfl, by decide +kernel, by decide +kernel⟩
def sp_wire_then_time (CO : Addr) : Sp := SpOf (ι := OD) (fun _ => True) (fun o => [IsOc CO o]) (fun o => IsT [.int o.wire, .int o.time])
def sp_power_then_wire (CO : Addr) : Sp := SpOf (ι := OD) (fun _ => True) (fun o => [IsOc CO o]) (fun o => IsT [.int o.power, .int o.wire])
theorem ok_wire_then_time (F : DefAt K mg "wire_then_time" s_wire_then_time P_wire_then_time) (cO : OutC K CO) : Cal P w K mg base 1 "wire_then_time" P_wire_then_time (sp_wire_then_time CO) := by
  refine F.ok sc_wire_then_time (spOf_len fun _ => rfl) (fun f cdv A outer s H vs Q E hr ⟨o, hp, ha, k⟩ => ⟨_,
    (pss_one (ps_ret (pe_tup (pa_cons (pf (K := K) rfl (pv 0) rfl) (pa_cons (pf (K := K) rfl (pv 0) rfl) pa_nil))))), ?_⟩)
  obtain ⟨v1, rfl, h1⟩ := alls1 ha
  exact sr_ret (er_t2 (er_fld (er_var rfl h1) (f_wire cO)) (er_fld (er_var rfl h1) (f_time cO))) k
theorem ok_power_then_wire (F : DefAt K mg "power_then_wire" s_power_then_wire P_power_then_wire) (cO : OutC K CO) : Cal P w K mg base 1 "power_then_wire" P_power_then_wire (sp_power_then_wire CO) := by
  refine F.ok sc_power_then_wire (spOf_len fun _ => rfl) (fun f cdv A outer s H vs Q E hr ⟨o, hp, ha, k⟩ => ⟨_,
    (pss_one (ps_ret (pe_tup (pa_cons (pf (K := K) rfl (pv 0) rfl) (pa_cons (pf (K := K) rfl (pv 0) rfl) pa_nil))))), ?_⟩)
  obtain ⟨v1, rfl, h1⟩ := alls1 ha
  exact sr_ret (er_t2 (er_fld (er_var rfl h1) (f_power cO)) (er_fld (er_var rfl h1) (f_wire cO))) k
def odKey (b : Bool) (o : OD) : Int × Int := if b then (o.power, o.wire) else (o.wire, o.time)
/-- the first of the best -/
def BestOf (b : Bool) (xs : List OD) (o : OD) : Prop := ∃ i, xs[i]? = some o ∧ Least (fun i => odKey b (xs.getD i .none)) xs.length i
theorem least_one {kf : Nat → Int × Int} {n i j : Nat} (h : Least kf n i) (h' : Least kf n j) : i = j := by
  by_cases c : i = j
  · exact c
  · exfalso
    by_cases d : i < j
    · exact (h.2 j h'.1).1 ((h'.2 i h.1).2 d)
    · exact (h'.2 i h.1).1 ((h.2 j h'.1).2 (by omega))
def sp_best_outcome (CL CO : Addr) : Sp := SpOf (ι := List LD × Bool × OD) (fun i => 1 ≤ i.1.length ∧ i.1.length ≤ 6 ∧ CM.okNeeds i.1 ∧ BestOf i.2.1 (CM.allC i.1 (List.range i.1.length)) i.2.2) (fun i => [LstOf (IsLf CL) i.1, IsB i.2.1]) (fun i => IsOc CO i.2.2)
theorem min_od {σ : L2.St} {H : Hp} {te : TE} {sp : Sp} {b : Bool} {xs : List OD} {o : OD} (h : EvR te σ H (LstOf (IsOc CO) xs)) (hx : 0 < xs.length) (hb : BestOf b xs o) (hs : ∀ x v H', IsOc CO x v H' → ∀ Q' : VK, (∀ t H2, Same H' H2 → H2 t = some (.tup [.int (odKey b x).1, .int (odKey b x).2]) → Q' (.ref t) H2) → sp [v] H' Q' E0) : EvR (tMin sp te) σ H (IsOc CO o) := fun H1 s Q q =>
  h H1 s _ fun v H2 s2 ⟨a, us, ev, hl, r⟩ => by
    have hlen := r.length
    refine ⟨a, us, fun i => odKey b (xs.getD i .none), ev, hl, by omega, fun i v hv H' s3 Q' q' => ?_, fun i v H' hv hL s3 => ?_⟩
    · obtain ⟨x, hx', rx⟩ := r.getV hv
      have e : xs.getD i .none = x := by rw [List.getD, hx']; rfl
      refine hs x v H' (Mn.mn s3 rx) Q' fun t H3 s4 ht => q' t H3 s4 ?_
      show H3 t = some (.tup [.int (odKey b (xs.getD i .none)).1, .int (odKey b (xs.getD i .none)).2])
      rw [e]
      exact ht
    · obtain ⟨i', hi', hL'⟩ := hb
      rw [hlen] at hL
      obtain rfl := least_one hL hL'
      obtain ⟨x, hx', rx⟩ := r.getV hv
      rw [hx'] at hi'
      cases hi'
      exact q v H' (s2.trans s3) (Mn.mn s3 rx)
theorem ok_best_outcome (F : DefAt K mg "best_outcome" s_best_outcome P_best_outcome) (T : Gs mg) (c_all_outcomes : Cal P w K mg base 16 "all_outcomes" P_all_outcomes (sp_all_outcomes CL CO 6)) (c_wire_then_time : Cal P w K mg base 1 "wire_then_time" P_wire_then_time (sp_wire_then_time CO)) (c_power_then_wire : Cal P w K mg base 1 "power_then_wire" P_power_then_wire (sp_power_then_wire CO)) :
    Cal P w K mg base 17 "best_outcome" P_best_outcome (sp_best_outcome CL CO) := by
  refine F.ok sc_best_outcome (spOf_len fun _ => rfl) (fun f cdv A outer s H vs Q E hr ⟨⟨ls, b, o⟩, ⟨hl1, hl6, hnd, hB⟩, ha, k⟩ => ⟨_,
    (pss_cons (ps_set (i := 2) sc_best_outcome.nd rfl (Or.inl rfl) (pc c_all_outcomes hr (pa_cons (pe_tupRg rfl rfl T.z_tuple (prg_1 rfl T.z_range (pe_callB (lenK (K := K) rfl) rfl T.z_len PySem.boot_len (pa_cons (pv 0) pa_nil)))) (pa_cons (pv 0) (pa_cons pe_dnewT pa_nil)))))
    (pss_cons (ps_if (pt_val (pv 1)) (pss_one (ps_ret (pmin c_power_then_wire hr T.z_min (pv 2)))) pss_nil)
    (pss_one (ps_ret (pmin c_wire_then_time hr T.z_min (pv 2)))))), ?_⟩)
  have hl1 : 1 ≤ ls.length := hl1
  have hl6 : ls.length ≤ 6 := hl6
  have hnd : CM.okNeeds ls := hnd
  have hB : BestOf b (CM.allC ls (List.range ls.length)) o := hB
  obtain ⟨v1, v2, rfl, h1, h2⟩ := alls2 (show Alls [LstOf (IsLf CL) ls, IsB b] vs H from ha)
  obtain rfl : v2 = .bl b := h2
  have e3 : EvR tDNewT (start N_best_outcome [v1, .bl b]) H (fun v H' => ∃ d, v = .ref d ∧ H' d = some (.dT []) ∧ H d = none) := fun H1 s1 Q' q p hp => q _ _ (same_new hp _) ⟨p, rfl, upd_same, s1.free hp⟩
  have : Mn (fun v H' => ∃ d, v = V.ref d ∧ H' d = some (.dT []) ∧ H d = none) := ⟨fun s ⟨d, e, h, n⟩ => ⟨d, e, s _ _ h, n⟩⟩
  refine sq_call (Rs := [IsNs (List.range ls.length), LstOf (IsLf CL) ls, fun v H' => ∃ d, v = .ref d ∧ H' d = some (.dT []) ∧ H d = none]) (ea_cons (er_trg (er_lenL (er_var rfl h1)) (by omega)) (ea_cons (er_var rfl h1) (ea_cons e3 ea_nil))) fun us H1 s1 rs => ?_
  obtain ⟨u1, u2, u3, rfl, r1, r2, ⟨d, rfl, hd, nd⟩⟩ := alls3 rs
  refine ⟨List.range ls.length, ls, [], d, u1, u2, rfl, ⟨by rw [List.length_range]; omega, by rw [List.length_range]; omega, by rw [List.length_range]; omega, fun k hk => List.mem_range.mp hk, hnd, r1, r2, ⟨hd, fun key v e => nomatch e⟩, ?_⟩, fun v3 H3 kvs3 g3 hv3 => ?_⟩
  · rw [List.length_range, List.length_nil, Nat.zero_add]
    exact Nat.le_trans (bud_mono hl6) (by decide)
  have s3 : Same H H3 := fun c o e => g3.kept c o (s1 _ _ e) fun z => by
    rw [z, nd] at e
    cases e
  obtain ⟨l', a, us, ek, rfl, ha', hE⟩ := g3.kn.val _ _ hv3
  obtain rfl := keyOf_inj ek
  have hL : LstOf (IsOc CO) (CM.allC ls (List.range ls.length)) (.ref a) H3 := ⟨a, us, rfl, ha', hE⟩
  have hx : 0 < (CM.allC ls (List.range ls.length)).length := by
    obtain ⟨i, hi, _⟩ := hB
    have := (List.getElem?_eq_some_iff.mp hi).1
    omega
  refine sq_ifr (b := b) (et_B (er_var (R := IsB b) rfl rfl)) (fun c H4 s4 => ?_) fun c H4 s4 => ?_
  · subst c
    refine sr_ret (min_od (b := true) (er_var rfl (Mn.mn s4 hL)) hx hB fun x v H' rx Q' q' => ⟨x, trivial, ⟨rx, trivial⟩, fun v' H2 s5 ⟨t, et, ht⟩ => by rw [et]; exact q' t H2 s5 ht⟩) fun v H5 s5 r => k v H5 (s3.trans (s4.trans s5)) r
  · subst c
    refine sr_ret (min_od (b := false) (er_var rfl (Mn.mn s4 hL)) hx hB fun x v H' rx Q' q' => ⟨x, trivial, ⟨rx, trivial⟩, fun v' H2 s5 ⟨t, et, ht⟩ => by rw [et]; exact q' t H2 s5 ht⟩) fun v H5 s5 r => k v H5 (s3.trans (s4.trans s5)) r
end
end Clk
set_option Elab.async false
set_option maxRecDepth 100000
set_option maxHeartbeats 4000000
set_option linter.all false
set_option autoImplicit false
namespace Clk
open PySem PySem.Spec PyProof.Rows L2
open CM (LD OD BD)
structure BuiltC (K : PySem.W.Frag) (C : Addr) : Prop where
  cl : Cls K C
  pairs : NoAttr K C "pairs"
  places : NoAttr K C "places"
  wires : NoAttr K C "wires"
  trunk : NoAttr K C "trunk"
def btF (p l w t : V) : List (Str × V) := [("pairs", p), ("places", l), ("wires", w), ("trunk", t)]
theorem bt_pairs {p l w t : V} : (btF p l w t).lookup ("pairs" : Str) = some p := lkH
theorem bt_places {p l w t : V} : (btF p l w t).lookup ("places" : Str) = some l := lkP (by decide +kernel) lkH
theorem bt_wires {p l w t : V} : (btF p l w t).lookup ("wires" : Str) = some w := lkP (by decide +kernel) (lkP (by decide +kernel) lkH)
theorem bt_trunk {p l w t : V} : (btF p l w t).lookup ("trunk" : Str) = some t := lkP (by decide +kernel) (lkP (by decide +kernel) (lkP (by decide +kernel) lkH))
theorem bt_none {p l w t : V} : (btF p l w t).lookup ("source" : Str) = none := lkP (by decide +kernel) (lkP (by decide +kernel) (lkP (by decide +kernel) (lkP (by decide +kernel) lkN)))
abbrev IsWr (w : Int × Int) : Rp := IsT [.int w.1, .int w.2]
def IsBt (C : Addr) (b : BD) : Rp := fun v H => ∃ a dx p l w, v = .ref a ∧ H a = some (.ins C dx (btF p l w (.int b.trunk))) ∧ IsPs b.pairs p H ∧ TupOf IsPl b.places l H ∧ TupOf IsWr b.wires w H
/-- its wires a tuple or a list -/
def IsBs (C : Addr) (b : BD) : Rp := fun v H => ∃ a dx p l w, v = .ref a ∧ H a = some (.ins C dx (btF p l w (.int b.trunk))) ∧ IsPs b.pairs p H ∧ TupOf IsPl b.places l H ∧ SeqOf IsWr b.wires w H
instance {C : Addr} {b : BD} : Mg (IsBt C b) := ⟨fun k ⟨a, dx, p, l, w, e, h, r1, r2, r3⟩ => ⟨a, dx, p, l, w, e, k _ _ h (Gd.ins _ _ _ bt_none), Mg.mg k r1, Mg.mg k r2, Mg.mg k r3⟩⟩
instance {C : Addr} {b : BD} : Mn (IsBs C b) := ⟨fun s ⟨a, dx, p, l, w, e, h, r1, r2, r3⟩ => ⟨a, dx, p, l, w, e, s _ _ h, Mn.mn s r1, Mn.mn s r2, Mn.mn s r3⟩⟩
theorem bs_of_bt {C : Addr} {b : BD} {v : V} {H : Hp} (h : IsBt C b v H) : IsBs C b v H := let ⟨a, dx, p, l, w, e, h, r1, r2, r3⟩ := h; ⟨a, dx, p, l, w, e, h, r1, r2, .inl r3⟩
section
variable {K : PySem.W.Frag} {C : Addr} {b : BD}
theorem f_pairs (c : BuiltC K C) : Fld K (IsBt C b) "pairs" (IsPs b.pairs) := fun v H ⟨a, dx, p, l, w, e, h, r1, r2, r3⟩ => ⟨a, C, dx, _, p, e, h, c.cl, c.pairs, bt_pairs, r1⟩
theorem f_places (c : BuiltC K C) : Fld K (IsBt C b) "places" (TupOf IsPl b.places) := fun v H ⟨a, dx, p, l, w, e, h, r1, r2, r3⟩ => ⟨a, C, dx, _, l, e, h, c.cl, c.places, bt_places, r2⟩
theorem f_wires (c : BuiltC K C) : Fld K (IsBt C b) "wires" (TupOf IsWr b.wires) := fun v H ⟨a, dx, p, l, w, e, h, r1, r2, r3⟩ => ⟨a, C, dx, _, w, e, h, c.cl, c.wires, bt_wires, r3⟩
theorem f_trunk (c : BuiltC K C) : Fld K (IsBt C b) "trunk" (IsI b.trunk) := fun v H ⟨a, dx, p, l, w, e, h, r1, r2, r3⟩ => ⟨a, C, dx, _, _, e, h, c.cl, c.trunk, bt_trunk, rfl⟩
theorem s_pairs (c : BuiltC K C) : Fld K (IsBs C b) "pairs" (IsPs b.pairs) := fun v H ⟨a, dx, p, l, w, e, h, r1, r2, r3⟩ => ⟨a, C, dx, _, p, e, h, c.cl, c.pairs, bt_pairs, r1⟩
theorem s_places (c : BuiltC K C) : Fld K (IsBs C b) "places" (TupOf IsPl b.places) := fun v H ⟨a, dx, p, l, w, e, h, r1, r2, r3⟩ => ⟨a, C, dx, _, l, e, h, c.cl, c.places, bt_places, r2⟩
theorem s_wires (c : BuiltC K C) : Fld K (IsBs C b) "wires" (SeqOf IsWr b.wires) := fun v H ⟨a, dx, p, l, w, e, h, r1, r2, r3⟩ => ⟨a, C, dx, _, w, e, h, c.cl, c.wires, bt_wires, r3⟩
theorem s_trunk (c : BuiltC K C) : Fld K (IsBs C b) "trunk" (IsI b.trunk) := fun v H ⟨a, dx, p, l, w, e, h, r1, r2, r3⟩ => ⟨a, C, dx, _, _, e, h, c.cl, c.trunk, bt_trunk, rfl⟩
end
section
variable {P : Program} {w : World} {K : PySem.W.Frag} {mg : Str → Option Value} {base : Heap} {CL CO CB : Addr}
abbrev s_Built_init : Stmt := inClass (top 33) 0
abbrev N_Built_init : List Str := ["self", "pairs", "places", "wires", "trunk"]
abbrev P_Built_init : List Str := ["self", "pairs", "places", "wires", "trunk"]
theorem sc_Built_init : FnScope N_Built_init P_Built_init (defScope s_Built_init) := ⟨rfl, rfl, rfl, by decide +kernel, rfl, by decide +kernel, by decide +kernel⟩
def mkBt : List V → List (Str × V)
  | [p, l, w, t] => btF p l w t
  | _ => []
def sp_Built (C : Addr) : Sp := SpInit C (fun as => as.length = 4) mkBt
theorem list4 {as : List V} (h : as.length = 4) : ∃ x y z u, as = [x, y, z, u] := match as, h with | [x, y, z, u], _ => ⟨x, y, z, u, rfl⟩
theorem ok_Built (F : ClsAt K mg "Built" "Built.__init__" CB s_Built_init P_Built_init) (c : BuiltC K CB) : MkC P w K mg base 1 "Built" CB P_Built_init (sp_Built CB) := by
  refine F.ok sc_Built_init (fun vs H Q E ⟨p, dx, as, e, h, _⟩ => by rw [e, List.length_cons, h]; rfl) (fun f cdv A outer s H vs Q E hr ⟨p, dx, as, e, hl, hp, k⟩ => ⟨_,
    (pss_cons (psf (K := K) rfl (pv 0) (pv 1) rfl)
    (pss_cons (psf (K := K) rfl (pv 0) (pv 2) rfl)
    (pss_cons (psf (K := K) rfl (pv 0) (pv 3) rfl)
    (pss_one (psf (K := K) rfl (pv 0) (pv 4) rfl))))), ?_⟩)
  obtain ⟨x, y, z, u, rfl⟩ := list4 hl
  subst e
  refine ⟨_, rfl, _, rfl, p, CB, dx, _, rfl, hp, c.cl, c.pairs, (by decide : 0 < 1000), ?_⟩
  refine ⟨_, rfl, _, rfl, p, CB, dx, _, rfl, upd_same, c.cl, c.places, (by show 1 < 1000; decide), ?_⟩
  refine ⟨_, rfl, _, rfl, p, CB, dx, _, rfl, upd_same, c.cl, c.wires, (by show 2 < 1000; decide), ?_⟩
  refine ⟨_, rfl, _, rfl, p, CB, dx, _, rfl, upd_same, c.cl, c.trunk, (by show 3 < 1000; decide), ?_⟩
  refine k _ ?_ fun b o e nb => by
    rw [upd_ne nb, upd_ne nb, upd_ne nb, upd_ne nb]
    exact e
  rw [upd_same]
  exact congrArg (fun q => some (HO.ins CB dx q)) (ptP (by decide +kernel) (ptP (by decide +kernel) (ptP (by decide +kernel) ptN)))
/-- Built(..) -/
theorem er_bt {σ : L2.St} {H : Hp} {C : Addr} {E : XK} {t : TA} (b : BD) (h : EvA t σ H [IsPs b.pairs, TupOf IsPl b.places, TupOf IsWr b.wires, IsI b.trunk]) : EvR (tMake C (sp_Built C) [] E t) σ H (IsBt C b) :=
  er_make h (fun vs H1 r => r.length) fun vs H1 x dx _ r hx => by
    obtain ⟨v1, v2, v3, v4, rfl, r1, r2, r3, r4⟩ := alls4 r
    obtain rfl : v4 = .int b.trunk := r4
    exact ⟨x, dx, v1, v2, v3, rfl, hx, r1, r2, r3⟩
theorem er_bs {σ : L2.St} {H : Hp} {C : Addr} {E : XK} {t : TA} (b : BD) (h : EvA t σ H [IsPs b.pairs, TupOf IsPl b.places, LstOf IsWr b.wires, IsI b.trunk]) : EvR (tMake C (sp_Built C) [] E t) σ H (IsBs C b) :=
  er_make h (fun vs H1 r => r.length) fun vs H1 x dx _ r hx => by
    obtain ⟨v1, v2, v3, v4, rfl, r1, r2, r3, r4⟩ := alls4 r
    obtain rfl : v4 = .int b.trunk := r4
    exact ⟨x, dx, v1, v2, v3, rfl, hx, r1, r2, .inr r3⟩
abbrev s_all_wire : Stmt := top 34
abbrev N_all_wire : List Str := ["built", "lengths"]
abbrev P_all_wire : List Str := ["built"]
theorem sc_all_wire : FnScope N_all_wire P_all_wire (defScope s_all_wire) := ⟨rfl, rfl, rfl, by decide +kernel, rfl, by decide +kernel, by decide +kernel⟩
def sp_all_wire (CB : Addr) : Sp := SpOf (ι := BD) (fun b => b.wires.length ≤ 1000) (fun b => [IsBt CB b]) (fun b => IsI b.all)
theorem ok_all_wire (F : DefAt K mg "all_wire" s_all_wire P_all_wire) (T : Gs mg) (c : BuiltC K CB) : Cal P w K mg base 1 "all_wire" P_all_wire (sp_all_wire CB) := by
  refine F.ok sc_all_wire (spOf_len fun _ => rfl) (fun f cdv A outer s H vs Q E hr ⟨b, hp, ha, k⟩ => ⟨_,
    (pss_one (ps_ret (pe_op op_add (pf (K := K) rfl (pv 0) rfl) (pe_callB (sumK (K := K) rfl rfl) rfl T.z_sum (by decide +kernel) (pa_cons (pe_lc (own := [("lengths", 1)]) (g := gName 1) (tt := tYes) rfl sc_all_wire.nd (piT (K := K) rfl (pf (K := K) rfl (pv 0) rfl)) (blkOk_by (own := [("lengths", 1)]) (N := N_all_wire) (sc := defScope s_all_wire) (by decide +kernel)) (fun _ _ _ _ _ => (pg_name (i := 1) sc_all_wire.nd rfl (Or.inl rfl))) (fun _ _ _ _ _ => pts_nil) (fun _ _ _ _ _ => (pe_op op_add (pe_ix (ixK (K := K) rfl) (pv 1) pe_int (fun _ _ => rfl)) (pe_ix (ixK (K := K) rfl) (pv 1) pe_int (fun _ _ => rfl))))) pa_nil))))), ?_⟩)
  obtain ⟨v1, rfl, h1⟩ := alls1 ha
  have hp : b.wires.length ≤ 1000 := hp
  refine sr_ret (er_I0 (er_fld (er_var rfl h1) (f_trunk c)) (er_sum (er_lcT (ys := b.wires.map fun (w : Int × Int) => w.1 + w.2) (er_fld (er_var rfl h1) (f_wires c)) (by rw [List.length_map]) (by omega) (fun _ => rfl) fun i x y v H1 hx hy s1 rv => ?_))) k
  rw [List.getElem?_map, hx] at hy
  obtain rfl := Option.some.inj hy
  exact er_I0 (er_ixV (j := 0) (er_var rfl rv) er_c rfl rfl) (er_ixV (j := 1) (er_var rfl rv) er_c rfl rfl)
abbrev s_places_of_all : Stmt := top 37
abbrev N_places_of_all : List Str := ["built", "leaves", "leaf"]
abbrev P_places_of_all : List Str := ["built", "leaves"]
theorem sc_places_of_all : FnScope N_places_of_all P_places_of_all (defScope s_places_of_all) := ⟨rfl, rfl, rfl, by decide +kernel, rfl, by decide +kernel, by decide +kernel⟩
def sp_places_of_all (CL CB : Addr) : Sp := SpOf (ι := BD × List LD) (fun i => i.1.places.length + i.2.length ≤ 1000) (fun i => [IsBs CB i.1, LstOf (IsLf CL) i.2]) (fun i => LstOf IsPl (CM.allPl i.1 i.2))
theorem ok_places_of_all (F : DefAt K mg "places_of_all" s_places_of_all P_places_of_all) (T : Gs mg) (cL : LeafC K CL) (c : BuiltC K CB) : Cal P w K mg base 1 "places_of_all" P_places_of_all (sp_places_of_all CL CB) := by
  refine F.ok sc_places_of_all (spOf_len fun _ => rfl) (fun f cdv A outer s H vs Q E hr ⟨⟨b, ls⟩, hp, ha, k⟩ => ⟨_,
    (pss_one (ps_ret (pe_op op_cat (pe_lc (own := [("leaf", 2)]) (g := gName 2) (tt := tYes) rfl sc_places_of_all.nd (piL (K := K) rfl (pv 1)) (blkOk_by (own := [("leaf", 2)]) (N := N_places_of_all) (sc := defScope s_places_of_all) (by decide +kernel)) (fun _ _ _ _ _ => (pg_name (i := 2) sc_places_of_all.nd rfl (Or.inl rfl))) (fun _ _ _ _ _ => pts_nil) (fun _ _ _ _ _ => (pf (K := K) rfl (pv 2) rfl))) (pe_callTy (lstK (K := K) rfl) rfl T.z_list (by decide +kernel) (pa_cons (pf (K := K) rfl (pv 0) rfl) pa_nil))))), ?_⟩)
  obtain ⟨v1, v2, rfl, h1, h2⟩ := alls2 (show Alls [IsBs CB b, LstOf (IsLf CL) ls] vs H from ha)
  have hp : b.places.length + ls.length ≤ 1000 := hp
  refine sr_ret (er_catL (er_lcL (ys := ls.map fun (l : LD) => l.place) (er_var rfl h2) (by rw [List.length_map]) (by omega) (fun _ => rfl) fun i x y v H1 hx hy s1 rv => ?_) (er_listT (er_fld (er_var rfl h1) (s_places c))) (by rw [List.length_map]; omega)) k
  rw [List.getElem?_map, hx] at hy
  obtain rfl := Option.some.inj hy
  exact er_fld (er_var rfl rv) (f_place cL)
abbrev s_places_from : Stmt := top 35
abbrev N_places_from : List Str := ["outcomes", "pairs", "source", "count", "places", "at", "side"]
abbrev P_places_from : List Str := ["outcomes", "pairs", "source"]
theorem sc_places_from : FnScope N_places_from P_places_from (defScope s_places_from) := ⟨rfl, rfl, rfl, by decide +kernel, rfl, by decide +kernel, by decide +kernel⟩
def sp_places_from (CO : Addr) : Sp := SpOf (ι := List OD × List NN × Pl) (fun i => i.1.length = 2 * i.2.1.length + 1 ∧ i.1.length ≤ 1000 ∧ CM.okPairs (i.2.1.length + 1) i.2.1 ∧ CM.okAreas i.1) (fun i => [LstOf (IsOc CO) i.1, IsPs i.2.1, IsPl i.2.2]) (fun i => LstOf IsPl (CM.plUp i.1 i.2.1 i.2.2 i.2.1.length))
theorem ok_places_from (F : DefAt K mg "places_from" s_places_from P_places_from) (T : Gs mg) (cO : OutC K CO) (c_nearest_place : Cal P w K mg base 2 "nearest_place" P_nearest_place sp_nearest_place) : Cal P w K mg base 3 "places_from" P_places_from (sp_places_from CO) := by
  refine F.ok sc_places_from (spOf_len fun _ => rfl) (fun f cdv A outer s H vs Q E hr ⟨⟨os, ps, src⟩, ⟨hN, hz, hok, har⟩, ha, kk⟩ => ⟨_,
    (pss_cons (ps_set (i := 3) sc_places_from.nd rfl (Or.inl rfl) (pe_op op_add (pe_callB (lenK (K := K) rfl) rfl T.z_len PySem.boot_len (pa_cons (pv 1) pa_nil)) pe_int))
    (pss_cons (ps_set (i := 4) sc_places_from.nd rfl (Or.inl rfl) (pe_op op_rep (pe_lst (pa_cons (pv 2) pa_nil)) (pe_callB (lenK (K := K) rfl) rfl T.z_len PySem.boot_len (pa_cons (pv 0) pa_nil))))
    (pss_cons (ps_asg (pc c_nearest_place hr (pa_cons (pf (K := K) rfl (pe_ix (ixK (K := K) rfl) (pv 0) (pe_un un_neg pe_int) (fun _ _ => rfl)) rfl) (pa_cons (pv 2) pa_nil))) (pg_sub (pv 4) (pe_un un_neg pe_int) set_list))
    (pss_cons (ps_for PassesOwn.never rfl (pi_range3 rfl T.z_range (pa_cons (pe_op op_sub (pe_callB (lenK (K := K) rfl) rfl T.z_len PySem.boot_len (pa_cons (pv 1) pa_nil)) pe_int) (pa_cons (pe_un un_neg pe_int) (pa_cons (pe_un un_neg pe_int) pa_nil)))) (pg_name (i := 5) sc_places_from.nd rfl (Or.inl rfl))
      (pss_one (ps_for PassesOwn.never rfl (piT (K := K) rfl (pe_ix (ixK (K := K) rfl) (pv 1) (pv 5) (fun _ _ => rfl))) (pg_name (i := 6) sc_places_from.nd rfl (Or.inl rfl))
      (pss_one (ps_asg (pc c_nearest_place hr (pa_cons (pf (K := K) rfl (pe_ix (ixK (K := K) rfl) (pv 0) (pv 6) (fun _ _ => rfl)) rfl) (pa_cons (pe_ix (ixK (K := K) rfl) (pv 4) (pe_op op_add (pv 3) (pv 5)) (fun _ _ => rfl)) pa_nil))) (pg_sub (pv 4) (pv 6) set_list))))))
    (pss_one (ps_ret (pv 4))))))), ?_⟩)
  have hN : os.length = 2 * ps.length + 1 := hN
  have hz : os.length ≤ 1000 := hz
  have hok : CM.okPairs (ps.length + 1) ps := hok
  have har : CM.okAreas os := har
  obtain ⟨v1, v2, v3, rfl, h1, h2, h3⟩ := alls3 (show Alls [LstOf (IsOc CO) os, IsPs ps, IsPl src] vs H from ha)
  have oAt : ∀ k, k < os.length → os[k]? = some (os.getD k .none) ∧ (os.getD k .none).area.a ≤ (os.getD k .none).area.b ∧ (os.getD k .none).area.c ≤ (os.getD k .none).area.d := fun k hk => by
    have e : os[k]? = some (os.getD k .none) := CM.getD_at hk
    exact ⟨e, har _ (List.mem_of_getElem? e)⟩
  refine sq_asg (R := IsN (ps.length + 1)) (er_i (er_I0 (er_lenT (er_var rfl h2)) er_c) (by omega)) fun v4 H1 s1 e4 => ?_
  obtain rfl : v4 = .int ((ps.length + 1 : Nat) : Int) := e4
  refine sq_rep (R := IsPl) (x := src) (n := os.length) (er_lst1 (er_var rfl (Mn.mn s1 h3))) (er_lenL (er_var rfl (Mn.mn s1 h1))) (by omega) fun l H2 a2 => ?_
  obtain ⟨us2, hu2, he2⟩ := a2.lst
  have len2 := he2.length
  rw [List.length_replicate] at len2
  -- places[-1] = ..
  have oL := oAt (os.length - 1) (by omega)
  refine sq_set (R := IsPl (Lr71.near (os.getD (os.length - 1) .none).area src)) (j := os.length - 1) (er_call ((os.getD (os.length - 1) .none).area, src) oL.2 (ea_cons (er_fld (er_ixLast (er_var rfl (Mn.mn (s1.trans a2.same) h1)) oL.1) (f_area cO)) (ea_cons (er_var rfl (Mn.mn (s1.trans a2.same) h3)) ea_nil))) (er_v rfl) (er_neg er_c) hu2 (by rw [len2]; exact ix_last (by omega)) fun v5 H3 s3 r5 => ?_
  have a3 : Acc IsPl H1 l (CM.plUp os ps src 0) (upd H3 l (.lst (us2.set (os.length - 1) v5))) := a2.set _ s3 (s3 _ _ hu2) r5
  -- the loop
  have a3same := a3.same
  refine sq_forDn (m := ps.length) (ea_cons (er_I0 (er_lenT (er_var rfl (Mn.mn (s1.trans a3same) h2))) er_c) (ea_cons (er_neg er_c) (ea_cons (er_neg er_c) ea_nil))) (by omega) fun H4 s4 => ⟨fun i σ' H' => Acc IsPl H1 l (CM.plUp os ps src i) H' ∧ ∃ x y, σ' = [some v1, some v2, some v3, some (.int ((ps.length + 1 : Nat) : Int)), some (.ref l), x, y], ⟨a3.grow s4, _, _, rfl⟩, ?_, ?_⟩
  · rintro i σ' H' hi ⟨a, x, y, rfl⟩
    have sH : Same H H' := s1.trans a.same
    have hp : ps[ps.length - 1 - i]? = some (ps.getD (ps.length - 1 - i) (0, 0)) := CM.getD_at (by omega)
    generalize hk : ps.length - 1 - i = k at hp
    generalize hpp : ps.getD k (0, 0) = p at hp
    have ob := hok k p hp
    have kl : k < ps.length := by omega
    have len := CM.plUp_len os ps src i
    have o1 := oAt p.1 (by omega)
    have o2 := oAt p.2 (by omega)
    show tFor _ _ _ _ _ _
    refine sr_forT (R := IsPr p) (er_ixT (j := k) (er_var rfl (Mn.mn sH h2)) (er_v rfl) rfl hp) fun v6 H5 s5 ⟨b, eb, hb⟩ => ⟨b, _, eb, hb, fun t σ' H6 => Kp GF H5 H6 ∧ (∃ y, σ' = [some v1, some v2, some v3, some (.int ((ps.length + 1 : Nat) : Int)), some (.ref l), some (.int (k : Int)), y]) ∧ Acc IsPl H1 l (if t = 0 then CM.plUp os ps src i else if t = 1 then (CM.plUp os ps src i).set p.1 (Lr71.near (os.getD p.1 .none).area ((CM.plUp os ps src i).getD (ps.length + 1 + k) CM.pl0)) else CM.plStep os ps (CM.plUp os ps src i) k) H6, ⟨Kp.of_same (Same.refl _), ⟨_, rfl⟩, a.grow s5⟩, fun t σ' H6 _ q => q.1 _ _ hb trivial, ?_, ?_⟩
    · rintro t x σ' H6 hx ⟨kp, ⟨y', rfl⟩, a6⟩
      have sH6 : Same H H6 := s1.trans a6.same
      match t, hx with
      | 0, hx =>
        obtain rfl := Option.some.inj hx
        rw [if_pos rfl] at a6
        obtain ⟨us6, hu6, he6⟩ := a6.lst
        have l6 := he6.length
        have g : (CM.plUp os ps src i)[ps.length + 1 + k]? = some ((CM.plUp os ps src i).getD (ps.length + 1 + k) CM.pl0) := CM.getD_at (by omega)
        refine sr_set (R := IsPl (Lr71.near (os.getD p.1 .none).area ((CM.plUp os ps src i).getD (ps.length + 1 + k) CM.pl0))) (j := p.1) (er_call ((os.getD p.1 .none).area, (CM.plUp os ps src i).getD (ps.length + 1 + k) CM.pl0) o1.2 (ea_cons (er_fld (er_ixL (j := p.1) (er_var rfl (Mn.mn sH6 h1)) (er_v rfl) rfl o1.1) (f_area cO)) (ea_cons (er_ixL (Q := IsPl) (j := ps.length + 1 + k) (er_var (R := LstOf IsPl (CM.plUp os ps src i)) rfl ⟨l, us6, rfl, hu6, he6⟩) (er_I0 (er_v rfl) (er_v rfl)) (by omega) g) ea_nil))) (er_v rfl) (er_v rfl) hu6 (ix_nat (by omega)) fun v7 H7 s7 r7 => ?_
        refine ⟨kp.trans ((Kp.of_same s7).trans (kp_lst (s7 _ _ hu6))), ⟨_, rfl⟩, ?_⟩
        rw [if_neg (by decide), if_pos rfl]
        exact a6.set _ s7 (s7 _ _ hu6) r7
      | 1, hx =>
        obtain rfl := Option.some.inj hx
        rw [if_neg (by decide), if_pos rfl] at a6
        obtain ⟨us6, hu6, he6⟩ := a6.lst
        have l6 := he6.length
        rw [List.length_set] at l6
        generalize hP1 : (CM.plUp os ps src i).set p.1 (Lr71.near (os.getD p.1 .none).area ((CM.plUp os ps src i).getD (ps.length + 1 + k) CM.pl0)) = P1 at a6 he6
        have lP1 : P1.length = os.length := by rw [← hP1, List.length_set, len]
        have g : P1[ps.length + 1 + k]? = some (P1.getD (ps.length + 1 + k) CM.pl0) := CM.getD_at (by omega)
        refine sr_set (R := IsPl (Lr71.near (os.getD p.2 .none).area (P1.getD (ps.length + 1 + k) CM.pl0))) (j := p.2) (er_call ((os.getD p.2 .none).area, P1.getD (ps.length + 1 + k) CM.pl0) o2.2 (ea_cons (er_fld (er_ixL (j := p.2) (er_var rfl (Mn.mn sH6 h1)) (er_v rfl) rfl o2.1) (f_area cO)) (ea_cons (er_ixL (Q := IsPl) (j := ps.length + 1 + k) (er_var (R := LstOf IsPl P1) rfl ⟨l, us6, rfl, hu6, he6⟩) (er_I0 (er_v rfl) (er_v rfl)) (by omega) g) ea_nil))) (er_v rfl) (er_v rfl) hu6 (ix_nat (by omega)) fun v7 H7 s7 r7 => ?_
        refine ⟨kp.trans ((Kp.of_same s7).trans (kp_lst (s7 _ _ hu6))), ⟨_, rfl⟩, ?_⟩
        rw [if_neg (by decide), if_neg (by decide)]
        have q := a6.set p.2 s7 (s7 _ _ hu6) r7
        unfold CM.plStep
        rw [hpp]
        show Acc IsPl H1 l (((CM.plUp os ps src i).set p.1 (Lr71.near (os.getD p.1 .none).area ((CM.plUp os ps src i).getD (ps.length + 1 + k) CM.pl0))).set p.2 (Lr71.near (os.getD p.2 .none).area (((CM.plUp os ps src i).set p.1 (Lr71.near (os.getD p.1 .none).area ((CM.plUp os ps src i).getD (ps.length + 1 + k) CM.pl0))).getD (ps.length + 1 + k) CM.pl0))) _
        rw [hP1]
        exact q
    · rintro σ' H6 ⟨kp, ⟨y', rfl⟩, a6⟩
      refine ⟨?_, _, _, rfl⟩
      show Acc IsPl H1 l (CM.plStep os ps (CM.plUp os ps src i) (ps.length - 1 - i)) H6
      rw [hk]
      exact a6
  · rintro σ' H' ⟨a, x, y, rfl⟩
    obtain ⟨us, hu, he⟩ := a.lst
    exact sr_ret (er_var (R := LstOf IsPl (CM.plUp os ps src ps.length)) rfl ⟨l, us, rfl, hu, he⟩) fun v' H5 s5 e => kk v' H5 (s1.trans (a.same.trans s5)) e
abbrev s_built_from : Stmt := top 36
abbrev N_built_from : List Str := ["leaves", "pairs", "source", "outcomes", "places", "wires", "at", "pair", "time"]
abbrev P_built_from : List Str := ["leaves", "pairs", "source"]
theorem sc_built_from : FnScope N_built_from P_built_from (defScope s_built_from) := ⟨rfl, rfl, rfl, by decide +kernel, rfl, by decide +kernel, by decide +kernel⟩
def sp_built_from (CL CB : Addr) : Sp := SpOf (ι := List LD × List NN × Pl) (fun i => i.1.length = i.2.1.length + 1 ∧ i.1.length ≤ 100 ∧ CM.okPairs i.1.length i.2.1 ∧ CM.okNeeds i.1 ∧ CM.okAreas (CM.ocs i.1 i.2.1 i.2.1.length)) (fun i => [LstOf (IsLf CL) i.1, IsPs i.2.1, IsPl i.2.2]) (fun i => IsBt CB (CM.buildBD i.1 i.2.1 i.2.2))
theorem ok_built_from (F : DefAt K mg "built_from" s_built_from P_built_from) (T : Gs mg) (cO : OutC K CO) (c_outcomes_of_pairs : Cal P w K mg base 5 "outcomes_of_pairs" P_outcomes_of_pairs (sp_outcomes_of_pairs CL CO)) (c_places_from : Cal P w K mg base 3 "places_from" P_places_from (sp_places_from CO))
    (c_apart : Cal P w K mg base 1 "apart" P_apart sp_apart) (m_Built : MkC P w K mg base 1 "Built" CB P_Built_init (sp_Built CB)) : Cal P w K mg base 6 "built_from" P_built_from (sp_built_from CL CB) := by
  refine F.ok sc_built_from (spOf_len fun _ => rfl) (fun f cdv A outer s H vs Q E hr ⟨⟨ls, ps, src⟩, ⟨hn, hz, hok, hnd, har⟩, ha, kk⟩ => ⟨_,
    (pss_cons (ps_set (i := 3) sc_built_from.nd rfl (Or.inl rfl) (pc c_outcomes_of_pairs hr (pa_cons (pv 0) (pa_cons (pv 1) pa_nil))))
    (pss_cons (ps_set (i := 4) sc_built_from.nd rfl (Or.inl rfl) (pc c_places_from hr (pa_cons (pv 3) (pa_cons (pv 1) (pa_cons (pv 2) pa_nil)))))
    (pss_cons (ps_set (i := 5) sc_built_from.nd rfl (Or.inl rfl) (pe_lst pa_nil))
    (pss_cons (ps_for PassesOwn.never rfl (piET (K := K) rfl rfl T.z_enumerate (pa_cons (pv 1) pa_nil)) (pgT (K := K) (n := 2) rfl rfl (pgs_cons (pg_name (i := 6) sc_built_from.nd rfl (Or.inl rfl)) (pgs_cons (pg_name (i := 7) sc_built_from.nd rfl (Or.inl rfl)) pgs_nil)))
      (pss_cons (ps_set (i := 8) sc_built_from.nd rfl (Or.inl rfl) (pf (K := K) rfl (pe_ix (ixK (K := K) rfl) (pv 3) (pe_op op_add (pe_callB (lenK (K := K) rfl) rfl T.z_len PySem.boot_len (pa_cons (pv 0) pa_nil)) (pv 6)) (fun _ _ => rfl)) rfl))
    (pss_one (ps_expr (pbm (K := K) (T := "list") rfl (pe_bm PySem.F.plainAttrs_list PySem.F.slot_list_append PySem.F.type_list_append mt_append (pv 5) (pa_cons (pe_tup (pa_cons (pe_op op_sub (pv 8) (pf (K := K) rfl (pe_ix (ixK (K := K) rfl) (pv 3) (pe_ix (ixK (K := K) rfl) (pv 7) pe_int (fun _ _ => rfl)) (fun _ _ => rfl)) rfl)) (pa_cons (pe_op op_sub (pv 8) (pf (K := K) rfl (pe_ix (ixK (K := K) rfl) (pv 3) (pe_ix (ixK (K := K) rfl) (pv 7) pe_int (fun _ _ => rfl)) (fun _ _ => rfl)) rfl)) pa_nil))) pa_nil)))))))
    (pss_one (ps_ret (pm m_Built hr (pa_cons (pv 1) (pa_cons (pe_callTy (tupK (K := K) rfl) rfl T.z_tuple (by decide +kernel) (pa_cons (pe_slice (sllK (K := K) rfl) (pv 4) (po_some (pe_callB (lenK (K := K) rfl) rfl T.z_len PySem.boot_len (pa_cons (pv 0) pa_nil))) po_none) pa_nil)) (pa_cons (pe_callTy (tupK (K := K) rfl) rfl T.z_tuple (by decide +kernel) (pa_cons (pv 5) pa_nil)) (pa_cons (pc c_apart hr (pa_cons (pv 2) (pa_cons (pe_ix (ixK (K := K) rfl) (pv 4) (pe_un un_neg pe_int) (fun _ _ => rfl)) pa_nil))) pa_nil))))))))))), ?_⟩)
  have hn : ls.length = ps.length + 1 := hn
  have hz : ls.length ≤ 100 := hz
  have hok : CM.okPairs ls.length ps := hok
  have hnd : CM.okNeeds ls := hnd
  have har : CM.okAreas (CM.ocs ls ps ps.length) := har
  obtain ⟨v1, v2, v3, rfl, h1, h2, h3⟩ := alls3 (show Alls [LstOf (IsLf CL) ls, IsPs ps, IsPl src] vs H from ha)
  have ol := CM.ocs_len ls ps ps.length
  refine sq_asg (er_call (ls, ps) ⟨hz, (show ps.length ≤ 1000 by omega), hok, hnd⟩ (ea_cons (er_var rfl h1) (ea_cons (er_var rfl h2) ea_nil))) fun v4 H1 s1 r4 => ?_
  have r4 : LstOf (IsOc CO) (CM.ocs ls ps ps.length) v4 H1 := r4
  refine sq_asg (er_call (CM.ocs ls ps ps.length, ps, src) ⟨(show (CM.ocs ls ps ps.length).length = 2 * ps.length + 1 by omega), (show (CM.ocs ls ps ps.length).length ≤ 1000 by omega), (show CM.okPairs (ps.length + 1) ps by rw [← hn]; exact hok), har⟩ (ea_cons (er_var rfl r4) (ea_cons (er_var rfl (Mn.mn s1 h2)) (ea_cons (er_var rfl (Mn.mn s1 h3)) ea_nil)))) fun v5 H2 s2 r5 => ?_
  have r5 : LstOf IsPl (CM.plUp (CM.ocs ls ps ps.length) ps src ps.length) v5 H2 := r5
  generalize hos : CM.ocs ls ps ps.length = os at r4 r5 ol har
  have pl := CM.plUp_len os ps src ps.length
  have s12 := s1.trans s2
  refine sq_new fun l hl => ?_
  have s3 := same_new hl (.lst [])
  have wl : (CM.wiresOf os ls.length ps).length = ps.length := by unfold CM.wiresOf; rw [List.length_mapIdx]
  refine sq_forEnT (R := IsPs ps) (er_var rfl (Mn.mn (s12.trans s3) h2)) fun v H3 s4 ⟨a, us, ev, hu, r⟩ => ⟨a, us, ev, hu, fun i σ' H' => Kp GF H3 H' ∧ Acc IsWr H2 l ((CM.wiresOf os ls.length ps).take i) H' ∧ ∃ x y z, σ' = [some v1, some v2, some v3, some v4, some v5, some (.ref l), x, y, z], ⟨Kp.of_same (Same.refl _), by rw [List.take_zero]; exact (Acc.nil hl).grow s4, _, _, _, rfl⟩, fun i σ' H' _ p => p.1 _ _ hu trivial, ?_, ?_⟩
  · rintro i x T' σ' H' hx ⟨kp, acc, y6, y7, y8, rfl⟩ hT
    obtain ⟨p, hp, rp⟩ := r.getV hx
    have il : i < ps.length := (List.getElem?_eq_some_iff.mp hp).1
    have ob := hok i p hp
    have sT := same_new hT (.tup [.int (i : Nat), x])
    have accT := acc.grow sT
    have hO : LstOf (IsOc CO) os v4 (upd H' T' (.tup [.int (i : Nat), x])) := Mn.mn (s2.trans accT.same) r4
    have hL : LstOf (IsLf CL) ls v1 (upd H' T' (.tup [.int (i : Nat), x])) := Mn.mn (s12.trans accT.same) h1
    have hP : IsPr p x (upd H' T' (.tup [.int (i : Nat), x])) := Mn.mn sT (Mg.mg kp rp)
    have g0 : os[ls.length + i]? = some (os.getD (ls.length + i) .none) := CM.getD_at (by omega)
    have g1 : os[p.1]? = some (os.getD p.1 .none) := CM.getD_at (by omega)
    have g2 : os[p.2]? = some (os.getD p.2 .none) := CM.getD_at (by omega)
    refine g_pair upd_same ?_
    refine sq_asg (R := IsI (os.getD (ls.length + i) .none).time) (er_fld (er_ixL (j := ls.length + i) (er_var rfl hO) (er_I0 (er_lenL (er_var rfl hL)) (er_v rfl)) (by omega) g0) (f_time cO)) fun v9 H5 s5 e9 => ?_
    obtain ⟨us5, hu5, he5⟩ := accT.lst
    have l5 := he5.length
    rw [List.length_take] at l5
    refine sr_app (er_t2 (er_I0 (er_var rfl e9) (er_fld (er_ixL (j := p.1) (er_var rfl (Mn.mn s5 hO)) (er_ixV (j := 0) (er_var rfl (Mn.mn s5 hP)) er_c rfl rfl) rfl g1) (f_time cO))) (er_I0 (er_var rfl e9) (er_fld (er_ixL (j := p.2) (er_var rfl (Mn.mn s5 hO)) (er_ixV (j := 1) (er_var rfl (Mn.mn s5 hP)) er_c rfl rfl) rfl g2) (f_time cO)))) (er_v rfl) (s5 _ _ hu5) (by omega) fun v10 H6 s6 r10 => ?_
    refine ⟨kp.trans ((Kp.of_same (sT.trans (s5.trans s6))).trans (kp_lst (s6 _ _ (s5 _ _ hu5)))), ?_, _, _, _, rfl⟩
    have wi : (CM.wiresOf os ls.length ps)[i]? = some ((os.getD (ls.length + i) .none).time - (os.getD p.1 .none).time, (os.getD (ls.length + i) .none).time - (os.getD p.2 .none).time) := by
      unfold CM.wiresOf
      rw [List.getElem?_mapIdx, hp]
      rfl
    rw [List.take_add_one, wi]
    exact (accT.grow s5).snoc s6 (s6 _ _ (s5 _ _ hu5)) r10
  · rintro σ' H' ⟨kp, acc, y6, y7, y8, rfl⟩
    rw [r.length, ← wl, List.take_length] at acc
    obtain ⟨us5, hu5, he5⟩ := acc.lst
    have hPl : LstOf IsPl (CM.plUp os ps src ps.length) v5 H' := Mn.mn acc.same r5
    have lst : (CM.plUp os ps src ps.length)[(CM.plUp os ps src ps.length).length - 1]? = some ((CM.plUp os ps src ps.length).getD ((CM.plUp os ps src ps.length).length - 1) CM.pl0) := CM.getD_at (by omega)
    refine sr_ret (er_bt (CM.buildBD ls ps src) (ea_cons (er_var rfl (Mn.mn (s12.trans acc.same) h2)) (ea_cons (er_tuple (er_i2 (er_slLd (j := ls.length) (er_var rfl hPl) (eo_some (er_lenL (er_var rfl (Mn.mn (s12.trans acc.same) h1)))) rfl) ?_)) (ea_cons (er_tuple (er_var (R := LstOf IsWr (CM.buildBD ls ps src).wires) rfl ⟨l, us5, rfl, hu5, ?_⟩)) (ea_cons (er_i (er_call (src, (CM.plUp os ps src ps.length).getD ((CM.plUp os ps src ps.length).length - 1) CM.pl0) trivial (ea_cons (er_var rfl (Mn.mn (s12.trans acc.same) h3)) (ea_cons (er_ixLast (er_var rfl hPl) lst) ea_nil))) ?_) ea_nil))))) fun v' H5 s5 e => kk v' H5 (s12.trans (acc.same.trans s5)) e
    · unfold CM.buildBD
      rw [hos]
    · unfold CM.buildBD
      rw [hos]
      exact he5
    · unfold CM.buildBD
      rw [hos]
abbrev s_mended : Stmt := top 38
abbrev N_mended : List Str := ["built", "leaves", "source", "places", "times", "wires", "at", "pair", "trunk", "first", "second", "to_first", "to_second", "time", "leaf"]
abbrev P_mended : List Str := ["built", "leaves", "source"]
theorem sc_mended : FnScope N_mended P_mended (defScope s_mended) := ⟨rfl, rfl, rfl, by decide +kernel, rfl, by decide +kernel, by decide +kernel⟩
abbrev s_tied_anew : Stmt := top 39
abbrev N_tied_anew : List Str := ["built", "leaves", "source", "no_wires"]
abbrev P_tied_anew : List Str := ["built", "leaves", "source"]
theorem sc_tied_anew : FnScope N_tied_anew P_tied_anew (defScope s_tied_anew) := ⟨rfl, rfl, rfl, by decide +kernel, rfl, by decide +kernel, by decide +kernel⟩
theorem Acc.other {α β : Type} {R : α → Rp} [∀ x, Mg (R x)] {H0 H H1 : Hp} {l m : Addr} {xs : List α} {vs ws : List V} (a : Acc R H0 l xs H) (s : Same H H1) (h : H1 m = some (.lst vs)) (n : l ≠ m) (z : H0 m = none) : Acc R H0 l xs (upd H1 m (.lst ws)) := by
  obtain ⟨us, hu, e⟩ := a.lst
  exact ⟨a.new, same_mut (a.same.trans s) z, us, by rw [upd_ne n]; exact s _ _ hu, (Each.mn (m := fun _ => mn_of_mg) s e).mg (kp_lst h)⟩
def sp_mended (CL CB : Addr) : Sp := SpOf (ι := BD × List LD × Pl) (fun i => i.2.1.length = i.1.pairs.length + 1 ∧ i.2.1.length ≤ 100 ∧ CM.okPairs i.2.1.length i.1.pairs ∧ i.1.places.length = i.1.pairs.length ∧ i.1.wires.length = i.1.pairs.length) (fun i => [IsBs CB i.1, LstOf (IsLf CL) i.2.1, IsPl i.2.2]) (fun i => IsBt CB (CM.mendBD i.1 i.2.1 i.2.2))
theorem ok_mended (F : DefAt K mg "mended" s_mended P_mended) (T : Gs mg) (cL : LeafC K CL) (c : BuiltC K CB) (c_places_of_all : Cal P w K mg base 1 "places_of_all" P_places_of_all (sp_places_of_all CL CB)) (c_apart : Cal P w K mg base 1 "apart" P_apart sp_apart) (m_Built : MkC P w K mg base 1 "Built" CB P_Built_init (sp_Built CB)) :
    Cal P w K mg base 3 "mended" P_mended (sp_mended CL CB) := by
  refine F.ok sc_mended (spOf_len fun _ => rfl) (fun f cdv A outer s H vs Q E hr ⟨⟨b, ls, src⟩, ⟨hn, hz, hok, hpl, hwl⟩, ha, kk⟩ => ⟨_,
    (pss_cons (ps_set (i := 3) sc_mended.nd rfl (Or.inl rfl) (pc c_places_of_all hr (pa_cons (pv 0) (pa_cons (pv 1) pa_nil))))
    (pss_cons (ps_setLc (own := [("leaf", 14)]) (g := gName 14) (tt := tYes) (i := 4) rfl sc_mended.nd rfl rfl (sw_true rfl rfl rfl (by decide +kernel)) (piL (K := K) rfl (pv 1)) (blkOk_by (own := [("leaf", 14)]) (N := N_mended) (sc := defScope s_mended) (by decide +kernel)) (fun _ _ _ _ _ => (pg_name (i := 14) sc_mended.nd rfl (Or.inl rfl))) (fun _ _ _ _ _ => pts_nil) (fun _ _ _ _ _ => (pf (K := K) rfl (pv 14) rfl)))
    (pss_cons (ps_set (i := 5) sc_mended.nd rfl (Or.inl rfl) (pe_lst pa_nil))
    (pss_cons (ps_for PassesOwn.never rfl (piET (K := K) rfl rfl T.z_enumerate (pa_cons (pf (K := K) rfl (pv 0) rfl) pa_nil)) (pgT (K := K) (n := 2) rfl rfl (pgs_cons (pg_name (i := 6) sc_mended.nd rfl (Or.inl rfl)) (pgs_cons (pg_name (i := 7) sc_mended.nd rfl (Or.inl rfl)) pgs_nil)))
      (pss_cons (ps_set (i := 9) sc_mended.nd rfl (Or.inl rfl) (pe_ix (ixK (K := K) rfl) (pv 7) pe_int (fun _ _ => rfl)))
    (pss_cons (ps_set (i := 10) sc_mended.nd rfl (Or.inl rfl) (pe_ix (ixK (K := K) rfl) (pv 7) pe_int (fun _ _ => rfl)))
    (pss_cons (ps_set (i := 11) sc_mended.nd rfl (Or.inl rfl) (pe_callB (cMax2 rfl) rfl T.z_max (by decide +kernel) (pa_cons (pc c_apart hr (pa_cons (pe_ix (ixK (K := K) rfl) (pf (K := K) rfl (pv 0) rfl) (pv 6) (fun _ _ => rfl)) (pa_cons (pe_ix (ixK (K := K) rfl) (pv 3) (pv 9) (fun _ _ => rfl)) pa_nil))) (pa_cons (pe_ix (ixK (K := K) rfl) (pe_ix (ixK (K := K) rfl) (pf (K := K) rfl (pv 0) rfl) (pv 6) (fun _ _ => rfl)) pe_int (fun _ _ => rfl)) pa_nil))))
    (pss_cons (ps_set (i := 12) sc_mended.nd rfl (Or.inl rfl) (pe_callB (cMax2 rfl) rfl T.z_max (by decide +kernel) (pa_cons (pc c_apart hr (pa_cons (pe_ix (ixK (K := K) rfl) (pf (K := K) rfl (pv 0) rfl) (pv 6) (fun _ _ => rfl)) (pa_cons (pe_ix (ixK (K := K) rfl) (pv 3) (pv 10) (fun _ _ => rfl)) pa_nil))) (pa_cons (pe_ix (ixK (K := K) rfl) (pe_ix (ixK (K := K) rfl) (pf (K := K) rfl (pv 0) rfl) (pv 6) (fun _ _ => rfl)) pe_int (fun _ _ => rfl)) pa_nil))))
    (pss_cons (ps_set (i := 13) sc_mended.nd rfl (Or.inl rfl) (pe_callB (cMax2 rfl) rfl T.z_max (by decide +kernel) (pa_cons (pe_op op_add (pe_ix (ixK (K := K) rfl) (pv 4) (pv 9) (fun _ _ => rfl)) (pv 11)) (pa_cons (pe_op op_add (pe_ix (ixK (K := K) rfl) (pv 4) (pv 10) (fun _ _ => rfl)) (pv 12)) pa_nil))))
    (pss_cons (ps_expr (pbm (K := K) (T := "list") rfl (pe_bm PySem.F.plainAttrs_list PySem.F.slot_list_append PySem.F.type_list_append mt_append (pv 5) (pa_cons (pe_tup (pa_cons (pe_op op_sub (pv 13) (pe_ix (ixK (K := K) rfl) (pv 4) (pv 9) (fun _ _ => rfl))) (pa_cons (pe_op op_sub (pv 13) (pe_ix (ixK (K := K) rfl) (pv 4) (pv 10) (fun _ _ => rfl))) pa_nil))) pa_nil))))
    (pss_one (ps_expr (pbm (K := K) (T := "list") rfl (pe_bm PySem.F.plainAttrs_list PySem.F.slot_list_append PySem.F.type_list_append mt_append (pv 4) (pa_cons (pv 13) pa_nil))))))))))))
    (pss_cons (ps_set (i := 8) sc_mended.nd rfl (Or.inl rfl) (pe_callB (cMax2 rfl) rfl T.z_max (by decide +kernel) (pa_cons (pc c_apart hr (pa_cons (pv 2) (pa_cons (pe_ix (ixK (K := K) rfl) (pv 3) (pe_un un_neg pe_int) (fun _ _ => rfl)) pa_nil))) (pa_cons (pf (K := K) rfl (pv 0) rfl) pa_nil))))
    (pss_one (ps_ret (pm m_Built hr (pa_cons (pf (K := K) rfl (pv 0) rfl) (pa_cons (pf (K := K) rfl (pv 0) rfl) (pa_cons (pe_callTy (tupK (K := K) rfl) rfl T.z_tuple (by decide +kernel) (pa_cons (pv 5) pa_nil)) (pa_cons (pv 8) pa_nil)))))))))))), ?_⟩)
  have hn : ls.length = b.pairs.length + 1 := hn
  have hz : ls.length ≤ 100 := hz
  have hok : CM.okPairs ls.length b.pairs := hok
  have hpl : b.places.length = b.pairs.length := hpl
  have hwl : b.wires.length = b.pairs.length := hwl
  obtain ⟨v1, v2, v3, rfl, h1, h2, h3⟩ := alls3 (show Alls [IsBs CB b, LstOf (IsLf CL) ls, IsPl src] vs H from ha)
  refine sq_asg (er_call (b, ls) (show b.places.length + ls.length ≤ 1000 by omega) (ea_cons (er_var rfl h1) (ea_cons (er_var rfl h2) ea_nil))) fun v4 H1 s1 r4 => ?_
  have r4 : LstOf IsPl (CM.allPl b ls) v4 H1 := r4
  have al : (CM.allPl b ls).length = ls.length + b.pairs.length := by unfold CM.allPl; rw [List.length_append, List.length_map, hpl]
  -- times = [..]
  refine sq_lcLA (R := IsLf CL) (R' := fun i => IsI i) (ys := CM.mdTs b ls 0) (er_var rfl (Mn.mn s1 h2)) (by rw [CM.mdTs_len]; rfl) (by omega) (fun _ => rfl) (fun i x y v H2 hx hy s2 rv => ?_) fun lt H2 a2 => ?_
  · have hy : (ls.map fun (l : LD) => l.late)[i]? = some y := hy
    rw [List.getElem?_map, hx] at hy
    obtain rfl := Option.some.inj hy
    exact er_fld (er_var rfl rv) (f_late cL)
  refine sq_new fun lw hlw => ?_
  have lw1 : H1 lw = none := a2.same.free hlw
  have ltw : lt ≠ lw := fun z => by
    obtain ⟨us, hu, _⟩ := a2.lst
    rw [z, hlw] at hu
    cases hu
  have s3 := same_new hlw (.lst [])
  have aw0 : Acc IsWr H1 lw (CM.mdWs b ls 0) (upd H2 lw (.lst [])) := ⟨lw1, a2.same.trans s3, [], upd_same, trivial⟩
  have at0 := a2.grow s3
  refine sq_forEnT (R := IsPs b.pairs) (er_fld (er_var rfl (Mn.mn (s1.trans (a2.same.trans s3)) h1)) (s_pairs c)) fun v H3 s4 ⟨a, us, ev, hu, r⟩ => ⟨a, us, ev, hu, fun i σ' H' => Kp GF H3 H' ∧ Acc (fun i => IsI i) H1 lt (CM.mdTs b ls i) H' ∧ Acc IsWr H1 lw (CM.mdWs b ls i) H' ∧ ∃ x6 x7 x9 x10 x11 x12 x13, σ' = [some v1, some v2, some v3, some v4, some (.ref lt), some (.ref lw), x6, x7, none, x9, x10, x11, x12, x13, none],
    ⟨Kp.of_same (Same.refl _), at0.grow s4, aw0.grow s4, _, _, _, _, _, _, _, rfl⟩, fun i σ' H' _ p => p.1 _ _ hu trivial, ?_, ?_⟩
  · rintro i x T' σ' H' hx ⟨kp, at1, aw1, x6, x7, x9, x10, x11, x12, x13, rfl⟩ hT
    obtain ⟨p, hp, rp⟩ := r.getV hx
    have il : i < b.pairs.length := (List.getElem?_eq_some_iff.mp hp).1
    have ob := hok i p hp
    have gp : b.pairs.getD i (0, 0) = p := by rw [List.getD, hp]; rfl
    have sT := same_new hT (.tup [.int (i : Nat), x])
    have at2 := at1.grow sT
    have aw2 := aw1.grow sT
    have tl := CM.mdTs_len b ls i
    have hB : IsBs CB b v1 (upd H' T' (.tup [.int (i : Nat), x])) := Mn.mn (s1.trans at2.same) h1
    have hA : LstOf IsPl (CM.allPl b ls) v4 (upd H' T' (.tup [.int (i : Nat), x])) := Mn.mn at2.same r4
    have hP : IsPr p x (upd H' T' (.tup [.int (i : Nat), x])) := Mn.mn sT (Mg.mg kp rp)
    have gpl : b.places[i]? = some (b.places.getD i CM.pl0) := CM.getD_at (by omega)
    have gw : b.wires[i]? = some (b.wires.getD i (0, 0)) := CM.getD_at (by omega)
    have ga1 : (CM.allPl b ls)[p.1]? = some ((CM.allPl b ls).getD p.1 CM.pl0) := CM.getD_at (by omega)
    have ga2 : (CM.allPl b ls)[p.2]? = some ((CM.allPl b ls).getD p.2 CM.pl0) := CM.getD_at (by omega)
    have gt1 : (CM.mdTs b ls i)[p.1]? = some ((CM.mdTs b ls i).getD p.1 0) := CM.getD_at (by omega)
    have gt2 : (CM.mdTs b ls i)[p.2]? = some ((CM.mdTs b ls i).getD p.2 0) := CM.getD_at (by omega)
    refine g_pair upd_same ?_
    refine sq_asg (R := IsN p.1) (er_ixV (j := 0) (er_var rfl hP) er_c rfl rfl) fun u9 H4 t4 e9 => ?_
    obtain rfl : u9 = .int p.1 := e9
    refine sq_asg (R := IsN p.2) (er_ixV (j := 1) (er_var rfl (Mn.mn t4 hP)) er_c rfl rfl) fun u10 H5 t5 e10 => ?_
    obtain rfl : u10 = .int p.2 := e10
    have t45 := t4.trans t5
    refine sq_asg (R := IsI (CM.mdTo b ls i p.1 (b.wires.getD i (0, 0)).1)) (er_max2 (er_call (b.places.getD i CM.pl0, (CM.allPl b ls).getD p.1 CM.pl0) trivial (ea_cons (er_ixT (Q := IsPl) (j := i) (er_fld (er_var rfl (Mn.mn t45 hB)) (s_places c)) (er_v rfl) rfl gpl) (ea_cons (er_ixL (Q := IsPl) (j := p.1) (er_var rfl (Mn.mn t45 hA)) (er_v rfl) rfl ga1) ea_nil))) (er_ixV (j := 0) (er_ixS (Q := IsWr) (j := i) (er_fld (er_var rfl (Mn.mn t45 hB)) (s_wires c)) (er_v rfl) rfl gw) er_c rfl rfl)) fun u11 H6 t6 e11 => ?_
    obtain rfl : u11 = .int _ := e11
    have t46 := t45.trans t6
    refine sq_asg (R := IsI (CM.mdTo b ls i p.2 (b.wires.getD i (0, 0)).2)) (er_max2 (er_call (b.places.getD i CM.pl0, (CM.allPl b ls).getD p.2 CM.pl0) trivial (ea_cons (er_ixT (Q := IsPl) (j := i) (er_fld (er_var rfl (Mn.mn t46 hB)) (s_places c)) (er_v rfl) rfl gpl) (ea_cons (er_ixL (Q := IsPl) (j := p.2) (er_var rfl (Mn.mn t46 hA)) (er_v rfl) rfl ga2) ea_nil))) (er_ixV (j := 1) (er_ixS (Q := IsWr) (j := i) (er_fld (er_var rfl (Mn.mn t46 hB)) (s_wires c)) (er_v rfl) rfl gw) er_c rfl rfl)) fun u12 H7 t7 e12 => ?_
    obtain rfl : u12 = .int _ := e12
    have t47 := t46.trans t7
    have at7 := at2.grow t47
    have aw7 := aw2.grow t47
    obtain ⟨ut, hut, het⟩ := at7.lst
    obtain ⟨uw, huw, hew⟩ := aw7.lst
    have hTs : LstOf (fun i => IsI i) (CM.mdTs b ls i) (.ref lt) H7 := ⟨lt, ut, rfl, hut, het⟩
    refine sq_asg (R := IsI (CM.mdT b ls (CM.mdTs b ls i) i)) (er_i (er_max2 (er_I0 (er_ixL (j := p.1) (er_var rfl hTs) (er_v rfl) rfl gt1) (er_v rfl)) (er_I0 (er_ixL (j := p.2) (er_var rfl hTs) (er_v rfl) rfl gt2) (er_v rfl))) ?_) fun u13 H8 t8 e13 => ?_
    · unfold CM.mdT
      rw [gp]
    obtain rfl : u13 = .int _ := e13
    have wl : (CM.mdWs b ls i).length ≤ 100 := by
      have q : ∀ i, (CM.mdWs b ls i).length = i := fun i => by
        induction i with
        | zero => rfl
        | succ i ih =>
          show (CM.mdWs b ls i ++ [_]).length = _
          rw [List.length_append, ih]
          rfl
      rw [q]
      omega
    refine sq_app (R := IsWr (CM.mdT b ls (CM.mdTs b ls i) i - (CM.mdTs b ls i).getD p.1 0, CM.mdT b ls (CM.mdTs b ls i) i - (CM.mdTs b ls i).getD p.2 0)) (er_t2 (er_I0 (er_v rfl) (er_ixL (j := p.1) (er_var rfl (Mn.mn t8 hTs)) (er_v rfl) rfl gt1)) (er_I0 (er_v rfl) (er_ixL (j := p.2) (er_var rfl (Mn.mn t8 hTs)) (er_v rfl) rfl gt2))) (er_v rfl) (t8 _ _ huw) (by rw [hew.length]; omega) fun u14 H9 t9 r14 => ?_
    have at9 : Acc (fun i => IsI i) H1 lt (CM.mdTs b ls i) (upd H9 lw (.lst (uw ++ [u14]))) := (at7.grow t8).other (β := Unit) t9 (t9 _ _ (t8 _ _ huw)) ltw lw1
    have aw9 : Acc IsWr H1 lw (CM.mdWs b ls i ++ [(CM.mdT b ls (CM.mdTs b ls i) i - (CM.mdTs b ls i).getD p.1 0, CM.mdT b ls (CM.mdTs b ls i) i - (CM.mdTs b ls i).getD p.2 0)]) (upd H9 lw (.lst (uw ++ [u14]))) := (aw7.grow t8).snoc t9 (t9 _ _ (t8 _ _ huw)) r14
    obtain ⟨ut9, hut9, het9⟩ := at9.lst
    obtain ⟨uw9, huw9, hew9⟩ := aw9.lst
    refine sr_app (R := IsI (CM.mdT b ls (CM.mdTs b ls i) i)) (er_v rfl) (er_v rfl) hut9 (by rw [het9.length]; omega) fun u15 H10 t10 r15 => ?_
    refine ⟨kp.trans ((Kp.of_same (sT.trans (t47.trans (t8.trans t9)))).trans ((kp_lst (t9 _ _ (t8 _ _ huw))).trans ((Kp.of_same t10).trans (kp_lst (t10 _ _ hut9))))), at9.snoc t10 (t10 _ _ hut9) r15, ?_, _, _, _, _, _, _, _, rfl⟩
    have q := aw9.other (β := Unit) (ws := ut9 ++ [u15]) t10 (t10 _ _ hut9) (Ne.symm ltw) at9.new
    show Acc IsWr H1 lw (CM.mdWs b ls i ++ [(CM.mdT b ls (CM.mdTs b ls i) i - (CM.mdTs b ls i).getD (b.pairs.getD i (0, 0)).1 0, CM.mdT b ls (CM.mdTs b ls i) i - (CM.mdTs b ls i).getD (b.pairs.getD i (0, 0)).2 0)]) _
    rw [gp]
    exact q
  · rintro σ' H' ⟨kp, at1, aw1, x6, x7, x9, x10, x11, x12, x13, rfl⟩
    rw [r.length] at aw1
    have sH := s1.trans aw1.same
    have lst : (CM.allPl b ls)[(CM.allPl b ls).length - 1]? = some ((CM.allPl b ls).getD ((CM.allPl b ls).length - 1) CM.pl0) := CM.getD_at (by omega)
    refine sq_asg (R := IsI (CM.mendBD b ls src).trunk) (er_max2 (er_call (src, (CM.allPl b ls).getD ((CM.allPl b ls).length - 1) CM.pl0) trivial (ea_cons (er_var rfl (Mn.mn sH h3)) (ea_cons (er_ixLast (er_var rfl (Mn.mn aw1.same r4)) lst) ea_nil))) (er_fld (er_var rfl (Mn.mn sH h1)) (s_trunk c))) fun u8 H5 s5 e8 => ?_
    obtain ⟨uw, huw, hew⟩ := (aw1.grow s5).lst
    refine sr_ret (er_bt (CM.mendBD b ls src) (ea_cons (er_fld (er_var rfl (Mn.mn (sH.trans s5) h1)) (s_pairs c)) (ea_cons (er_fld (er_var rfl (Mn.mn (sH.trans s5) h1)) (s_places c)) (ea_cons (er_tuple (er_var (R := LstOf IsWr (CM.mendBD b ls src).wires) rfl ⟨lw, uw, rfl, huw, hew⟩)) (ea_cons (er_var rfl e8) ea_nil))))) fun v' H6 s6 e => kk v' H6 (sH.trans (s5.trans s6)) e
end
end Clk
set_option Elab.async false
set_option maxRecDepth 100000
set_option maxHeartbeats 4000000
set_option linter.all false
set_option autoImplicit false
namespace Clk
open PySem PySem.Spec PyProof.Rows L2
open CM (LD OD BD)
section
variable {P : Program} {w : World} {K : PySem.W.Frag} {mg : Str → Option Value} {base : Heap} {CL CO CB : Addr}
def sp_tied_anew (CL CB : Addr) : Sp := SpOf (ι := BD × List LD × Pl) (fun i => i.2.1.length = i.1.pairs.length + 1 ∧ i.2.1.length ≤ 100 ∧ CM.okPairs i.2.1.length i.1.pairs ∧ i.1.places.length = i.1.pairs.length) (fun i => [IsBt CB i.1, LstOf (IsLf CL) i.2.1, IsPl i.2.2]) (fun i => IsBt CB (CM.mendBD (CM.bareBD i.1) i.2.1 i.2.2))
theorem ok_tied_anew (F : DefAt K mg "tied_anew" s_tied_anew P_tied_anew) (T : Gs mg) (c : BuiltC K CB) (c_mended : Cal P w K mg base 3 "mended" P_mended (sp_mended CL CB)) (m_Built : MkC P w K mg base 1 "Built" CB P_Built_init (sp_Built CB)) : Cal P w K mg base 4 "tied_anew" P_tied_anew (sp_tied_anew CL CB) := by
  refine F.ok sc_tied_anew (spOf_len fun _ => rfl) (fun f cdv A outer s H vs Q E hr ⟨⟨b, ls, src⟩, ⟨hn, hz, hok, hpl⟩, ha, kk⟩ => ⟨_,
    (pss_cons (ps_set (i := 3) sc_tied_anew.nd rfl (Or.inl rfl) (pe_op op_rep (pe_lst (pa_cons (pe_tup (pa_cons pe_int (pa_cons pe_int pa_nil))) pa_nil)) (pe_callB (lenK (K := K) rfl) rfl T.z_len PySem.boot_len (pa_cons (pf (K := K) rfl (pv 0) rfl) pa_nil))))
    (pss_one (ps_ret (pc c_mended hr (pa_cons (pm m_Built hr (pa_cons (pf (K := K) rfl (pv 0) rfl) (pa_cons (pf (K := K) rfl (pv 0) rfl) (pa_cons (pv 3) (pa_cons pe_int pa_nil))))) (pa_cons (pv 1) (pa_cons (pv 2) pa_nil))))))), ?_⟩)
  have hn : ls.length = b.pairs.length + 1 := hn
  have hz : ls.length ≤ 100 := hz
  obtain ⟨v1, v2, v3, rfl, h1, h2, h3⟩ := alls3 (show Alls [IsBt CB b, LstOf (IsLf CL) ls, IsPl src] vs H from ha)
  refine sq_rep (R := IsWr) (x := (0, 0)) (n := b.pairs.length) (er_lst1 (R := IsWr) (x := (0, 0)) (er_t2 er_c er_c)) (er_lenT (er_fld (er_var rfl h1) (f_pairs c))) (by omega) fun l H1 a1 => ?_
  obtain ⟨us, hu, he⟩ := a1.lst
  exact sr_ret (er_call (CM.bareBD b, ls, src) ⟨hn, hz, hok, hpl, List.length_replicate⟩ (ea_cons (er_bs (CM.bareBD b) (ea_cons (er_fld (er_var rfl (Mn.mn a1.same h1)) (f_pairs c)) (ea_cons (er_fld (er_var rfl (Mn.mn a1.same h1)) (f_places c)) (ea_cons (er_var rfl ⟨l, us, rfl, hu, he⟩) (ea_cons er_c ea_nil))))) (ea_cons (er_var rfl (Mn.mn a1.same h2)) (ea_cons (er_var rfl (Mn.mn a1.same h3)) ea_nil)))) fun v H2 s2 r => kk v H2 (a1.same.trans s2) r
abbrev s_longer_to : Stmt := top 40
abbrev N_longer_to : List Str := ["pair", "lengths", "number", "more"]
abbrev P_longer_to : List Str := ["pair", "lengths", "number", "more"]
theorem sc_longer_to : FnScope N_longer_to P_longer_to (defScope s_longer_to) := ⟨rfl, rfl, rfl, by decide +kernel, rfl, by decide +kernel, by decide +kernel⟩
abbrev s_built_without : Stmt := top 41
abbrev N_built_without : List Str := ["built", "leaf", "above", "gone", "lengths", "more", "wires", "places", "is_root", "trunk", "pair", "own"]
abbrev P_built_without : List Str := ["built", "leaf"]
theorem sc_built_without : FnScope N_built_without P_built_without (defScope s_built_without) := ⟨rfl, rfl, rfl, by decide +kernel, rfl, by decide +kernel, by decide +kernel⟩
def sp_longer_to : Sp := SpOf (ι := NN × (Int × Int) × Nat × Int) (fun _ => True) (fun i => [IsPr i.1, IsWr i.2.1, IsN i.2.2.1, IsI i.2.2.2]) (fun i => IsWr (CM.longer i.1 i.2.1 i.2.2.1 i.2.2.2))
theorem ok_longer_to (F : DefAt K mg "longer_to" s_longer_to P_longer_to) (T : Gs mg) : Cal P w K mg base 1 "longer_to" P_longer_to sp_longer_to := by
  refine F.ok sc_longer_to (spOf_len fun _ => rfl) (fun f cdv A outer s H vs Q E hr ⟨⟨p, wr, g, m⟩, hp, ha, kk⟩ => ⟨_,
    (pss_cons (ps_if (pt_cmpR op_eq (pe_ix (ixK (K := K) rfl) (pv 0) pe_int (fun _ _ => rfl)) (pv 2) (nomark _)) (pss_one (ps_ret (pe_tup (pa_cons (pe_op op_add (pe_ix (ixK (K := K) rfl) (pv 1) pe_int (fun _ _ => rfl)) (pv 3)) (pa_cons (pe_ix (ixK (K := K) rfl) (pv 1) pe_int (fun _ _ => rfl)) pa_nil))))) pss_nil)
    (pss_cons (ps_if (pt_cmpR op_eq (pe_ix (ixK (K := K) rfl) (pv 0) pe_int (fun _ _ => rfl)) (pv 2) (nomark _)) (pss_one (ps_ret (pe_tup (pa_cons (pe_ix (ixK (K := K) rfl) (pv 1) pe_int (fun _ _ => rfl)) (pa_cons (pe_op op_add (pe_ix (ixK (K := K) rfl) (pv 1) pe_int (fun _ _ => rfl)) (pv 3)) pa_nil))))) pss_nil)
    (pss_one (ps_ret (pv 1))))), ?_⟩)
  obtain ⟨v1, v2, v3, v4, rfl, h1, h2, h3, h4⟩ := alls4 (show Alls [IsPr p, IsWr wr, IsN g, IsI m] vs H from ha)
  have k1 : ∀ (z : Int × Int) v' H', Same H H' → IsWr z v' H' → z = CM.longer p wr g m → Q v' H' := fun z v' H' s' e ez => kk v' H' s' (by subst ez; exact e)
  refine sq_ifr (et_test (er_eqI (er_ixV (j := 0) (er_var rfl h1) er_c rfl rfl) (er_var rfl h3))) (fun c H1 s1 => ?_) fun c H1 s1 => ?_
  · have c : (p.1 : Int) = g := of_decide_eq_true c
    refine sr_ret (er_t2 (er_I0 (er_ixV (j := 0) (er_var rfl (Mn.mn s1 h2)) er_c rfl rfl) (er_var rfl (Mn.mn s1 h4))) (er_ixV (j := 1) (er_var rfl (Mn.mn s1 h2)) er_c rfl rfl)) fun v' H2 s2 e => k1 (wr.1 + m, wr.2) v' H2 (s1.trans s2) e ?_
    unfold CM.longer
    rw [if_pos (by omega)]
  have c : ¬ (p.1 : Int) = g := of_decide_eq_false c
  refine sq_ifr (et_test (er_eqI (er_ixV (j := 1) (er_var rfl (Mn.mn s1 h1)) er_c rfl rfl) (er_var rfl (Mn.mn s1 h3)))) (fun d H2 s2 => ?_) fun d H2 s2 => ?_
  · have d : (p.2 : Int) = g := of_decide_eq_true d
    have s12 := s1.trans s2
    refine sr_ret (er_t2 (er_ixV (j := 0) (er_var rfl (Mn.mn s12 h2)) er_c rfl rfl) (er_I0 (er_ixV (j := 1) (er_var rfl (Mn.mn s12 h2)) er_c rfl rfl) (er_var rfl (Mn.mn s12 h4)))) fun v' H3 s3 e => k1 (wr.1, wr.2 + m) v' H3 (s12.trans s3) e ?_
    unfold CM.longer
    rw [if_neg (by omega), if_pos (by omega)]
  · have d : ¬ (p.2 : Int) = g := of_decide_eq_false d
    refine sr_ret (er_var rfl (Mn.mn (s1.trans s2) h2)) fun v' H3 s3 e => k1 wr v' H3 (s1.trans (s2.trans s3)) e ?_
    unfold CM.longer
    rw [if_neg (by omega), if_neg (by omega)]
def sp_built_without (CB : Addr) : Sp := SpOf (ι := BD × Nat × Nat) (fun i => CM.above i.1.pairs i.2.1 = some i.2.2 ∧ i.1.pairs.length ≤ 100 ∧ i.1.places.length = i.1.pairs.length ∧ i.1.wires.length = i.1.pairs.length) (fun i => [IsBt CB i.1, IsN i.2.1]) (fun i => IsBt CB (CM.dropBD i.1 i.2.1 i.2.2))
theorem ok_built_without (F : DefAt K mg "built_without" s_built_without P_built_without) (T : Gs mg) (c : BuiltC K CB) (c_joint_above : Cal P w K mg base 1 "joint_above" P_joint_above sp_joint_above) (c_longer_to : Cal P w K mg base 1 "longer_to" P_longer_to sp_longer_to) (c_pairs_without : Cal P w K mg base 2 "pairs_without" P_pairs_without sp_pairs_without)
    (m_Built : MkC P w K mg base 1 "Built" CB P_Built_init (sp_Built CB)) : Cal P w K mg base 3 "built_without" P_built_without (sp_built_without CB) := by
  refine F.ok sc_built_without (spOf_len fun _ => rfl) (fun f cdv A outer s H vs Q E hr ⟨⟨b, k, j⟩, ⟨hj, hz, hpl, hwl⟩, ha, kk⟩ => ⟨_,
    (pss_cons (ps_set (i := 2) sc_built_without.nd rfl (Or.inl rfl) (pc c_joint_above hr (pa_cons (pf (K := K) rfl (pv 0) rfl) (pa_cons (pv 1) pa_nil))))
    (pss_cons (ps_set (i := 3) sc_built_without.nd rfl (Or.inr rfl) (pe_op op_add (pe_op op_add (pe_callB (lenK (K := K) rfl) rfl T.z_len PySem.boot_len (pa_cons (pf (K := K) rfl (pv 0) rfl) pa_nil)) pe_int) (pv 2)))
    (pss_cons (ps_set (i := 4) sc_built_without.nd rfl (Or.inl rfl) (pe_ix (ixK (K := K) rfl) (pf (K := K) rfl (pv 0) rfl) (pv 2) (fun _ _ => rfl)))
    (pss_cons (ps_set (i := 5) sc_built_without.nd rfl (Or.inr rfl) (pe_ifExp (pt_cmpR op_eq (pe_ix (ixK (K := K) rfl) (pe_ix (ixK (K := K) rfl) (pf (K := K) rfl (pv 0) rfl) (pv 2) (fun _ _ => rfl)) pe_int (fun _ _ => rfl)) (pv 1) (nomark _)) (pe_ix (ixK (K := K) rfl) (pv 4) pe_int (fun _ _ => rfl)) (pe_ix (ixK (K := K) rfl) (pv 4) pe_int (fun _ _ => rfl))))
    (pss_cons (ps_setLc (own := [("pair", 10), ("own", 11)]) (g := gTup K 2 (gCons (gName 10) (gCons (gName 11) gNil))) (tt := tYes) (i := 6) rfl sc_built_without.nd rfl rfl (sw_true rfl rfl rfl (by decide +kernel)) (piZ (K := K) rfl rfl T.z_zip (pa_cons (pf (K := K) rfl (pv 0) rfl) (pa_cons (pf (K := K) rfl (pv 0) rfl) pa_nil))) (blkOk_by (own := [("pair", 10), ("own", 11)]) (N := N_built_without) (sc := defScope s_built_without) (by decide +kernel)) (fun _ _ _ _ _ => (pgT (K := K) (n := 2) rfl rfl (pgs_cons (pg_name (i := 10) sc_built_without.nd rfl (Or.inl rfl)) (pgs_cons (pg_name (i := 11) sc_built_without.nd rfl (Or.inl rfl)) pgs_nil)))) (fun _ _ _ _ _ => pts_nil) (fun _ _ _ _ _ => (pc c_longer_to hr (pa_cons (pv 10) (pa_cons (pv 11) (pa_cons (pv 3) (pa_cons (pv 5) pa_nil)))))))
    (pss_cons (ps_set (i := 7) sc_built_without.nd rfl (Or.inl rfl) (pe_op (catK (K := K) rfl) (pe_slice (sltK (K := K) rfl) (pf (K := K) rfl (pv 0) rfl) po_none (po_some (pv 2))) (pe_slice (sltK (K := K) rfl) (pf (K := K) rfl (pv 0) rfl) (po_some (pe_op op_add (pv 2) pe_int)) po_none)))
    (pss_cons (ps_set (i := 8) sc_built_without.nd rfl (Or.inl rfl) (pe_cmpR op_eq (pv 2) (pe_op op_sub (pe_callB (lenK (K := K) rfl) rfl T.z_len PySem.boot_len (pa_cons (pf (K := K) rfl (pv 0) rfl) pa_nil)) pe_int) (nomark _)))
    (pss_cons (ps_set (i := 9) sc_built_without.nd rfl (Or.inl rfl) (pe_ifExp (pt_val (pv 8)) (pe_op op_add (pf (K := K) rfl (pv 0) rfl) (pv 5)) (pf (K := K) rfl (pv 0) rfl)))
    (pss_one (ps_ret (pm m_Built hr (pa_cons (pc c_pairs_without hr (pa_cons (pf (K := K) rfl (pv 0) rfl) (pa_cons (pv 1) pa_nil))) (pa_cons (pv 7) (pa_cons (pe_callTy (tupK (K := K) rfl) rfl T.z_tuple (by decide +kernel) (pa_cons (pe_op op_cat (pe_slice (sllK (K := K) rfl) (pv 6) po_none (po_some (pv 2))) (pe_slice (sllK (K := K) rfl) (pv 6) (po_some (pe_op op_add (pv 2) pe_int)) po_none)) pa_nil)) (pa_cons (pv 9) pa_nil))))))))))))))), ?_⟩)
  have hj : CM.above b.pairs k = some j := hj
  have hz : b.pairs.length ≤ 100 := hz
  have hpl : b.places.length = b.pairs.length := hpl
  have hwl : b.wires.length = b.pairs.length := hwl
  have jl := above_lt hj
  obtain ⟨v1, v2, rfl, h1, h2⟩ := alls2 (show Alls [IsBt CB b, IsN k] vs H from ha)
  obtain rfl : v2 = .int k := h2
  have gp : b.pairs[j]? = some (b.pairs.getD j (0, 0)) := CM.getD_at jl
  have gw : b.wires[j]? = some (b.wires.getD j (0, 0)) := CM.getD_at (by omega)
  refine sq_asg (R := IsN j) ((er_call (b.pairs, k) trivial (ea_cons (er_fld (er_var rfl h1) (f_pairs c)) (ea_cons (er_v rfl) ea_nil))).to fun v H' _ e => ?_) fun v3 H1 s1 e3 => ?_
  · have e : (match CM.above b.pairs k with | some j => IsN j | none => IsV .non) v H' := e
    rw [hj] at e
    exact e
  obtain rfl : v3 = .int j := e3
  have b1 := Mn.mn s1 h1
  refine sq_asg (R := IsN (b.pairs.length + 1 + j)) (er_i (er_I0 (er_I0 (er_lenT (er_fld (er_var rfl b1) (f_pairs c))) er_c) (er_v rfl)) (by omega)) fun v4 H2 s2 e4 => ?_
  obtain rfl : v4 = .int _ := e4
  have b2 := Mn.mn s2 b1
  refine sq_asg (R := IsWr (b.wires.getD j (0, 0))) (er_ixT (j := j) (er_fld (er_var rfl b2) (f_wires c)) (er_v rfl) rfl gw) fun v5 H3 s3 e5 => ?_
  have b3 := Mn.mn s3 b2
  refine sq_asg (R := IsI (CM.moreOf b k j)) (er_ifE (et_test (er_eqI (er_ixV (j := 0) (er_ixT (Q := IsPr) (j := j) (er_fld (er_var rfl b3) (f_pairs c)) (er_v rfl) rfl gp) er_c rfl rfl) (er_var (R := IsN k) rfl rfl))) (fun d => er_i (er_ixV (j := 1) (er_var (R := IsWr (b.wires.getD j (0, 0))) rfl e5) er_c rfl rfl) ?_) (fun d => er_i (er_ixV (j := 0) (er_var (R := IsWr (b.wires.getD j (0, 0))) rfl e5) er_c rfl rfl) ?_)) fun v6 H4 s4 e6 => ?_
  · have d : ((b.pairs.getD j (0, 0)).1 : Int) = k := of_decide_eq_true d
    unfold CM.moreOf
    rw [if_pos (by omega)]
  · have d : ¬ ((b.pairs.getD j (0, 0)).1 : Int) = k := of_decide_eq_false d
    unfold CM.moreOf
    rw [if_neg (by omega)]
  obtain rfl : v6 = .int _ := e6
  have b4 := Mn.mn s4 b3
  have ll : (CM.longers b k j).length = b.pairs.length := by unfold CM.longers; rw [List.length_zipWith]; omega
  refine sq_asg (R := LstOf IsWr (CM.longers b k j)) (er_lcZ (er_fld (er_var rfl b4) (f_pairs c)) (er_fld (er_var rfl b4) (f_wires c)) ll.symm (by omega) (by omega) (fun _ _ => rfl) fun i x z y u1 u2 H5 hx hzz hy s5 r1 r2 => ?_) fun v7 H5 s5 e7 => ?_
  · unfold CM.longers at hy
    rw [List.getElem?_zipWith, hx, hzz] at hy
    obtain rfl := Option.some.inj hy
    exact er_call (x, z, b.pairs.length + 1 + j, CM.moreOf b k j) trivial (ea_cons (er_var rfl r1) (ea_cons (er_var rfl r2) (ea_cons (er_v rfl) (ea_cons (er_v rfl) ea_nil))))
  have b5 := Mn.mn s5 b4
  refine sq_asg (R := TupOf IsPl (b.places.take j ++ b.places.drop (j + 1))) (er_catT (er_slT (j := j) (er_fld (er_var rfl b5) (f_places c)) (eo_some (er_v rfl)) rfl (by omega)) (er_slTd (j := j + 1) (er_fld (er_var rfl b5) (f_places c)) (eo_some (er_I0 (er_v rfl) er_c)) rfl (Nat.succ_pos _) (by omega)) (by rw [List.length_take, List.length_drop]; omega)) fun v8 H6 s6 e8 => ?_
  have b6 := Mn.mn s6 b5
  refine sq_asg (R := IsB (decide (j + 1 = b.pairs.length))) (er_is (er_eqI (er_v rfl) (er_I0 (er_lenT (er_fld (er_var rfl b6) (f_pairs c))) er_c)) ?_) fun v9 H7 s7 e9 => ?_
  · refine congrArg V.bl (decide_eq_decide.mpr ?_)
    omega
  obtain rfl : v9 = .bl _ := e9
  have b7 := Mn.mn s7 b6
  refine sq_asg (R := IsI (CM.dropBD b k j).trunk) (er_ifE (et_B (er_var (R := IsB (decide (j + 1 = b.pairs.length))) rfl rfl)) (fun d => er_i (er_I0 (er_fld (er_var rfl b7) (f_trunk c)) (er_v rfl)) ?_) (fun d => er_i (er_fld (er_var rfl b7) (f_trunk c)) ?_)) fun v10 H8 s8 e10 => ?_
  · exact (if_pos (of_decide_eq_true d)).symm
  · exact (if_neg (of_decide_eq_false d)).symm
  have b8 := Mn.mn s8 b7
  have e7a := Mn.mn (s6.trans (s7.trans s8)) e7
  have e8a := Mn.mn (s7.trans s8) e8
  exact sr_ret (er_bt (CM.dropBD b k j) (ea_cons (er_call (b.pairs, k, j) ⟨hj, (show b.pairs.length ≤ 1000 by omega)⟩ (ea_cons (er_fld (er_var rfl b8) (f_pairs c)) (ea_cons (er_v rfl) ea_nil))) (ea_cons (er_var rfl e8a) (ea_cons (er_tuple (er_catL (er_slL (j := j) (er_var rfl e7a) (eo_some (er_v rfl)) rfl) (er_slLd (j := j + 1) (er_var rfl e7a) (eo_some (er_I0 (er_v rfl) er_c)) rfl) (by rw [List.length_take, List.length_drop]; omega))) (ea_cons (er_var rfl e10) ea_nil))))) fun v H9 s9 r => kk v H9 (s1.trans (s2.trans (s3.trans (s4.trans (s5.trans (s6.trans (s7.trans (s8.trans s9)))))))) r
end
end Clk
set_option Elab.async false
set_option maxRecDepth 100000
set_option maxHeartbeats 4000000
set_option linter.all false
set_option autoImplicit false
namespace Clk
open PySem PySem.Spec PyProof.Rows L2
open CM (LD OD BD PC)
structure Gt (mg : Str → Option Value) : Prop extends Gs mg where
  g_NO_SUCH_ONE : GV mg "NO_SUCH_ONE" (.int (-2))
  g_NO_CHANGE : GV mg "NO_CHANGE" (.int (-6))
  g_TOO_MANY_SHAPES : GV mg "TOO_MANY_SHAPES" (.int (-7))
  g_NOT_THERE : GV mg "NOT_THERE" (.int (-16))
  g_OUT_OF_BOUNDS : GV mg "OUT_OF_BOUNDS" (.int (-22))
  g_NO_ROOM : GV mg "NO_ROOM" (.int (-28))
  g_FARTHEST : GV mg "FARTHEST" (.int 100000)
  g_LATEST : GV mg "LATEST" (.int 100000)
  g_ALL_STEPS : GV mg "ALL_STEPS" (.int 65535)
  g_MOST_LEAVES : GV mg "MOST_LEAVES" (.int 8)
  g_MOST_PLANNED : GV mg "MOST_PLANNED" (.int 6)
  g_SHAPE : GV mg "SHAPE" (.int 5)
  g_FIRST_CHANGE : GV mg "FIRST_CHANGE" (.int 1)
  g_LAST_CHANGE : GV mg "LAST_CHANGE" (.int 9)
  g_FIRST_TELLING : GV mg "FIRST_TELLING" (.int 12)
  g_NEW : GV mg "NEW" (.int 0)
  g_UNDO : GV mg "UNDO" (.int 10)
  g_MOST_TAKEN_BACK : GV mg "MOST_TAKEN_BACK" (.int 20)
  g_TOLD : GV mg "TOLD" (.int 12)
  g_TICKING : GV mg "TICKING" (.int 19)
  g_LAST_STEP : GV mg "LAST_STEP" (.int 15)
/-! the chip in the heap -/
class Mc (R : Rp) : Prop where
  mc : ∀ {v : V} {H H' : Hp}, Kp GC H H' → R v H → R v H'
instance (priority := low) mc_mg {R : Rp} [m : Mg R] : Mc R := ⟨fun k h => Mg.mg k h⟩
instance {α : Type} {R : α → Rp} {xs : List α} [∀ x, Mg (R x)] : Mc (LstOf R xs) := ⟨fun k h => LstOf.kp (G := GC) (fun _ => trivial) k h⟩
instance {xs : List V} : Mc (IsL xs) := ⟨fun k ⟨a, e, h⟩ => ⟨a, e, k _ _ h trivial⟩⟩
instance {α : Type} {R : α → Rp} {o : Option α} [∀ x, Mc (R x)] : Mc (IsO R o) := ⟨fun {v H H'} k h => match o, h with
  | none, h => h
  | some x, h => ⟨h.1, Mc.mc k h.2⟩⟩
structure ChipC (K : PySem.W.Frag) (C : Addr) : Prop where
  cl : Cls K C
  source : NoAttr K C "source"
  leaves : NoAttr K C "leaves"
  plan : NoAttr K C "plan"
  built : NoAttr K C "built"
  earlier : NoAttr K C "earlier"
  later : NoAttr K C "later"
/-- what a chip keeps of its changes; lists that are none of the chip's -/
structure Eh where
  e : V
  l : V
  av : Addr → Prop
def LsA {α : Type} (av : Addr → Prop) (R : α → Rp) (xs : List α) : Rp := fun v H => ∃ a vs, v = .ref a ∧ ¬ av a ∧ H a = some (.lst vs) ∧ Each R H vs xs
def LsN {α : Type} (H0 : Hp) (R : α → Rp) (xs : List α) : Rp := fun v H => ∃ a vs, v = .ref a ∧ H0 a = none ∧ H a = some (.lst vs) ∧ Each R H vs xs
instance {α : Type} {av : Addr → Prop} {R : α → Rp} {xs : List α} [∀ x, Mn (R x)] : Mn (LsA av R xs) := ⟨fun s ⟨a, vs, e, n, h, r⟩ => ⟨a, vs, e, n, s _ _ h, r.mn s⟩⟩
instance {α : Type} {H0 : Hp} {R : α → Rp} {xs : List α} [∀ x, Mn (R x)] : Mn (LsN H0 R xs) := ⟨fun s ⟨a, vs, e, n, h, r⟩ => ⟨a, vs, e, n, s _ _ h, r.mn s⟩⟩
instance {α : Type} {av : Addr → Prop} {R : α → Rp} {xs : List α} [m : ∀ x, Mc (R x)] : Mc (LsA av R xs) := ⟨fun k ⟨a, vs, e, n, h, r⟩ => ⟨a, vs, e, n, k _ _ h trivial, r.to fun _ x q => (m x).mc k q⟩⟩
theorem LsA.ls {α : Type} {av : Addr → Prop} {R : α → Rp} {xs : List α} {v : V} {H : Hp} (h : LsA av R xs v H) : LstOf R xs v H := let ⟨a, vs, e, _, h, r⟩ := h; ⟨a, vs, e, h, r⟩
def Has (av : Addr → Prop) (H : Hp) : Prop := ∀ a, av a → ∃ o, H a = some o
theorem Has.same {av : Addr → Prop} {H H' : Hp} (h : Has av H) (s : Same H H') : Has av H' := fun a z => let ⟨o, e⟩ := h a z; ⟨o, s _ _ e⟩
theorem Has.upd {av : Addr → Prop} {H : Hp} {c : Addr} {o : HO} (h : Has av H) : Has av (upd H c o) := fun a z => by
  by_cases e : a = c
  · subst e
    exact ⟨o, upd_same⟩
  · obtain ⟨o', h'⟩ := h a z
    exact ⟨o', by rw [upd_ne e]; exact h'⟩
theorem LsN.a {α : Type} {av : Addr → Prop} {H0 : Hp} {R : α → Rp} {xs : List α} {v : V} {H : Hp} (k : Has av H0) (h : LsN H0 R xs v H) : LsA av R xs v H := by
  obtain ⟨a, vs, e, n, h, r⟩ := h
  refine ⟨a, vs, e, fun z => ?_, h, r⟩
  obtain ⟨o, q⟩ := k a z
  rw [n] at q
  cases q
/-- a list of plain values that was not there in H0; that is none of the avoided ones -/
def IsF (H0 : Hp) (xs : List V) : Rp := fun v H => ∃ a, v = .ref a ∧ H0 a = none ∧ H a = some (.lst xs)
def IsLa (av : Addr → Prop) (xs : List V) : Rp := fun v H => ∃ a, v = .ref a ∧ ¬ av a ∧ H a = some (.lst xs)
theorem IsF.a {av : Addr → Prop} {H0 H : Hp} {xs : List V} {v : V} (k : Has av H0) (h : IsF H0 xs v H) : IsLa av xs v H := by
  obtain ⟨a, e, n, h⟩ := h
  refine ⟨a, e, fun z => ?_, h⟩
  obtain ⟨o, q⟩ := k a z
  rw [n] at q
  cases q
instance {av : Addr → Prop} {xs : List V} : Mn (IsLa av xs) := ⟨fun s ⟨a, e, n, h⟩ => ⟨a, e, n, s _ _ h⟩⟩
instance {av : Addr → Prop} {xs : List V} : Mc (IsLa av xs) := ⟨fun k ⟨a, e, n, h⟩ => ⟨a, e, n, k _ _ h trivial⟩⟩
section
variable {σ : L2.St} {H : Hp} {ta tb tc : TE} {tr : TA}
theorem er_fV {xs : List V} (h : EvA tr σ H (xs.map IsV)) (hl : xs.length ≤ 100 := by simp) : EvR (tLst tr) σ H (IsF H xs) :=
  er_lst h (by rw [List.length_map]; exact hl) fun v vs a H' e h' ⟨H0, s0, n0, r, _⟩ => ⟨a, e, s0.free n0, by rw [← alls_vals r]; exact h'⟩
theorem er_f1 {x : V} (h1 : EvR ta σ H (IsV x)) : EvR (tLst (tCons ta tNil)) σ H (IsF H [x]) := er_fV (xs := [x]) (ea_cons h1 ea_nil)
theorem er_f2 {x y : V} (h1 : EvR ta σ H (IsV x)) (h2 : EvR tb σ H (IsV y)) : EvR (tLst (tCons ta (tCons tb tNil))) σ H (IsF H [x, y]) := er_fV (xs := [x, y]) (ea_cons h1 (ea_cons h2 ea_nil))
theorem er_f3 {x y z : V} (h1 : EvR ta σ H (IsV x)) (h2 : EvR tb σ H (IsV y)) (h3 : EvR tc σ H (IsV z)) : EvR (tLst (tCons ta (tCons tb (tCons tc tNil)))) σ H (IsF H [x, y, z]) := er_fV (xs := [x, y, z]) (ea_cons h1 (ea_cons h2 (ea_cons h3 ea_nil)))
end
/-- the chip at c holds X -/
def ChAt (C CL CB c : Addr) (eh : Eh) (X : PC) (H : Hp) : Prop := ∃ dx fs s l p b, H c = some (.ins C dx fs) ∧ fs.length < 100 ∧ fs.lookup ("source" : Str) = some s ∧ fs.lookup ("leaves" : Str) = some l ∧ fs.lookup ("plan" : Str) = some p ∧ fs.lookup ("built" : Str) = some b ∧ fs.lookup ("earlier" : Str) = some eh.e ∧ fs.lookup ("later" : Str) = some eh.l ∧
  IsPl X.src s H ∧ LsA eh.av (IsLf CL) X.leaves l H ∧ IsO IsPs X.plan p H ∧ IsO (IsBt CB) X.built b H ∧ Has eh.av H
def IsCh (C CL CB c : Addr) (eh : Eh) (X : PC) : Rp := fun v H => v = .ref c ∧ ChAt C CL CB c eh X H
instance {C CL CB c : Addr} {eh : Eh} {X : PC} : Mn (IsCh C CL CB c eh X) := ⟨fun s ⟨e, dx, fs, a, l, p, b, h, z, l1, l2, l3, l4, l5, l6, r1, r2, r3, r4, ra⟩ => ⟨e, dx, fs, a, l, p, b, s _ _ h, z, l1, l2, l3, l4, l5, l6, Mn.mn s r1, Mn.mn s r2, Mn.mn s r3, Mn.mn s r4, ra.same s⟩⟩
theorem ChAt.mn {C CL CB c : Addr} {eh : Eh} {X : PC} {H H' : Hp} (s : Same H H') (h : ChAt C CL CB c eh X H) : ChAt C CL CB c eh X H' := (Mn.mn (R := IsCh C CL CB c eh X) s ⟨rfl, h⟩).2
section
variable {K : PySem.W.Frag} {C CL CB c : Addr} {eh : Eh} {X : PC}
theorem f_source (cc : ChipC K C) : Fld K (IsCh C CL CB c eh X) "source" (IsPl X.src) := fun v H ⟨e, dx, fs, a, l, p, b, h, z, l1, l2, l3, l4, l5, l6, r1, r2, r3, r4, ra⟩ => ⟨c, C, dx, fs, a, e, h, cc.cl, cc.source, l1, r1⟩
theorem f_leaves (cc : ChipC K C) : Fld K (IsCh C CL CB c eh X) "leaves" (LstOf (IsLf CL) X.leaves) := fun v H ⟨e, dx, fs, a, l, p, b, h, z, l1, l2, l3, l4, l5, l6, r1, r2, r3, r4, ra⟩ => ⟨c, C, dx, fs, l, e, h, cc.cl, cc.leaves, l2, r2.ls⟩
theorem f_plan (cc : ChipC K C) : Fld K (IsCh C CL CB c eh X) "plan" (IsO IsPs X.plan) := fun v H ⟨e, dx, fs, a, l, p, b, h, z, l1, l2, l3, l4, l5, l6, r1, r2, r3, r4, ra⟩ => ⟨c, C, dx, fs, p, e, h, cc.cl, cc.plan, l3, r3⟩
theorem f_built (cc : ChipC K C) : Fld K (IsCh C CL CB c eh X) "built" (IsO (IsBt CB) X.built) := fun v H ⟨e, dx, fs, a, l, p, b, h, z, l1, l2, l3, l4, l5, l6, r1, r2, r3, r4, ra⟩ => ⟨c, C, dx, fs, b, e, h, cc.cl, cc.built, l4, r4⟩
end
theorem lk_put {f : Str} {v : V} : ∀ {fs : List (Str × V)}, (putF f v fs).lookup f = some v
  | [] => lkH
  | (g, x) :: r => by
    by_cases h : g = f
    · subst h
      rw [ptH]
      exact lkH
    · rw [ptP h rfl]
      exact lkP (by rw [beq_eq_false_iff_ne]; exact fun z => h z.symm) lk_put
theorem lk_put_ne {f k : Str} {v : V} (hk : k ≠ f) : ∀ {fs : List (Str × V)}, (putF f v fs).lookup k = fs.lookup k
  | [] => lkP (by rw [beq_eq_false_iff_ne]; exact hk) rfl
  | (g, x) :: r => by
    by_cases h : g = f
    · subst h
      rw [ptH, lkP (o := r.lookup k) (by rw [beq_eq_false_iff_ne]; exact hk) rfl]
      exact (lkP (by rw [beq_eq_false_iff_ne]; exact hk) rfl).symm
    · rw [ptP h rfl]
      by_cases z : k = g
      · subst z
        rw [lkH, lkH]
      · rw [lkP (o := r.lookup k) (by rw [beq_eq_false_iff_ne]; exact z) (lk_put_ne hk), lkP (by rw [beq_eq_false_iff_ne]; exact z) rfl]
theorem put_len {f : Str} {v w : V} : ∀ {fs : List (Str × V)}, fs.lookup f = some w → (putF f v fs).length = fs.length
  | [], h => by cases h
  | (g, x) :: r, h => by
    by_cases z : g = f
    · subst z
      rw [ptH]
      rfl
    · rw [ptP z rfl]
      rw [lkP (o := r.lookup f) (by rw [beq_eq_false_iff_ne]; exact fun q => z q.symm) rfl] at h
      show (putF f v r).length + 1 = r.length + 1
      rw [put_len h]
section
variable {σ : L2.St} {H : Hp} {ta tv : TE} {K : PySem.W.Frag} {D : Ends} {u : TS} {C CL CB c : Addr} {eh : Eh} {X : PC}
theorem ChAt.has (h : ChAt C CL CB c eh X H) : Has eh.av H := let ⟨_, _, _, _, _, _, _, _, _, _, _, _, _, _, _, _, _, _, r⟩ := h; r
/-- a new list -/
theorem er_new {α : Type} {R : α → Rp} [∀ x, Mn (R x)] {xs ys : List α} (ha : EvR ta σ H (LstOf R xs)) (hb : EvR tv σ H (LstOf R ys)) (hz : xs.length + ys.length ≤ 100000) : EvR (tOp rCat ta tv) σ H (LsN H R (xs ++ ys)) :=
  er_two ha hb fun x y H1 s1 ⟨a, us, ea, hu, r⟩ ⟨b, ws, eb, hw, r2⟩ Q q => ⟨a, b, us, ws, ea, eb, hu, hw, Nat.le_trans (by rw [r.length, r2.length]; exact hz) (by decide : 100000 ≤ sizeLine), fun p hp => q _ _ (same_new hp _) ⟨p, _, rfl, s1.free hp, upd_same, (Each.mn (same_new hp _) r).append (Each.mn (same_new hp _) r2)⟩⟩
theorem sr_source {q : Pl} (hc : ChAt C CL CB c eh X H) (cc : ChipC K C) (h : EvR tv σ H (IsPl q)) (ho : EvR ta σ H (IsV (.ref c))) (k : ∀ H1, Kp GC H H1 → ChAt C CL CB c eh { X with src := q } H1 → D.nx σ H1) : sFld K ta tv "source" D σ H := by
  obtain ⟨dx, fs, a, l, p, b, hh, z, l1, l2, l3, l4, l5, l6, r1, r2, r3, r4, ra⟩ := hc
  refine sr_fld h ho hh cc.cl cc.source (by omega) fun v H1 s r => ?_
  have kp : Kp GC H1 (upd H1 c (.ins C dx (putF "source" v fs))) := kp_chip (s _ _ hh) l1
  exact k _ ((Kp.of_same s).trans kp) ⟨dx, _, v, l, p, b, upd_same, by rw [put_len l1]; exact z, lk_put, by rw [lk_put_ne (by decide +kernel)]; exact l2, by rw [lk_put_ne (by decide +kernel)]; exact l3, by rw [lk_put_ne (by decide +kernel)]; exact l4, by rw [lk_put_ne (by decide +kernel)]; exact l5, by rw [lk_put_ne (by decide +kernel)]; exact l6, Mc.mc kp r, Mc.mc kp (Mn.mn s r2), Mc.mc kp (Mn.mn s r3), Mc.mc kp (Mn.mn s r4), (ra.same s).upd⟩
theorem sr_leavesA {q : List LD} (hc : ChAt C CL CB c eh X H) (cc : ChipC K C) (h : EvR tv σ H (LsA eh.av (IsLf CL) q)) (ho : EvR ta σ H (IsV (.ref c))) (k : ∀ H1, Kp GC H H1 → ChAt C CL CB c eh { X with leaves := q } H1 → D.nx σ H1) : sFld K ta tv "leaves" D σ H := by
  obtain ⟨dx, fs, a, l, p, b, hh, z, l1, l2, l3, l4, l5, l6, r1, r2, r3, r4, ra⟩ := hc
  refine sr_fld h ho hh cc.cl cc.leaves (by omega) fun v H1 s r => ?_
  have kp : Kp GC H1 (upd H1 c (.ins C dx (putF "leaves" v fs))) := kp_chip (s _ _ hh) l1
  exact k _ ((Kp.of_same s).trans kp) ⟨dx, _, a, v, p, b, upd_same, by rw [put_len l2]; exact z, by rw [lk_put_ne (by decide +kernel)]; exact l1, lk_put, by rw [lk_put_ne (by decide +kernel)]; exact l3, by rw [lk_put_ne (by decide +kernel)]; exact l4, by rw [lk_put_ne (by decide +kernel)]; exact l5, by rw [lk_put_ne (by decide +kernel)]; exact l6, Mc.mc kp (Mn.mn s r1), Mc.mc kp r, Mc.mc kp (Mn.mn s r3), Mc.mc kp (Mn.mn s r4), (ra.same s).upd⟩
theorem sr_plan {q : Option (List NN)} (hc : ChAt C CL CB c eh X H) (cc : ChipC K C) (h : EvR tv σ H (IsO IsPs q)) (ho : EvR ta σ H (IsV (.ref c))) (k : ∀ H1, Kp GC H H1 → ChAt C CL CB c eh { X with plan := q } H1 → D.nx σ H1) : sFld K ta tv "plan" D σ H := by
  obtain ⟨dx, fs, a, l, p, b, hh, z, l1, l2, l3, l4, l5, l6, r1, r2, r3, r4, ra⟩ := hc
  refine sr_fld h ho hh cc.cl cc.plan (by omega) fun v H1 s r => ?_
  have kp : Kp GC H1 (upd H1 c (.ins C dx (putF "plan" v fs))) := kp_chip (s _ _ hh) l1
  exact k _ ((Kp.of_same s).trans kp) ⟨dx, _, a, l, v, b, upd_same, by rw [put_len l3]; exact z, by rw [lk_put_ne (by decide +kernel)]; exact l1, by rw [lk_put_ne (by decide +kernel)]; exact l2, lk_put, by rw [lk_put_ne (by decide +kernel)]; exact l4, by rw [lk_put_ne (by decide +kernel)]; exact l5, by rw [lk_put_ne (by decide +kernel)]; exact l6, Mc.mc kp (Mn.mn s r1), Mc.mc kp (Mn.mn s r2), Mc.mc kp r, Mc.mc kp (Mn.mn s r4), (ra.same s).upd⟩
theorem sr_built {q : Option BD} (hc : ChAt C CL CB c eh X H) (cc : ChipC K C) (h : EvR tv σ H (IsO (IsBt CB) q)) (ho : EvR ta σ H (IsV (.ref c))) (k : ∀ H1, Kp GC H H1 → ChAt C CL CB c eh { X with built := q } H1 → D.nx σ H1) : sFld K ta tv "built" D σ H := by
  obtain ⟨dx, fs, a, l, p, b, hh, z, l1, l2, l3, l4, l5, l6, r1, r2, r3, r4, ra⟩ := hc
  refine sr_fld h ho hh cc.cl cc.built (by omega) fun v H1 s r => ?_
  have kp : Kp GC H1 (upd H1 c (.ins C dx (putF "built" v fs))) := kp_chip (s _ _ hh) l1
  exact k _ ((Kp.of_same s).trans kp) ⟨dx, _, a, l, p, v, upd_same, by rw [put_len l4]; exact z, by rw [lk_put_ne (by decide +kernel)]; exact l1, by rw [lk_put_ne (by decide +kernel)]; exact l2, by rw [lk_put_ne (by decide +kernel)]; exact l3, lk_put, by rw [lk_put_ne (by decide +kernel)]; exact l5, by rw [lk_put_ne (by decide +kernel)]; exact l6, Mc.mc kp (Mn.mn s r1), Mc.mc kp (Mn.mn s r2), Mc.mc kp (Mn.mn s r3), Mc.mc kp r, (ra.same s).upd⟩
theorem sq_source {q : Pl} (hc : ChAt C CL CB c eh X H) (cc : ChipC K C) (h : EvR tv σ H (IsPl q)) (ho : EvR ta σ H (IsV (.ref c))) (k : ∀ H1, Kp GC H H1 → ChAt C CL CB c eh { X with src := q } H1 → u D σ H1) : tSeq (sFld K ta tv "source") u D σ H := sr_source (D := { D with nx := u D }) hc cc h ho k
theorem sq_leavesA {q : List LD} (hc : ChAt C CL CB c eh X H) (cc : ChipC K C) (h : EvR tv σ H (LsA eh.av (IsLf CL) q)) (ho : EvR ta σ H (IsV (.ref c))) (k : ∀ H1, Kp GC H H1 → ChAt C CL CB c eh { X with leaves := q } H1 → u D σ H1) : tSeq (sFld K ta tv "leaves") u D σ H := sr_leavesA (D := { D with nx := u D }) hc cc h ho k
theorem sq_leaves {q : List LD} (hc : ChAt C CL CB c eh X H) (cc : ChipC K C) (h : EvR tv σ H (LsN H (IsLf CL) q)) (ho : EvR ta σ H (IsV (.ref c))) (k : ∀ H1, Kp GC H H1 → ChAt C CL CB c eh { X with leaves := q } H1 → u D σ H1) : tSeq (sFld K ta tv "leaves") u D σ H := sq_leavesA hc cc (h.to fun v H' _ r => r.a hc.has) ho k
theorem sq_plan {q : Option (List NN)} (hc : ChAt C CL CB c eh X H) (cc : ChipC K C) (h : EvR tv σ H (IsO IsPs q)) (ho : EvR ta σ H (IsV (.ref c))) (k : ∀ H1, Kp GC H H1 → ChAt C CL CB c eh { X with plan := q } H1 → u D σ H1) : tSeq (sFld K ta tv "plan") u D σ H := sr_plan (D := { D with nx := u D }) hc cc h ho k
theorem sq_built {q : Option BD} (hc : ChAt C CL CB c eh X H) (cc : ChipC K C) (h : EvR tv σ H (IsO (IsBt CB) q)) (ho : EvR ta σ H (IsV (.ref c))) (k : ∀ H1, Kp GC H H1 → ChAt C CL CB c eh { X with built := q } H1 → u D σ H1) : tSeq (sFld K ta tv "built") u D σ H := sr_built (D := { D with nx := u D }) hc cc h ho k
theorem er_non {α : Type} {R : α → Rp} : EvR (tC .non) σ H (IsO R none) := er_c
theorem er_som {α : Type} {R : α → Rp} {x : α} (h : EvR tv σ H (R x)) (hn : ∀ H, R x .non H → False) : EvR tv σ H (IsO R (some x)) := h.to fun v H' _ r => ⟨fun e => hn H' (e ▸ r), r⟩
theorem er_the {α : Type} {R : α → Rp} {o : Option α} {x : α} (h : EvR tv σ H (IsO R o)) (e : o = some x) : EvR tv σ H (R x) := by
  subst e
  exact h.to fun v H' _ r => r.2
/-- x is None, x is not None -/
theorem er_oN {α : Type} {R : α → Rp} {o : Option α} (ha : EvR ta σ H (IsO R o)) : EvR (tOp (fun x y H Q => y = .non ∧ Q (.bl (decide (x = .non))) H) ta (tC .non)) σ H (IsB o.isNone) := fun H1 s Q q => ha H1 s _ fun x H2 s2 r => ⟨rfl, q _ H2 s2 (by
  cases o with
  | none => rw [show x = .non from r]; rfl
  | some y => exact congrArg V.bl (decide_eq_false r.1))⟩
theorem er_oNN {α : Type} {R : α → Rp} {o : Option α} (ha : EvR ta σ H (IsO R o)) : EvR (tOp (fun x y H Q => y = .non ∧ Q (.bl (!decide (x = .non))) H) ta (tC .non)) σ H (IsB o.isSome) := fun H1 s Q q => ha H1 s _ fun x H2 s2 r => ⟨rfl, q _ H2 s2 (by
  cases o with
  | none => rw [show x = .non from r]; rfl
  | some y => show V.bl (!decide (x = .non)) = _; rw [decide_eq_false r.1]; rfl)⟩
theorem no_tup {α : Type} {R : α → Rp} {xs : List α} {H : Hp} : TupOf R xs .non H → False := fun ⟨a, vs, e, _⟩ => by cases e
theorem no_bt {b : BD} {H : Hp} : IsBt CB b .non H → False := fun ⟨a, dx, p, l, w, e, _⟩ => by cases e
end
section
variable {P : Program} {w : World} {K : PySem.W.Frag} {mg : Str → Option Value} {base : Heap} {C CL CO CB : Addr}
abbrev s_is_in_reach : Stmt := top 66
abbrev N_is_in_reach : List Str := ["s", "t"]
abbrev P_is_in_reach : List Str := ["s", "t"]
theorem sc_is_in_reach : FnScope N_is_in_reach P_is_in_reach (defScope s_is_in_reach) := ⟨rfl, rfl, rfl, by decide +kernel, rfl, by decide +kernel, by decide +kernel⟩
abbrev s_is_leaf : Stmt := top 67
abbrev N_is_leaf : List Str := ["s", "t", "late", "need"]
abbrev P_is_leaf : List Str := ["s", "t", "late", "need"]
theorem sc_is_leaf : FnScope N_is_leaf P_is_leaf (defScope s_is_leaf) := ⟨rfl, rfl, rfl, by decide +kernel, rfl, by decide +kernel, by decide +kernel⟩
abbrev s_place_at : Stmt := top 68
abbrev N_place_at : List Str := ["s", "t"]
abbrev P_place_at : List Str := ["s", "t"]
theorem sc_place_at : FnScope N_place_at P_place_at (defScope s_place_at) := ⟨rfl, rfl, rfl, by decide +kernel, rfl, by decide +kernel, by decide +kernel⟩
abbrev s_leaf_at : Stmt := top 69
abbrev N_leaf_at : List Str := ["s", "t", "late", "need"]
abbrev P_leaf_at : List Str := ["s", "t", "late", "need"]
theorem sc_leaf_at : FnScope N_leaf_at P_leaf_at (defScope s_leaf_at) := ⟨rfl, rfl, rfl, by decide +kernel, rfl, by decide +kernel, by decide +kernel⟩
def sp_is_in_reach : Sp := SpOf (ι := Int × Int) (fun _ => True) (fun i => [IsI i.1, IsI i.2]) (fun i => IsB (Lr72.okPlace ⟨i.1, i.2⟩))
theorem ok_is_in_reach (F : DefAt K mg "is_in_reach" s_is_in_reach P_is_in_reach) (T : Gt mg) : Cal P w K mg base 1 "is_in_reach" P_is_in_reach sp_is_in_reach := by
  refine F.ok sc_is_in_reach (spOf_len fun _ => rfl) (fun f cdv A outer s H vs Q E hr ⟨⟨x, y⟩, hp, ha, k⟩ => ⟨_,
    (pss_one (ps_ret (pe_and (pe_cmpR op_le (pe_callB cAbs rfl T.z_abs (by decide +kernel) (pa_cons (pv 0) pa_nil)) (pgl T.g_FARTHEST) (nomark _)) (pe_one (pe_cmpR op_le (pe_callB cAbs rfl T.z_abs (by decide +kernel) (pa_cons (pv 1) pa_nil)) (pgl T.g_FARTHEST) (nomark _)))))), ?_⟩)
  obtain ⟨v1, v2, rfl, h1, h2⟩ := alls2 (show Alls [IsI x, IsI y] vs H from ha)
  have k : ∀ v H', Same H H' → IsB (Lr72.okPlace ⟨x, y⟩) v H' → Q v H' := k
  refine sr_ret (er_and (er_I0 (er_abs (er_var rfl h1)) er_c) fun _ => er_I0 (er_abs (er_var rfl h2)) er_c) fun v H1 s1 r => k v H1 s1 ?_
  rw [show v = _ from r]
  exact congrArg V.bl (by unfold Lr72.okPlace Lr71.size Lr72.most; rw [Bool.decide_and])
def okLf (s t l n : Int) : Bool := Lr72.okPlace ⟨s, t⟩ && (decide (l ≤ 100000) && decide (n ≤ 65535))
def sp_is_leaf : Sp := SpOf (ι := Int × Int × Int × Int) (fun _ => True) (fun i => [IsI i.1, IsI i.2.1, IsI i.2.2.1, IsI i.2.2.2]) (fun i => IsB (okLf i.1 i.2.1 i.2.2.1 i.2.2.2))
theorem ok_is_leaf (F : DefAt K mg "is_leaf" s_is_leaf P_is_leaf) (T : Gt mg) (c_is_in_reach : Cal P w K mg base 1 "is_in_reach" P_is_in_reach sp_is_in_reach) : Cal P w K mg base 2 "is_leaf" P_is_leaf sp_is_leaf := by
  refine F.ok sc_is_leaf (spOf_len fun _ => rfl) (fun f cdv A outer s H vs Q E hr ⟨⟨x, y, l, n⟩, hp, ha, k⟩ => ⟨_,
    (pss_one (ps_ret (pe_and (pc c_is_in_reach hr (pa_cons (pv 0) (pa_cons (pv 1) pa_nil))) (pe_and (pe_cmpR op_le (pv 2) (pgl T.g_LATEST) (nomark _)) (pe_one (pe_cmpR op_le (pv 3) (pgl T.g_ALL_STEPS) (nomark _))))))), ?_⟩)
  obtain ⟨v1, v2, v3, v4, rfl, h1, h2, h3, h4⟩ := alls4 (show Alls [IsI x, IsI y, IsI l, IsI n] vs H from ha)
  exact sr_ret (er_and (er_call (x, y) trivial (ea_cons (er_var rfl h1) (ea_cons (er_var rfl h2) ea_nil))) fun _ => er_and (er_I0 (er_var rfl h3) er_c) fun _ => er_I0 (er_var rfl h4) er_c) fun v H1 s1 r => k v H1 s1 r
def sp_place_at : Sp := SpOf (ι := Int × Int) (fun i => (-(2 ^ 33) < i.1 ∧ i.1 < 2 ^ 33) ∧ -(2 ^ 33) < i.2 ∧ i.2 < 2 ^ 33) (fun i => [IsI i.1, IsI i.2]) (fun i => IsPl (Lr74.place ⟨i.1, i.2⟩))
theorem ok_place_at (F : DefAt K mg "place_at" s_place_at P_place_at) (T : Gt mg) (c_in_parts : Cal P w K mg base 1 "in_parts" P_in_parts sp_in_parts) : Cal P w K mg base 2 "place_at" P_place_at sp_place_at := by
  refine F.ok sc_place_at (spOf_len fun _ => rfl) (fun f cdv A outer s H vs Q E hr ⟨⟨x, y⟩, hp, ha, k⟩ => ⟨_,
    (pss_one (ps_ret (pe_tup (pa_cons (pc c_in_parts hr (pa_cons (pv 0) pa_nil)) (pa_cons (pc c_in_parts hr (pa_cons (pv 1) pa_nil)) pa_nil))))), ?_⟩)
  obtain ⟨v1, v2, rfl, h1, h2⟩ := alls2 (show Alls [IsI x, IsI y] vs H from ha)
  exact sr_ret (er_t2 (er_call x hp.1 (ea_cons (er_var rfl h1) ea_nil)) (er_call y hp.2 (ea_cons (er_var rfl h2) ea_nil))) fun v H1 s1 r => k v H1 s1 r
def sp_leaf_at (CL : Addr) : Sp := SpOf (ι := Int × Int × Int × Nat) (fun i => (-(2 ^ 33) < i.1 ∧ i.1 < 2 ^ 33) ∧ (-(2 ^ 33) < i.2.1 ∧ i.2.1 < 2 ^ 33) ∧ -(2 ^ 33) < i.2.2.1 ∧ i.2.2.1 < 2 ^ 33) (fun i => [IsI i.1, IsI i.2.1, IsI i.2.2.1, IsN i.2.2.2]) (fun i => IsLf CL ⟨Lr74.place ⟨i.1, i.2.1⟩, i.2.2.1 * 256, i.2.2.2⟩)
theorem ok_leaf_at (F : DefAt K mg "leaf_at" s_leaf_at P_leaf_at) (T : Gt mg) (c_in_parts : Cal P w K mg base 1 "in_parts" P_in_parts sp_in_parts) (c_place_at : Cal P w K mg base 2 "place_at" P_place_at sp_place_at) (m_Leaf : MkC P w K mg base 1 "Leaf" CL P_Leaf_init (sp_Leaf CL)) : Cal P w K mg base 3 "leaf_at" P_leaf_at (sp_leaf_at CL) := by
  refine F.ok sc_leaf_at (spOf_len fun _ => rfl) (fun f cdv A outer s H vs Q E hr ⟨⟨x, y, l, n⟩, hp, ha, k⟩ => ⟨_,
    (pss_one (ps_ret (pm m_Leaf hr (pa_cons (pc c_place_at hr (pa_cons (pv 0) (pa_cons (pv 1) pa_nil))) (pa_cons (pc c_in_parts hr (pa_cons (pv 2) pa_nil)) (pa_cons (pv 3) pa_nil)))))), ?_⟩)
  obtain ⟨v1, v2, v3, v4, rfl, h1, h2, h3, h4⟩ := alls4 (show Alls [IsI x, IsI y, IsI l, IsN n] vs H from ha)
  refine sr_ret (er_make (R := IsLf CL ⟨Lr74.place ⟨x, y⟩, l * 256, n⟩) (Rs := [IsPl (Lr74.place ⟨x, y⟩), IsI (l * 256), IsN n]) (ea_cons (er_call (x, y) ⟨hp.1, hp.2.1⟩ (ea_cons (er_var rfl h1) (ea_cons (er_var rfl h2) ea_nil))) (ea_cons (er_call l hp.2.2 (ea_cons (er_var rfl h3) ea_nil)) (ea_cons (er_var rfl h4) ea_nil))) (fun vs H1 r => r.length) fun vs H1 z dx s1 r hz => ?_) fun v H1 s1 r => k v H1 s1 r
  obtain ⟨u1, u2, u3, rfl, r1, r2, r3⟩ := alls3 r
  obtain rfl : u2 = .int (l * 256) := r2
  obtain rfl : u3 = .int (n : Int) := r3
  exact ⟨z, dx, u1, rfl, hz, r1⟩
/-! the calls: from what the chip holds and the numbers to what it holds then and what is answered -/
abbrev IsNm (ns : List Int) : Rp := LstOf (fun i : Int => IsI i) ns
abbrev Rl := PC → List Int → PC → List Int → Prop
def SpAn (C CL CB : Addr) (R : Rl) : Sp := fun vs H Q _ => ∃ eh c X ns lv X' out, vs = [.ref c, lv] ∧ ChAt C CL CB c eh X H ∧ IsNm ns lv H ∧ R X ns X' out ∧ ∀ v H', Kp GC H H' → ChAt C CL CB c eh X' H' → IsLa eh.av (out.map V.int) v H' → Q v H'
theorem spAn_len {R : Rl} : ∀ vs H Q E, SpAn C CL CB R vs H Q E → vs.length = 2 := fun vs H Q E ⟨eh, c, X, ns, lv, X', out, e, _⟩ => by rw [e]; rfl
abbrev s_answer_source : Stmt := top 70
abbrev N_answer_source : List Str := ["chip", "numbers"]
abbrev P_answer_source : List Str := ["chip", "numbers"]
theorem sc_answer_source : FnScope N_answer_source P_answer_source (defScope s_answer_source) := ⟨rfl, rfl, rfl, by decide +kernel, rfl, by decide +kernel, by decide +kernel⟩
abbrev s_answer_leaf : Stmt := top 71
abbrev N_answer_leaf : List Str := ["chip", "numbers"]
abbrev P_answer_leaf : List Str := ["chip", "numbers"]
theorem sc_answer_leaf : FnScope N_answer_leaf P_answer_leaf (defScope s_answer_leaf) := ⟨rfl, rfl, rfl, by decide +kernel, rfl, by decide +kernel, by decide +kernel⟩
abbrev s_answer_move : Stmt := top 72
abbrev N_answer_move : List Str := ["chip", "numbers", "number", "leaf"]
abbrev P_answer_move : List Str := ["chip", "numbers"]
theorem sc_answer_move : FnScope N_answer_move P_answer_move (defScope s_answer_move) := ⟨rfl, rfl, rfl, by decide +kernel, rfl, by decide +kernel, by decide +kernel⟩
def rSource : Rl := fun X ns X' out => ∃ s t, ns = [s, t] ∧ ((Lr72.okPlace ⟨s, t⟩ = false ∧ X' = X ∧ out = [-22]) ∨ (Lr72.okPlace ⟨s, t⟩ = true ∧ X' = { X with src := Lr74.place ⟨s, t⟩ } ∧ out = [0]))
theorem okp_low {s t : Int} (h : Lr72.okPlace ⟨s, t⟩ = true) : (-(2 ^ 33) < s ∧ s < 2 ^ 33) ∧ -(2 ^ 33) < t ∧ t < 2 ^ 33 := by
  have h := of_decide_eq_true h
  have h1 : Lr71.size s ≤ 100000 := h.1
  have h2 : Lr71.size t ≤ 100000 := h.2
  unfold Lr71.size at h1 h2
  split at h1 <;> split at h2 <;> omega
theorem ok_answer_source (F : DefAt K mg "answer_source" s_answer_source P_answer_source) (T : Gt mg) (cc : ChipC K C) (c_is_in_reach : Cal P w K mg base 1 "is_in_reach" P_is_in_reach sp_is_in_reach) (c_place_at : Cal P w K mg base 2 "place_at" P_place_at sp_place_at) : Cal P w K mg base 3 "answer_source" P_answer_source (SpAn C CL CB rSource) := by
  refine F.ok sc_answer_source spAn_len (fun f cdv A outer s H vs Q E hr ⟨eh, c, X, ns, lv, X', out, e, hc, hn, ⟨x, y, en, hR⟩, k⟩ => ⟨_,
    (pss_cons (ps_if (pt_not (pt_val (pc c_is_in_reach hr (pa_cons (pe_ix (ixK (K := K) rfl) (pv 1) pe_int (fun _ _ => rfl)) (pa_cons (pe_ix (ixK (K := K) rfl) (pv 1) pe_int (fun _ _ => rfl)) pa_nil))))) (pss_one (ps_ret (pe_lst (pa_cons (pgl T.g_OUT_OF_BOUNDS) pa_nil)))) pss_nil)
    (pss_cons (psf (K := K) rfl (pv 0) (pc c_place_at hr (pa_cons (pe_ix (ixK (K := K) rfl) (pv 1) pe_int (fun _ _ => rfl)) (pa_cons (pe_ix (ixK (K := K) rfl) (pv 1) pe_int (fun _ _ => rfl)) pa_nil))) rfl)
    (pss_one (ps_ret (pe_lst (pa_cons pe_int pa_nil)))))), ?_⟩)
  subst e en
  have n0 : ∀ {H'}, Same H H' → EvR (tOp (rIx K) (tVar 1) (tC (.int 0))) (start N_answer_source [.ref c, lv]) H' (IsI x) := fun s => er_ixL (Q := fun i : Int => IsI i) (j := 0) (er_var rfl (Mn.mn s hn)) er_c rfl rfl
  have n1 : ∀ {H'}, Same H H' → EvR (tOp (rIx K) (tVar 1) (tC (.int 1))) (start N_answer_source [.ref c, lv]) H' (IsI y) := fun s => er_ixL (Q := fun i : Int => IsI i) (j := 1) (er_var rfl (Mn.mn s hn)) er_c rfl rfl
  refine sq_ifr (et_not (et_test (er_call (x, y) trivial (ea_cons (n0 (Same.refl _)) (ea_cons (n1 (Same.refl _)) ea_nil))))) (fun d H1 s1 => ?_) fun d H1 s1 => ?_
  · have d : (!Lr72.okPlace ⟨x, y⟩) = true := d
    rcases hR with ⟨o, rfl, rfl⟩ | ⟨o, rfl, rfl⟩
    · exact sr_ret (er_f1 er_c) fun v H2 s2 r => k v H2 (Kp.of_same (s1.trans s2)) (hc.mn (s1.trans s2)) (r.a (hc.has.same s1))
    · rw [o] at d
      cases d
  · have d : (!Lr72.okPlace ⟨x, y⟩) = false := d
    rcases hR with ⟨o, rfl, rfl⟩ | ⟨o, rfl, rfl⟩
    · rw [o] at d
      cases d
    · refine sq_source (q := Lr74.place ⟨x, y⟩) (hc.mn s1) cc (er_call (x, y) (okp_low o) (ea_cons (n0 s1) (ea_cons (n1 s1) ea_nil))) (er_v rfl) fun H2 k2 c2 => ?_
      exact sr_ret (er_f1 er_c) fun v H3 s3 r => k v H3 ((Kp.of_same s1).trans (k2.trans (Kp.of_same s3))) (c2.mn s3) (r.a c2.has)
def rLeaf : Rl := fun X ns X' out => ∃ (s t l : Int) (n : Nat), ns = [s, t, l, (n : Int)] ∧ 0 ≤ l ∧ X.leaves.length ≤ 8 ∧ ((okLf s t l n = false ∧ X' = X ∧ out = [-22]) ∨ (okLf s t l n = true ∧ X.leaves.length = 8 ∧ X' = X ∧ out = [-28]) ∨
  (okLf s t l n = true ∧ X.leaves.length ≠ 8 ∧ X' = ⟨X.src, X.leaves ++ [⟨Lr74.place ⟨s, t⟩, l * 256, n⟩], none, none⟩ ∧ out = [(X.leaves.length : Int)]))
theorem okl_low {s t l n : Int} (h : okLf s t l n = true) (h0 : 0 ≤ l) : (-(2 ^ 33) < s ∧ s < 2 ^ 33) ∧ (-(2 ^ 33) < t ∧ t < 2 ^ 33) ∧ -(2 ^ 33) < l ∧ l < 2 ^ 33 := by
  unfold okLf at h
  rw [Bool.and_eq_true, Bool.and_eq_true, decide_eq_true_eq] at h
  have := okp_low h.1
  exact ⟨this.1, this.2, by omega, by omega⟩
theorem ok_answer_leaf (F : DefAt K mg "answer_leaf" s_answer_leaf P_answer_leaf) (T : Gt mg) (cc : ChipC K C) (c_is_leaf : Cal P w K mg base 2 "is_leaf" P_is_leaf sp_is_leaf) (c_leaf_at : Cal P w K mg base 3 "leaf_at" P_leaf_at (sp_leaf_at CL)) : Cal P w K mg base 4 "answer_leaf" P_answer_leaf (SpAn C CL CB rLeaf) := by
  refine F.ok sc_answer_leaf spAn_len (fun f cdv A outer s H vs Q E hr ⟨eh, c, X, ns, lv, X', out, e, hc, hn, ⟨x, y, l, n, en, hl0, h8, hR⟩, k⟩ => ⟨_,
    (pss_cons (ps_if (pt_not (pt_val (pc c_is_leaf hr (pa_cons (pe_ix (ixK (K := K) rfl) (pv 1) pe_int (fun _ _ => rfl)) (pa_cons (pe_ix (ixK (K := K) rfl) (pv 1) pe_int (fun _ _ => rfl)) (pa_cons (pe_ix (ixK (K := K) rfl) (pv 1) pe_int (fun _ _ => rfl)) (pa_cons (pe_ix (ixK (K := K) rfl) (pv 1) pe_int (fun _ _ => rfl)) pa_nil))))))) (pss_one (ps_ret (pe_lst (pa_cons (pgl T.g_OUT_OF_BOUNDS) pa_nil)))) pss_nil)
    (pss_cons (ps_if (pt_cmpR op_eq (pe_callB (lenK (K := K) rfl) rfl T.z_len PySem.boot_len (pa_cons (pf (K := K) rfl (pv 0) rfl) pa_nil)) (pgl T.g_MOST_LEAVES) (nomark _)) (pss_one (ps_ret (pe_lst (pa_cons (pgl T.g_NO_ROOM) pa_nil)))) pss_nil)
    (pss_cons (psf (K := K) rfl (pv 0) (pe_op op_cat (pf (K := K) rfl (pv 0) rfl) (pe_lst (pa_cons (pc c_leaf_at hr (pa_cons (pe_ix (ixK (K := K) rfl) (pv 1) pe_int (fun _ _ => rfl)) (pa_cons (pe_ix (ixK (K := K) rfl) (pv 1) pe_int (fun _ _ => rfl)) (pa_cons (pe_ix (ixK (K := K) rfl) (pv 1) pe_int (fun _ _ => rfl)) (pa_cons (pe_ix (ixK (K := K) rfl) (pv 1) pe_int (fun _ _ => rfl)) pa_nil))))) pa_nil))) rfl)
    (pss_cons (psf (K := K) rfl (pv 0) pe_non rfl)
    (pss_cons (psf (K := K) rfl (pv 0) pe_non rfl)
    (pss_one (ps_ret (pe_lst (pa_cons (pe_op op_sub (pe_callB (lenK (K := K) rfl) rfl T.z_len PySem.boot_len (pa_cons (pf (K := K) rfl (pv 0) rfl) pa_nil)) pe_int) pa_nil))))))))), ?_⟩)
  subst e en
  have nn : ∀ {H'} (j : Nat) (z : Int), Same H H' → [x, y, l, (n : Int)][j]? = some z → EvR (tOp (rIx K) (tVar 1) (tC (.int j))) (start N_answer_leaf [.ref c, lv]) H' (IsI z) := fun j z s hz => er_ixL (Q := fun i : Int => IsI i) (j := j) (er_var rfl (Mn.mn s hn)) er_c rfl hz
  have as : ∀ {H'}, Same H H' → EvA (tCons (tOp (rIx K) (tVar 1) (tC (.int 0))) (tCons (tOp (rIx K) (tVar 1) (tC (.int 1))) (tCons (tOp (rIx K) (tVar 1) (tC (.int 2))) (tCons (tOp (rIx K) (tVar 1) (tC (.int 3))) tNil)))) (start N_answer_leaf [.ref c, lv]) H' [IsI x, IsI y, IsI l, IsI (n : Int)] := fun s => ea_cons (nn 0 x s rfl) (ea_cons (nn 1 y s rfl) (ea_cons (nn 2 l s rfl) (ea_cons (nn 3 n s rfl) ea_nil)))
  refine sq_ifr (et_not (et_test (er_call (x, y, l, (n : Int)) trivial (as (Same.refl _))))) (fun d H1 s1 => ?_) fun d H1 s1 => ?_
  · have d : (!okLf x y l n) = true := d
    rcases hR with ⟨o, rfl, rfl⟩ | ⟨o, _⟩ | ⟨o, _⟩
    · exact sr_ret (er_f1 er_c) fun v H2 s2 r => k v H2 (Kp.of_same (s1.trans s2)) (hc.mn (s1.trans s2)) (r.a (hc.has.same s1))
    · rw [o] at d
      cases d
    · rw [o] at d
      cases d
  have d : (!okLf x y l n) = false := d
  have o : okLf x y l n = true := by simpa using d
  refine sq_ifr (et_test (er_eqI (er_lenL (er_fld (er_var rfl ⟨rfl, hc.mn s1⟩) (f_leaves cc))) er_c)) (fun d2 H2 s2 => ?_) fun d2 H2 s2 => ?_
  · have d2 : (X.leaves.length : Int) = 8 := of_decide_eq_true d2
    rcases hR with ⟨o', _⟩ | ⟨_, _, rfl, rfl⟩ | ⟨_, o', _⟩
    · rw [o] at o'
      cases o'
    · exact sr_ret (er_f1 er_c) fun v H3 s3 r => k v H3 (Kp.of_same (s1.trans (s2.trans s3))) (hc.mn (s1.trans (s2.trans s3))) (r.a (hc.has.same (s1.trans s2)))
    · exact absurd d2 (by omega)
  · have d2 : ¬ (X.leaves.length : Int) = 8 := of_decide_eq_false d2
    rcases hR with ⟨o', _⟩ | ⟨_, o', _⟩ | ⟨_, _, rfl, rfl⟩
    · rw [o] at o'
      cases o'
    · exact absurd o' (by omega)
    · have s12 := s1.trans s2
      refine sq_leaves (q := X.leaves ++ [⟨Lr74.place ⟨x, y⟩, l * 256, n⟩]) (hc.mn s12) cc (er_new (er_fld (er_var rfl ⟨rfl, hc.mn s12⟩) (f_leaves cc)) (er_lst1 (R := IsLf CL) (x := ⟨Lr74.place ⟨x, y⟩, l * 256, n⟩) (er_call (x, y, l, n) (okl_low o hl0) (as s12))) (by show X.leaves.length + 1 ≤ 100000; omega)) (er_v rfl) fun H3 k3 c3 => ?_
      refine sq_plan (q := none) c3 cc er_non (er_v rfl) fun H4 k4 c4 => ?_
      refine sq_built (q := none) c4 cc er_non (er_v rfl) fun H5 k5 c5 => ?_
      refine sr_ret (er_f1 (er_i (er_I0 (er_lenL (er_fld (er_var rfl ⟨rfl, c5⟩) (f_leaves cc))) er_c) ?_)) fun v H6 s6 r => k v H6 ((Kp.of_same s12).trans (k3.trans (k4.trans (k5.trans (Kp.of_same s6))))) (c5.mn s6) (r.a c5.has)
      show ((X.leaves ++ [_]).length : Int) - 1 = X.leaves.length
      rw [List.length_append, List.length_singleton]
      omega
end
end Clk
set_option Elab.async false
set_option maxRecDepth 100000
set_option maxHeartbeats 4000000
set_option linter.all false
set_option autoImplicit false
namespace Clk
open PySem PySem.Spec PyProof.Rows L2
open CM (LD OD BD PC)
section
variable {P : Program} {w : World} {K : PySem.W.Frag} {mg : Str → Option Value} {base : Heap} {C CL CO CB : Addr}
theorem Kp.chip {c : Addr} {eh : Eh} {X : PC} {H : Hp} (h : ChAt C CL CB c eh X H) : ∃ dx fs, H c = some (.ins C dx fs) := let ⟨dx, fs, _, _, _, _, h, _⟩ := h; ⟨dx, fs, h⟩
def rMove : Rl := fun X ns X' out => ∃ (k : Nat) (s t l : Int) (n : Nat), ns = [(k : Int), s, t, l, (n : Int)] ∧ 0 ≤ l ∧ X.leaves.length ≤ 8 ∧ ((X.leaves.length ≤ k ∧ X' = X ∧ out = [-2]) ∨ (k < X.leaves.length ∧ okLf s t l n = false ∧ X' = X ∧ out = [-22]) ∨
  (k < X.leaves.length ∧ okLf s t l n = true ∧ X' = { X with leaves := X.leaves.take k ++ [⟨Lr74.place ⟨s, t⟩, l * 256, n⟩] ++ X.leaves.drop (k + 1) } ∧ out = [0]))
theorem ok_answer_move (F : DefAt K mg "answer_move" s_answer_move P_answer_move) (T : Gt mg) (cc : ChipC K C) (c_is_leaf : Cal P w K mg base 2 "is_leaf" P_is_leaf sp_is_leaf) (c_leaf_at : Cal P w K mg base 3 "leaf_at" P_leaf_at (sp_leaf_at CL)) : Cal P w K mg base 4 "answer_move" P_answer_move (SpAn C CL CB rMove) := by
  refine F.ok sc_answer_move spAn_len (fun f cdv A outer s H vs Q E hr ⟨eh, c, X, ns, lv, X', out, e, hc, hn, ⟨kk, x, y, l, n, en, hl0, h8, hR⟩, k⟩ => ⟨_,
    (pss_cons (ps_set (i := 2) sc_answer_move.nd rfl (Or.inl rfl) (pe_ix (ixK (K := K) rfl) (pv 1) pe_int (fun _ _ => rfl)))
    (pss_cons (ps_if (pt_cmpR op_ge (pv 2) (pe_callB (lenK (K := K) rfl) rfl T.z_len PySem.boot_len (pa_cons (pf (K := K) rfl (pv 0) rfl) pa_nil)) (nomark _)) (pss_one (ps_ret (pe_lst (pa_cons (pgl T.g_NO_SUCH_ONE) pa_nil)))) pss_nil)
    (pss_cons (ps_if (pt_not (pt_val (pc c_is_leaf hr (pa_cons (pe_ix (ixK (K := K) rfl) (pv 1) pe_int (fun _ _ => rfl)) (pa_cons (pe_ix (ixK (K := K) rfl) (pv 1) pe_int (fun _ _ => rfl)) (pa_cons (pe_ix (ixK (K := K) rfl) (pv 1) pe_int (fun _ _ => rfl)) (pa_cons (pe_ix (ixK (K := K) rfl) (pv 1) pe_int (fun _ _ => rfl)) pa_nil))))))) (pss_one (ps_ret (pe_lst (pa_cons (pgl T.g_OUT_OF_BOUNDS) pa_nil)))) pss_nil)
    (pss_cons (ps_set (i := 3) sc_answer_move.nd rfl (Or.inl rfl) (pc c_leaf_at hr (pa_cons (pe_ix (ixK (K := K) rfl) (pv 1) pe_int (fun _ _ => rfl)) (pa_cons (pe_ix (ixK (K := K) rfl) (pv 1) pe_int (fun _ _ => rfl)) (pa_cons (pe_ix (ixK (K := K) rfl) (pv 1) pe_int (fun _ _ => rfl)) (pa_cons (pe_ix (ixK (K := K) rfl) (pv 1) pe_int (fun _ _ => rfl)) pa_nil))))))
    (pss_cons (psf (K := K) rfl (pv 0) (pe_op op_cat (pe_op op_cat (pe_slice (sllK (K := K) rfl) (pf (K := K) rfl (pv 0) rfl) po_none (po_some (pv 2))) (pe_lst (pa_cons (pv 3) pa_nil))) (pe_slice (sllK (K := K) rfl) (pf (K := K) rfl (pv 0) rfl) (po_some (pe_op op_add (pv 2) pe_int)) po_none)) rfl)
    (pss_one (ps_ret (pe_lst (pa_cons pe_int pa_nil))))))))), ?_⟩)
  subst e en
  refine sq_asg (R := IsI (kk : Int)) (er_ixL (Q := fun i : Int => IsI i) (j := 0) (er_var rfl hn) er_c rfl rfl) fun v3 H1 s1 e3 => ?_
  obtain rfl : v3 = .int (kk : Int) := e3
  refine sq_ifr (et_test (er_I0 (er_v rfl) (er_lenL (er_fld (er_var rfl ⟨rfl, hc.mn s1⟩) (f_leaves cc))))) (fun d H2 s2 => ?_) fun d H2 s2 => ?_
  · have d : (X.leaves.length : Int) ≤ kk := of_decide_eq_true d
    rcases hR with ⟨_, rfl, rfl⟩ | ⟨o, _⟩ | ⟨o, _⟩
    · exact sr_ret (er_f1 er_c) fun v H3 s3 r => k v H3 (Kp.of_same (s1.trans (s2.trans s3))) (hc.mn (s1.trans (s2.trans s3))) (r.a (hc.has.same (s1.trans s2)))
    · exact absurd d (by omega)
    · exact absurd d (by omega)
  have d : ¬ (X.leaves.length : Int) ≤ kk := of_decide_eq_false d
  have s12 := s1.trans s2
  have nn : ∀ {H'} {σ : L2.St} (j : Nat) (z : Int), Same H H' → σ[1]? = some (some lv) → [(kk : Int), x, y, l, (n : Int)][j]? = some z → EvR (tOp (rIx K) (tVar 1) (tC (.int j))) σ H' (IsI z) := fun j z s e hz => er_ixL (Q := fun i : Int => IsI i) (j := j) (er_var e (Mn.mn s hn)) er_c rfl hz
  have as : ∀ {H'} {σ : L2.St}, Same H H' → σ[1]? = some (some lv) → EvA (tCons (tOp (rIx K) (tVar 1) (tC (.int 1))) (tCons (tOp (rIx K) (tVar 1) (tC (.int 2))) (tCons (tOp (rIx K) (tVar 1) (tC (.int 3))) (tCons (tOp (rIx K) (tVar 1) (tC (.int 4))) tNil)))) σ H' [IsI x, IsI y, IsI l, IsI (n : Int)] := fun s e => ea_cons (nn 1 x s e rfl) (ea_cons (nn 2 y s e rfl) (ea_cons (nn 3 l s e rfl) (ea_cons (nn 4 n s e rfl) ea_nil)))
  refine sq_ifr (et_not (et_test (er_call (x, y, l, (n : Int)) trivial (as s12 rfl)))) (fun d2 H3 s3 => ?_) fun d2 H3 s3 => ?_
  · have d2 : (!okLf x y l n) = true := d2
    rcases hR with ⟨o, _⟩ | ⟨_, _, rfl, rfl⟩ | ⟨_, o, _⟩
    · exact absurd o (by omega)
    · exact sr_ret (er_f1 er_c) fun v H4 s4 r => k v H4 (Kp.of_same (s12.trans (s3.trans s4))) (hc.mn (s12.trans (s3.trans s4))) (r.a (hc.has.same (s12.trans s3)))
    · rw [o] at d2
      cases d2
  have d2 : (!okLf x y l n) = false := d2
  have o : okLf x y l n = true := by simpa using d2
  have s13 := s12.trans s3
  rcases hR with ⟨o', _⟩ | ⟨_, o', _⟩ | ⟨hk, _, rfl, rfl⟩
  · exact absurd o' (by omega)
  · rw [o] at o'
    cases o'
  refine sq_asg (R := IsLf CL ⟨Lr74.place ⟨x, y⟩, l * 256, n⟩) (er_call (x, y, l, n) (okl_low o hl0) (as s13 rfl)) fun v4 H4 s4 e4 => ?_
  have s14 := s13.trans s4
  have c4 := hc.mn s14
  refine sq_leaves (q := X.leaves.take kk ++ [⟨Lr74.place ⟨x, y⟩, l * 256, n⟩] ++ X.leaves.drop (kk + 1)) c4 cc (er_new (er_catL (er_slL (j := kk) (er_fld (er_var rfl ⟨rfl, c4⟩) (f_leaves cc)) (eo_some (er_v rfl)) rfl) (er_lst1 (R := IsLf CL) (er_var rfl e4)) ?_) (er_slLd (j := kk + 1) (er_fld (er_var rfl ⟨rfl, c4⟩) (f_leaves cc)) (eo_some (er_I0 (er_v rfl) er_c)) rfl) ?_) (er_v rfl) fun H5 k5 c5 => ?_
  · rw [List.length_take]
    show _ + 1 ≤ 100000
    omega
  · rw [List.length_append, List.length_take, List.length_drop]
    show _ + 1 + _ ≤ 100000
    omega
  exact sr_ret (er_f1 er_c) fun v H6 s6 r => k v H6 ((Kp.of_same s14).trans (k5.trans (Kp.of_same s6))) (c5.mn s6) (r.a c5.has)
theorem ev_plan {σ : L2.St} {H : Hp} {c : Addr} {eh : Eh} {X : PC} {i : Nat} {ps : List NN} (cc : ChipC K C) (h : ChAt C CL CB c eh X H) (e : σ[i]? = some (some (.ref c))) (hp : X.plan = some ps) : EvR (tFld K (tVar i) "plan") σ H (IsPs ps) := er_the (er_fld (er_var e ⟨rfl, h⟩) (f_plan cc)) hp
theorem ev_built {σ : L2.St} {H : Hp} {c : Addr} {eh : Eh} {X : PC} {i : Nat} {b : BD} (cc : ChipC K C) (h : ChAt C CL CB c eh X H) (e : σ[i]? = some (some (.ref c))) (hp : X.built = some b) : EvR (tFld K (tVar i) "built") σ H (IsBt CB b) := er_the (er_fld (er_var e ⟨rfl, h⟩) (f_built cc)) hp
/-! drop -/
def rDrop : Rl := fun X ns X' out => ∃ k : Nat, ns = [(k : Int)] ∧ X.leaves.length ≤ 8 ∧ (∀ ps, X.plan = some ps → ps.length ≤ 100) ∧ (∀ b, X.built = some b → b.pairs.length ≤ 100 ∧ b.places.length = b.pairs.length ∧ b.wires.length = b.pairs.length) ∧ ((X.leaves.length ≤ k ∧ X' = X ∧ out = [-2]) ∨
  (k < X.leaves.length ∧ out = [((X.leaves.length - 1 : Nat) : Int)] ∧ X'.src = X.src ∧ X'.leaves = X.leaves.take k ++ X.leaves.drop (k + 1) ∧
    (X.plan = none → X'.plan = none) ∧ (X.built = none → X'.built = none) ∧ (X.leaves.length = 1 → X'.plan = none ∧ X'.built = none) ∧
    (2 ≤ X.leaves.length → (∀ ps, X.plan = some ps → ∃ j, CM.above ps k = some j ∧ X'.plan = some (CM.without ps k j)) ∧ (∀ b, X.built = some b → ∃ j, CM.above b.pairs k = some j ∧ X'.built = some (CM.dropBD b k j)))))
abbrev s_answer_drop : Stmt := top 73
abbrev N_answer_drop : List Str := ["chip", "numbers", "number", "is_last"]
abbrev P_answer_drop : List Str := ["chip", "numbers"]
theorem sc_answer_drop : FnScope N_answer_drop P_answer_drop (defScope s_answer_drop) := ⟨rfl, rfl, rfl, by decide +kernel, rfl, by decide +kernel, by decide +kernel⟩
abbrev s_answer_shape : Stmt := top 74
abbrev N_answer_shape : List Str := ["chip", "numbers", "count"]
abbrev P_answer_shape : List Str := ["chip", "numbers"]
theorem sc_answer_shape : FnScope N_answer_shape P_answer_shape (defScope s_answer_shape) := ⟨rfl, rfl, rfl, by decide +kernel, rfl, by decide +kernel, by decide +kernel⟩
abbrev s_answer_plan : Stmt := top 75
abbrev N_answer_plan : List Str := ["chip", "numbers", "by", "best"]
abbrev P_answer_plan : List Str := ["chip", "numbers"]
theorem sc_answer_plan : FnScope N_answer_plan P_answer_plan (defScope s_answer_plan) := ⟨rfl, rfl, rfl, by decide +kernel, rfl, by decide +kernel, by decide +kernel⟩
abbrev s_answer_build : Stmt := top 76
abbrev N_answer_build : List Str := ["chip", "numbers"]
abbrev P_answer_build : List Str := ["chip", "numbers"]
theorem sc_answer_build : FnScope N_answer_build P_answer_build (defScope s_answer_build) := ⟨rfl, rfl, rfl, by decide +kernel, rfl, by decide +kernel, by decide +kernel⟩
abbrev s_answer_mend : Stmt := top 77
abbrev N_answer_mend : List Str := ["chip", "numbers", "before"]
abbrev P_answer_mend : List Str := ["chip", "numbers"]
theorem sc_answer_mend : FnScope N_answer_mend P_answer_mend (defScope s_answer_mend) := ⟨rfl, rfl, rfl, by decide +kernel, rfl, by decide +kernel, by decide +kernel⟩
abbrev s_answer_retie : Stmt := top 78
abbrev N_answer_retie : List Str := ["chip", "numbers"]
abbrev P_answer_retie : List Str := ["chip", "numbers"]
theorem sc_answer_retie : FnScope N_answer_retie P_answer_retie (defScope s_answer_retie) := ⟨rfl, rfl, rfl, by decide +kernel, rfl, by decide +kernel, by decide +kernel⟩
theorem ok_answer_drop (F : DefAt K mg "answer_drop" s_answer_drop P_answer_drop) (T : Gt mg) (cc : ChipC K C) (c_pairs_without : Cal P w K mg base 2 "pairs_without" P_pairs_without sp_pairs_without) (c_built_without : Cal P w K mg base 3 "built_without" P_built_without (sp_built_without CB)) : Cal P w K mg base 4 "answer_drop" P_answer_drop (SpAn C CL CB rDrop) := by
  refine F.ok sc_answer_drop spAn_len (fun f cdv A outer s H vs Q E hr ⟨eh, c, X, ns, lv, X', out, e, hc, hn, ⟨kk, en, h8, hps, hbs, hR⟩, k⟩ => ⟨_,
    (pss_cons (ps_set (i := 2) sc_answer_drop.nd rfl (Or.inl rfl) (pe_ix (ixK (K := K) rfl) (pv 1) pe_int (fun _ _ => rfl)))
    (pss_cons (ps_if (pt_cmpR op_ge (pv 2) (pe_callB (lenK (K := K) rfl) rfl T.z_len PySem.boot_len (pa_cons (pf (K := K) rfl (pv 0) rfl) pa_nil)) (nomark _)) (pss_one (ps_ret (pe_lst (pa_cons (pgl T.g_NO_SUCH_ONE) pa_nil)))) pss_nil)
    (pss_cons (psf (K := K) rfl (pv 0) (pe_op op_cat (pe_slice (sllK (K := K) rfl) (pf (K := K) rfl (pv 0) rfl) po_none (po_some (pv 2))) (pe_slice (sllK (K := K) rfl) (pf (K := K) rfl (pv 0) rfl) (po_some (pe_op op_add (pv 2) pe_int)) po_none)) rfl)
    (pss_cons (ps_set (i := 3) sc_answer_drop.nd rfl (Or.inl rfl) (pe_cmpR op_eq (pe_callB (lenK (K := K) rfl) rfl T.z_len PySem.boot_len (pa_cons (pf (K := K) rfl (pv 0) rfl) pa_nil)) pe_int (nomark _)))
    (pss_cons (ps_if (pt_cmpR op_notN (pf (K := K) rfl (pv 0) rfl) pe_non (nomark _)) (pss_one (psf (K := K) rfl (pv 0) (pe_ifExp (pt_val (pv 3)) pe_non (pc c_pairs_without hr (pa_cons (pf (K := K) rfl (pv 0) rfl) (pa_cons (pv 2) pa_nil)))) rfl)) pss_nil)
    (pss_cons (ps_if (pt_cmpR op_notN (pf (K := K) rfl (pv 0) rfl) pe_non (nomark _)) (pss_one (psf (K := K) rfl (pv 0) (pe_ifExp (pt_val (pv 3)) pe_non (pc c_built_without hr (pa_cons (pf (K := K) rfl (pv 0) rfl) (pa_cons (pv 2) pa_nil)))) rfl)) pss_nil)
    (pss_one (ps_ret (pe_lst (pa_cons (pe_callB (lenK (K := K) rfl) rfl T.z_len PySem.boot_len (pa_cons (pf (K := K) rfl (pv 0) rfl) pa_nil)) pa_nil)))))))))), ?_⟩)
  subst e en
  refine sq_asg (R := IsI (kk : Int)) (er_ixL (Q := fun i : Int => IsI i) (j := 0) (er_var rfl hn) er_c rfl rfl) fun v3 H1 s1 e3 => ?_
  obtain rfl : v3 = .int (kk : Int) := e3
  refine sq_ifr (et_test (er_I0 (er_v rfl) (er_lenL (er_fld (er_var rfl ⟨rfl, hc.mn s1⟩) (f_leaves cc))))) (fun d H2 s2 => ?_) fun d H2 s2 => ?_
  · have d : (X.leaves.length : Int) ≤ kk := of_decide_eq_true d
    rcases hR with ⟨_, rfl, rfl⟩ | ⟨o, _⟩
    · exact sr_ret (er_f1 er_c) fun v H3 s3 r => k v H3 (Kp.of_same (s1.trans (s2.trans s3))) (hc.mn (s1.trans (s2.trans s3))) (r.a (hc.has.same (s1.trans s2)))
    · exact absurd d (by omega)
  have d : ¬ (X.leaves.length : Int) ≤ kk := of_decide_eq_false d
  have s12 := s1.trans s2
  rcases hR with ⟨o, _⟩ | ⟨hk, rfl, e1, e2, f1, f2, f3, f4⟩
  · exact absurd o (by omega)
  have c2 := hc.mn s12
  have ll : (X.leaves.take kk ++ X.leaves.drop (kk + 1)).length = X.leaves.length - 1 := by
    rw [List.length_append, List.length_take, List.length_drop]
    omega
  refine sq_leaves (q := X.leaves.take kk ++ X.leaves.drop (kk + 1)) c2 cc (er_new (er_slL (j := kk) (er_fld (er_var rfl ⟨rfl, c2⟩) (f_leaves cc)) (eo_some (er_v rfl)) rfl) (er_slLd (j := kk + 1) (er_fld (er_var rfl ⟨rfl, c2⟩) (f_leaves cc)) (eo_some (er_I0 (er_v rfl) er_c)) rfl) ?_) (er_v rfl) fun H3 k3 c3 => ?_
  · rw [List.length_take, List.length_drop]
    omega
  have k03 := (Kp.of_same s12).trans k3
  refine sq_asg (R := IsB (decide (X.leaves.length = 1))) ?_ fun v4 H4 s4 e4 => ?_
  · refine (er_eqI (er_lenL (er_fld (er_var rfl ⟨rfl, c3⟩) (f_leaves cc))) er_c).to fun v H' _ r => ?_
    rw [show v = _ from r]
    refine congrArg V.bl (decide_eq_decide.mpr ?_)
    show ((X.leaves.take kk ++ X.leaves.drop (kk + 1)).length : Int) = 0 ↔ _
    rw [ll]
    omega
  obtain rfl : v4 = .bl _ := e4
  have c4 := c3.mn s4
  have k04 := k03.trans (Kp.of_same s4)
  -- the plan
  have plan : ∀ (D : Ends) (u : TS) (H4 : Hp), Kp GC H H4 → ChAt C CL CB c eh { X with leaves := X.leaves.take kk ++ X.leaves.drop (kk + 1) } H4 →
      (∀ H5, Kp GC H H5 → ChAt C CL CB c eh ⟨X.src, X.leaves.take kk ++ X.leaves.drop (kk + 1), X'.plan, X.built⟩ H5 → u D [some (.ref c), some lv, some (.int (kk : Int)), some (.bl (decide (X.leaves.length = 1)))] H5) →
      tSeq (tIfS (tTest (tOp (fun x y H Q => y = .non ∧ Q (.bl (!decide (x = .non))) H) (tFld K (tVar 0) "plan") (tC .non))) (sFld K (tVar 0) (tIf (tB (tVar 3)) (tC .non) (tCall sp_pairs_without [] E0 (tCons (tFld K (tVar 0) "plan") (tCons (tVar 2) tNil)))) "plan") tNext) u D [some (.ref c), some lv, some (.int (kk : Int)), some (.bl (decide (X.leaves.length = 1)))] H4 := fun D u H4 k4 c4 go => by
    refine sq_if (et_test (er_oNN (er_fld (er_var rfl ⟨rfl, c4⟩) (f_plan cc)))) (fun d5 H5 s5 => ?_) fun d5 H5 s5 => ?_
    · have d5 : X.plan.isSome = true := d5
      obtain ⟨ps, hp⟩ := Option.isSome_iff_exists.mp d5
      refine sr_plan (q := X'.plan) (c4.mn s5) cc (er_ifE (et_B (er_v rfl)) (fun b => ?_) fun b => ?_) (er_v rfl) fun H6 k6 c6 => go H6 (k4.trans ((Kp.of_same s5).trans k6)) c6
      · rw [(f3 (of_decide_eq_true b)).1]
        exact er_non
      · obtain ⟨j, h1, h2⟩ := (f4 (by have := of_decide_eq_false b; omega)).1 ps hp
        rw [h2]
        exact er_som (er_call (ps, kk, j) ⟨h1, by show ps.length ≤ 1000; have := hps ps hp; omega⟩ (ea_cons (ev_plan cc (c4.mn s5) rfl hp) (ea_cons (er_v rfl) ea_nil))) fun _ => no_tup
    · have d5 : X.plan.isSome = false := d5
      have hp : X.plan = none := by simpa using d5
      refine go H5 (k4.trans (Kp.of_same s5)) ?_
      rw [f1 hp]
      have := c4.mn s5
      rw [show ({ X with leaves := X.leaves.take kk ++ X.leaves.drop (kk + 1) } : PC) = ⟨X.src, X.leaves.take kk ++ X.leaves.drop (kk + 1), none, X.built⟩ by rw [← hp]] at this
      exact this
  have built : ∀ (D : Ends) (u : TS) (H4 : Hp), Kp GC H H4 → ChAt C CL CB c eh ⟨X.src, X.leaves.take kk ++ X.leaves.drop (kk + 1), X'.plan, X.built⟩ H4 →
      (∀ H5, Kp GC H H5 → ChAt C CL CB c eh X' H5 → u D [some (.ref c), some lv, some (.int (kk : Int)), some (.bl (decide (X.leaves.length = 1)))] H5) →
      tSeq (tIfS (tTest (tOp (fun x y H Q => y = .non ∧ Q (.bl (!decide (x = .non))) H) (tFld K (tVar 0) "built") (tC .non))) (sFld K (tVar 0) (tIf (tB (tVar 3)) (tC .non) (tCall (sp_built_without CB) [] E0 (tCons (tFld K (tVar 0) "built") (tCons (tVar 2) tNil)))) "built") tNext) u D [some (.ref c), some lv, some (.int (kk : Int)), some (.bl (decide (X.leaves.length = 1)))] H4 := fun D u H4 k4 c4 go => by
    have eX : X' = ⟨X.src, X.leaves.take kk ++ X.leaves.drop (kk + 1), X'.plan, X'.built⟩ := by
      rw [← e1, ← e2]
    refine sq_if (et_test (er_oNN (er_fld (er_var rfl ⟨rfl, c4⟩) (f_built cc)))) (fun d5 H5 s5 => ?_) fun d5 H5 s5 => ?_
    · have d5 : X.built.isSome = true := d5
      obtain ⟨b0, hp⟩ := Option.isSome_iff_exists.mp d5
      refine sr_built (q := X'.built) (c4.mn s5) cc (er_ifE (et_B (er_v rfl)) (fun b => ?_) fun b => ?_) (er_v rfl) fun H6 k6 c6 => go H6 (k4.trans ((Kp.of_same s5).trans k6)) (by rw [eX]; exact c6)
      · rw [(f3 (of_decide_eq_true b)).2]
        exact er_non
      · obtain ⟨j, h1, h2⟩ := (f4 (by have := of_decide_eq_false b; omega)).2 b0 hp
        rw [h2]
        exact er_som (er_call (b0, kk, j) ⟨h1, hbs b0 hp⟩ (ea_cons (ev_built cc (c4.mn s5) rfl hp) (ea_cons (er_v rfl) ea_nil))) fun _ => no_bt
    · have d5 : X.built.isSome = false := d5
      have hp : X.built = none := by simpa using d5
      refine go H5 (k4.trans (Kp.of_same s5)) ?_
      rw [eX, f2 hp]
      have := c4.mn s5
      rw [hp] at this
      exact this
  refine plan _ _ H4 k04 c4 fun H5 k5 c5 => ?_
  refine built _ _ H5 k5 c5 fun H6 k6 c6 => ?_
  refine sr_ret (er_f1 (er_i (er_lenL (er_fld (er_var rfl ⟨rfl, c6⟩) (f_leaves cc))) ?_)) fun v H7 s7 r => k v H7 (k6.trans (Kp.of_same s7)) (c6.mn s7) (r.a c6.has)
  rw [e2, ll]
/-! shape, plan -/
def rShape : Rl := fun X ns X' out => ∃ l : List Nat, ns = l.map (fun n : Nat => (n : Int)) ∧ l.length ≤ 1000 ∧ X.leaves.length ≤ 8 ∧ ((X.leaves.length = 0 ∧ X' = X ∧ out = [-16]) ∨ (X.leaves.length ≠ 0 ∧ CM.okB X.leaves.length l = false ∧ X' = X ∧ out = [-22]) ∨
  (X.leaves.length ≠ 0 ∧ CM.okB X.leaves.length l = true ∧ CM.high (CM.treeNums X.leaves.length l) ≤ 20 ∧ (CM.prs (CM.treeNums X.leaves.length l) X.leaves.length).1.length ≤ 1000 ∧ X' = { X with plan := some (CM.prs (CM.treeNums X.leaves.length l) X.leaves.length).1 } ∧ out = [0]))
theorem nm_nat : ∀ {l : List Nat} {vs : List V} {H : Hp}, Each (fun i : Int => IsI i) H vs (l.map fun n : Nat => (n : Int)) → Each IsN H vs l
  | [], [], _, _ => trivial
  | _ :: _, _ :: _, _, h => ⟨h.1, nm_nat h.2⟩
  | [], _ :: _, _, h => h.elim
  | _ :: _, [], _, h => h.elim
theorem ok_answer_shape (F : DefAt K mg "answer_shape" s_answer_shape P_answer_shape) (T : Gt mg) (cc : ChipC K C) (c_is_shape : Cal P w K mg base 1 "is_shape" P_is_shape sp_is_shape) (c_tree_of_numbers : Cal P w K mg base 1 "tree_of_numbers" P_tree_of_numbers sp_tree_of_numbers) (c_pairs_of_tree : Cal P w K mg base 22 "pairs_of_tree" P_pairs_of_tree sp_pairs_of_tree) : Cal P w K mg base 23 "answer_shape" P_answer_shape (SpAn C CL CB rShape) := by
  refine F.ok sc_answer_shape spAn_len (fun f cdv A outer s H vs Q E hr ⟨eh, c, X, ns, lv, X', out, e, hc, hn, ⟨l, en, hl, h8, hR⟩, k⟩ => ⟨_,
    (pss_cons (ps_set (i := 2) sc_answer_shape.nd rfl (Or.inl rfl) (pe_callB (lenK (K := K) rfl) rfl T.z_len PySem.boot_len (pa_cons (pf (K := K) rfl (pv 0) rfl) pa_nil)))
    (pss_cons (ps_if (pt_cmpR op_eq (pv 2) pe_int (nomark _)) (pss_one (ps_ret (pe_lst (pa_cons (pgl T.g_NOT_THERE) pa_nil)))) pss_nil)
    (pss_cons (ps_if (pt_not (pt_val (pc c_is_shape hr (pa_cons (pv 1) (pa_cons (pv 2) pa_nil))))) (pss_one (ps_ret (pe_lst (pa_cons (pgl T.g_OUT_OF_BOUNDS) pa_nil)))) pss_nil)
    (pss_cons (psf (K := K) rfl (pv 0) (pc c_pairs_of_tree hr (pa_cons (pc c_tree_of_numbers hr (pa_cons (pv 1) (pa_cons (pv 2) pa_nil))) (pa_cons (pv 2) pa_nil))) rfl)
    (pss_one (ps_ret (pe_lst (pa_cons pe_int pa_nil)))))))), ?_⟩)
  subst e en
  have hn : LstOf IsN l lv H := let ⟨a, us, e, h, r⟩ := hn; ⟨a, us, e, h, nm_nat r⟩
  refine sq_asg (R := IsN X.leaves.length) (er_lenL (er_fld (er_var rfl ⟨rfl, hc⟩) (f_leaves cc))) fun v3 H1 s1 e3 => ?_
  obtain rfl : v3 = .int (X.leaves.length : Int) := e3
  refine sq_ifr (et_test (er_eqI (er_v rfl) er_c)) (fun d H2 s2 => ?_) fun d H2 s2 => ?_
  · have d : (X.leaves.length : Int) = 0 := of_decide_eq_true d
    rcases hR with ⟨_, rfl, rfl⟩ | ⟨o, _⟩ | ⟨o, _⟩
    · exact sr_ret (er_f1 er_c) fun v H3 s3 r => k v H3 (Kp.of_same (s1.trans (s2.trans s3))) (hc.mn (s1.trans (s2.trans s3))) (r.a (hc.has.same (s1.trans s2)))
    · exact absurd d (by omega)
    · exact absurd d (by omega)
  have d : ¬ (X.leaves.length : Int) = 0 := of_decide_eq_false d
  have s12 := s1.trans s2
  refine sq_ifr (et_not (et_test (er_call (l, X.leaves.length) ⟨by show 1 ≤ X.leaves.length; omega, by show X.leaves.length ≤ 100; omega, hl⟩ (ea_cons (er_var rfl (Mn.mn s12 hn)) (ea_cons (er_v rfl) ea_nil))))) (fun d2 H3 s3 => ?_) fun d2 H3 s3 => ?_
  · have d2 : (!CM.okB X.leaves.length l) = true := d2
    rcases hR with ⟨o, _⟩ | ⟨_, _, rfl, rfl⟩ | ⟨_, o, _⟩
    · exact absurd o (by omega)
    · exact sr_ret (er_f1 er_c) fun v H4 s4 r => k v H4 (Kp.of_same (s12.trans (s3.trans s4))) (hc.mn (s12.trans (s3.trans s4))) (r.a (hc.has.same (s12.trans s3)))
    · rw [o] at d2
      cases d2
  have d2 : (!CM.okB X.leaves.length l) = false := d2
  have s13 := s12.trans s3
  rcases hR with ⟨o, _⟩ | ⟨_, o, _⟩ | ⟨_, o, hh, hz, rfl, rfl⟩
  · exact absurd o (by omega)
  · rw [o] at d2
    cases d2
  have ok := CM.okB_iff.mp o
  refine sq_plan (q := some (CM.prs (CM.treeNums X.leaves.length l) X.leaves.length).1) (hc.mn s13) cc (er_som (er_call (CM.treeNums X.leaves.length l, X.leaves.length) ⟨hh, hz⟩ (ea_cons (er_call (l, X.leaves.length) ⟨by show 1 ≤ X.leaves.length; omega, by show X.leaves.length ≤ 100; omega, ok.1, ok.2⟩ (ea_cons (er_var rfl (Mn.mn s13 hn)) (ea_cons (er_v rfl) ea_nil))) (ea_cons (er_v rfl) ea_nil))) fun _ => no_tup) (er_v rfl) fun H4 k4 c4 => ?_
  exact sr_ret (er_f1 er_c) fun v H5 s5 r => k v H5 ((Kp.of_same s13).trans (k4.trans (Kp.of_same s5))) (c4.mn s5) (r.a c4.has)
def rPlan : Rl := fun X ns X' out => ∃ b : Int, ns = [b] ∧ 0 ≤ b ∧ X.leaves.length ≤ 8 ∧ CM.okNeeds X.leaves ∧ ((1 < b ∧ X' = X ∧ out = [-22]) ∨ (b ≤ 1 ∧ X.leaves.length = 0 ∧ X' = X ∧ out = [-16]) ∨ (b ≤ 1 ∧ X.leaves.length ≠ 0 ∧ 6 < X.leaves.length ∧ X' = X ∧ out = [-7]) ∨
  (b ≤ 1 ∧ X.leaves.length ≠ 0 ∧ X.leaves.length ≤ 6 ∧ ∃ o : OD, BestOf (decide (b = 1)) (CM.allC X.leaves (List.range X.leaves.length)) o ∧ CM.high o.tree ≤ 20 ∧ (CM.prs o.tree X.leaves.length).1.length ≤ 1000 ∧ X' = { X with plan := some (CM.prs o.tree X.leaves.length).1 } ∧ out = [o.wire, o.time, o.power]))
theorem ok_answer_plan (F : DefAt K mg "answer_plan" s_answer_plan P_answer_plan) (T : Gt mg) (cc : ChipC K C) (cO : OutC K CO) (c_best_outcome : Cal P w K mg base 17 "best_outcome" P_best_outcome (sp_best_outcome CL CO)) (c_pairs_of_tree : Cal P w K mg base 22 "pairs_of_tree" P_pairs_of_tree sp_pairs_of_tree) : Cal P w K mg base 23 "answer_plan" P_answer_plan (SpAn C CL CB rPlan) := by
  refine F.ok sc_answer_plan spAn_len (fun f cdv A outer s H vs Q E hr ⟨eh, c, X, ns, lv, X', out, e, hc, hn, ⟨b, en, hb0, h8, hnd, hR⟩, k⟩ => ⟨_,
    (pss_cons (ps_set (i := 2) sc_answer_plan.nd rfl (Or.inl rfl) (pe_ix (ixK (K := K) rfl) (pv 1) pe_int (fun _ _ => rfl)))
    (pss_cons (ps_if (pt_cmpR op_gt (pv 2) pe_int (nomark _)) (pss_one (ps_ret (pe_lst (pa_cons (pgl T.g_OUT_OF_BOUNDS) pa_nil)))) pss_nil)
    (pss_cons (ps_if (pt_cmpR op_eq (pe_callB (lenK (K := K) rfl) rfl T.z_len PySem.boot_len (pa_cons (pf (K := K) rfl (pv 0) rfl) pa_nil)) pe_int (nomark _)) (pss_one (ps_ret (pe_lst (pa_cons (pgl T.g_NOT_THERE) pa_nil)))) pss_nil)
    (pss_cons (ps_if (pt_cmpR op_gt (pe_callB (lenK (K := K) rfl) rfl T.z_len PySem.boot_len (pa_cons (pf (K := K) rfl (pv 0) rfl) pa_nil)) (pgl T.g_MOST_PLANNED) (nomark _)) (pss_one (ps_ret (pe_lst (pa_cons (pgl T.g_TOO_MANY_SHAPES) pa_nil)))) pss_nil)
    (pss_cons (ps_set (i := 3) sc_answer_plan.nd rfl (Or.inl rfl) (pc c_best_outcome hr (pa_cons (pf (K := K) rfl (pv 0) rfl) (pa_cons (pe_cmpR op_eq (pv 2) pe_int (nomark _)) pa_nil))))
    (pss_cons (psf (K := K) rfl (pv 0) (pc c_pairs_of_tree hr (pa_cons (pf (K := K) rfl (pv 3) rfl) (pa_cons (pe_callB (lenK (K := K) rfl) rfl T.z_len PySem.boot_len (pa_cons (pf (K := K) rfl (pv 0) rfl) pa_nil)) pa_nil))) rfl)
    (pss_one (ps_ret (pe_lst (pa_cons (pf (K := K) rfl (pv 3) rfl) (pa_cons (pf (K := K) rfl (pv 3) rfl) (pa_cons (pf (K := K) rfl (pv 3) rfl) pa_nil)))))))))))), ?_⟩)
  subst e en
  refine sq_asg (R := IsI b) (er_ixL (Q := fun i : Int => IsI i) (j := 0) (er_var rfl hn) er_c rfl rfl) fun v3 H1 s1 e3 => ?_
  obtain rfl : v3 = .int b := e3
  refine sq_ifr (et_test (er_I0 (er_v rfl) er_c)) (fun d H2 s2 => ?_) fun d H2 s2 => ?_
  · have d : 1 < b := of_decide_eq_true d
    rcases hR with ⟨_, rfl, rfl⟩ | ⟨o, _⟩ | ⟨o, _⟩ | ⟨o, _⟩
    · exact sr_ret (er_f1 er_c) fun v H3 s3 r => k v H3 (Kp.of_same (s1.trans (s2.trans s3))) (hc.mn (s1.trans (s2.trans s3))) (r.a (hc.has.same (s1.trans s2)))
    · exact absurd o (by omega)
    · exact absurd o (by omega)
    · exact absurd o (by omega)
  have d : ¬ 1 < b := of_decide_eq_false d
  have s12 := s1.trans s2
  refine sq_ifr (et_test (er_eqI (er_lenL (er_fld (er_var rfl ⟨rfl, hc.mn s12⟩) (f_leaves cc))) er_c)) (fun d2 H3 s3 => ?_) fun d2 H3 s3 => ?_
  · have d2 : (X.leaves.length : Int) = 0 := of_decide_eq_true d2
    rcases hR with ⟨o, _⟩ | ⟨_, _, rfl, rfl⟩ | ⟨_, o, _⟩ | ⟨_, o, _⟩
    · exact absurd o (by omega)
    · exact sr_ret (er_f1 er_c) fun v H4 s4 r => k v H4 (Kp.of_same (s12.trans (s3.trans s4))) (hc.mn (s12.trans (s3.trans s4))) (r.a (hc.has.same (s12.trans s3)))
    · exact absurd d2 (by omega)
    · exact absurd d2 (by omega)
  have d2 : ¬ (X.leaves.length : Int) = 0 := of_decide_eq_false d2
  have s13 := s12.trans s3
  refine sq_ifr (et_test (er_I0 (er_lenL (er_fld (er_var rfl ⟨rfl, hc.mn s13⟩) (f_leaves cc))) er_c)) (fun d3 H4 s4 => ?_) fun d3 H4 s4 => ?_
  · have d3 : 6 < (X.leaves.length : Int) := of_decide_eq_true d3
    rcases hR with ⟨o, _⟩ | ⟨_, o, _⟩ | ⟨_, _, _, rfl, rfl⟩ | ⟨_, _, o, _⟩
    · exact absurd o (by omega)
    · exact absurd o (by omega)
    · exact sr_ret (er_f1 er_c) fun v H5 s5 r => k v H5 (Kp.of_same (s13.trans (s4.trans s5))) (hc.mn (s13.trans (s4.trans s5))) (r.a (hc.has.same (s13.trans s4)))
    · exact absurd d3 (by omega)
  have d3 : ¬ 6 < (X.leaves.length : Int) := of_decide_eq_false d3
  have s14 := s13.trans s4
  rcases hR with ⟨o, _⟩ | ⟨_, o, _⟩ | ⟨_, _, o, _⟩ | ⟨_, _, _, o, hB, hh, hz, rfl, rfl⟩
  · exact absurd o (by omega)
  · exact absurd o (by omega)
  · exact absurd o (by omega)
  refine sq_asg (R := IsOc CO o) (er_call (X.leaves, decide (b = 1), o) ⟨by show 1 ≤ X.leaves.length; omega, by show X.leaves.length ≤ 6; omega, hnd, hB⟩ (ea_cons (er_fld (er_var rfl ⟨rfl, hc.mn s14⟩) (f_leaves cc)) (ea_cons (er_eqI (er_v rfl) er_c) ea_nil))) fun v4 H5 s5 e4 => ?_
  have s15 := s14.trans s5
  refine sq_plan (q := some (CM.prs o.tree X.leaves.length).1) (hc.mn s15) cc (er_som (er_call (o.tree, X.leaves.length) ⟨hh, hz⟩ (ea_cons (er_fld (er_var rfl e4) (f_tree cO)) (ea_cons (er_lenL (er_fld (er_var rfl ⟨rfl, hc.mn s15⟩) (f_leaves cc))) ea_nil))) fun _ => no_tup) (er_v rfl) fun H6 k6 c6 => ?_
  have e6 : IsOc CO o v4 H6 := Mg.mg k6 e4
  exact sr_ret (er_f3 (er_fld (er_var rfl e6) (f_wire cO)) (er_fld (er_var rfl e6) (f_time cO)) (er_fld (er_var rfl e6) (f_power cO))) fun v H7 s7 r => k v H7 ((Kp.of_same s15).trans (k6.trans (Kp.of_same s7))) (c6.mn s7) (r.a c6.has)
/-! build, mend, retie -/
def rBuild : Rl := fun X ns X' out => (X.plan = none ∧ X' = X ∧ out = [-16]) ∨ ∃ ps, X.plan = some ps ∧ (X.leaves.length = ps.length + 1 ∧ X.leaves.length ≤ 100 ∧ CM.okPairs X.leaves.length ps ∧ CM.okNeeds X.leaves ∧ CM.okAreas (CM.ocs X.leaves ps ps.length)) ∧ (CM.buildBD X.leaves ps X.src).wires.length ≤ 1000 ∧
  X' = { X with built := some (CM.buildBD X.leaves ps X.src) } ∧ out = [(CM.buildBD X.leaves ps X.src).all]
theorem ok_answer_build (F : DefAt K mg "answer_build" s_answer_build P_answer_build) (T : Gt mg) (cc : ChipC K C) (c_built_from : Cal P w K mg base 6 "built_from" P_built_from (sp_built_from CL CB)) (c_all_wire : Cal P w K mg base 1 "all_wire" P_all_wire (sp_all_wire CB)) : Cal P w K mg base 7 "answer_build" P_answer_build (SpAn C CL CB rBuild) := by
  refine F.ok sc_answer_build spAn_len (fun f cdv A outer s H vs Q E hr ⟨eh, c, X, ns, lv, X', out, e, hc, hn, hR, k⟩ => ⟨_,
    (pss_cons (ps_if (pt_cmpR op_isN (pf (K := K) rfl (pv 0) rfl) pe_non (nomark _)) (pss_one (ps_ret (pe_lst (pa_cons (pgl T.g_NOT_THERE) pa_nil)))) pss_nil)
    (pss_cons (psf (K := K) rfl (pv 0) (pc c_built_from hr (pa_cons (pf (K := K) rfl (pv 0) rfl) (pa_cons (pf (K := K) rfl (pv 0) rfl) (pa_cons (pf (K := K) rfl (pv 0) rfl) pa_nil)))) rfl)
    (pss_one (ps_ret (pe_lst (pa_cons (pc c_all_wire hr (pa_cons (pf (K := K) rfl (pv 0) rfl) pa_nil)) pa_nil)))))), ?_⟩)
  subst e
  refine sq_ifr (et_test (er_oN (er_fld (er_var rfl ⟨rfl, hc⟩) (f_plan cc)))) (fun d H1 s1 => ?_) fun d H1 s1 => ?_
  · have d : X.plan.isNone = true := d
    rcases hR with ⟨_, rfl, rfl⟩ | ⟨ps, hp, _⟩
    · exact sr_ret (er_f1 er_c) fun v H2 s2 r => k v H2 (Kp.of_same (s1.trans s2)) (hc.mn (s1.trans s2)) (r.a (hc.has.same s1))
    · rw [hp] at d
      cases d
  have d : X.plan.isNone = false := d
  rcases hR with ⟨hp, _⟩ | ⟨ps, hp, pre, hz, rfl, rfl⟩
  · rw [hp] at d
    cases d
  have c1 := hc.mn s1
  refine sq_built (q := some (CM.buildBD X.leaves ps X.src)) c1 cc (er_som (er_call (X.leaves, ps, X.src) pre (ea_cons (er_fld (er_var rfl ⟨rfl, c1⟩) (f_leaves cc)) (ea_cons (ev_plan cc c1 rfl hp) (ea_cons (er_fld (er_var rfl ⟨rfl, c1⟩) (f_source cc)) ea_nil)))) fun _ => no_bt) (er_v rfl) fun H2 k2 c2 => ?_
  exact sr_ret (er_f1 (er_call (CM.buildBD X.leaves ps X.src) hz (ea_cons (ev_built cc c2 rfl rfl) ea_nil))) fun v H3 s3 r => k v H3 ((Kp.of_same s1).trans (k2.trans (Kp.of_same s3))) (c2.mn s3) (r.a c2.has)
def preM (X : PC) (b : BD) : Prop := X.leaves.length = b.pairs.length + 1 ∧ X.leaves.length ≤ 100 ∧ CM.okPairs X.leaves.length b.pairs ∧ b.places.length = b.pairs.length ∧ b.wires.length = b.pairs.length
def rMend : Rl := fun X ns X' out => (X.built = none ∧ X' = X ∧ out = [-16]) ∨ ∃ b, X.built = some b ∧ preM X b ∧ (CM.mendBD b X.leaves X.src).wires.length ≤ 1000 ∧
  X' = { X with built := some (CM.mendBD b X.leaves X.src) } ∧ out = [(CM.mendBD b X.leaves X.src).all - b.all]
theorem ok_answer_mend (F : DefAt K mg "answer_mend" s_answer_mend P_answer_mend) (T : Gt mg) (cc : ChipC K C) (c_mended : Cal P w K mg base 3 "mended" P_mended (sp_mended CL CB)) (c_all_wire : Cal P w K mg base 1 "all_wire" P_all_wire (sp_all_wire CB)) : Cal P w K mg base 4 "answer_mend" P_answer_mend (SpAn C CL CB rMend) := by
  refine F.ok sc_answer_mend spAn_len (fun f cdv A outer s H vs Q E hr ⟨eh, c, X, ns, lv, X', out, e, hc, hn, hR, k⟩ => ⟨_,
    (pss_cons (ps_if (pt_cmpR op_isN (pf (K := K) rfl (pv 0) rfl) pe_non (nomark _)) (pss_one (ps_ret (pe_lst (pa_cons (pgl T.g_NOT_THERE) pa_nil)))) pss_nil)
    (pss_cons (ps_set (i := 2) sc_answer_mend.nd rfl (Or.inl rfl) (pc c_all_wire hr (pa_cons (pf (K := K) rfl (pv 0) rfl) pa_nil)))
    (pss_cons (psf (K := K) rfl (pv 0) (pc c_mended hr (pa_cons (pf (K := K) rfl (pv 0) rfl) (pa_cons (pf (K := K) rfl (pv 0) rfl) (pa_cons (pf (K := K) rfl (pv 0) rfl) pa_nil)))) rfl)
    (pss_one (ps_ret (pe_lst (pa_cons (pe_op op_sub (pc c_all_wire hr (pa_cons (pf (K := K) rfl (pv 0) rfl) pa_nil)) (pv 2)) pa_nil))))))), ?_⟩)
  subst e
  refine sq_ifr (et_test (er_oN (er_fld (er_var rfl ⟨rfl, hc⟩) (f_built cc)))) (fun d H1 s1 => ?_) fun d H1 s1 => ?_
  · have d : X.built.isNone = true := d
    rcases hR with ⟨_, rfl, rfl⟩ | ⟨ps, hp, _⟩
    · exact sr_ret (er_f1 er_c) fun v H2 s2 r => k v H2 (Kp.of_same (s1.trans s2)) (hc.mn (s1.trans s2)) (r.a (hc.has.same s1))
    · rw [hp] at d
      cases d
  have d : X.built.isNone = false := d
  rcases hR with ⟨hp, _⟩ | ⟨b, hp, pre, hz, rfl, rfl⟩
  · rw [hp] at d
    cases d
  have c1 := hc.mn s1
  have pre' := pre
  obtain ⟨p1, p2, p3, p4, p5⟩ := pre'
  refine sq_asg (R := IsI b.all) (er_call b (by show b.wires.length ≤ 1000; omega) (ea_cons (ev_built cc c1 rfl hp) ea_nil)) fun v3 H2 s2 e3 => ?_
  obtain rfl : v3 = .int b.all := e3
  have c2 := c1.mn s2
  refine sq_built (q := some (CM.mendBD b X.leaves X.src)) c2 cc (er_som (er_call (b, X.leaves, X.src) pre (ea_cons ((ev_built cc c2 rfl hp).to fun v H' _ r => bs_of_bt r) (ea_cons (er_fld (er_var rfl ⟨rfl, c2⟩) (f_leaves cc)) (ea_cons (er_fld (er_var rfl ⟨rfl, c2⟩) (f_source cc)) ea_nil)))) fun _ => no_bt) (er_v rfl) fun H3 k3 c3 => ?_
  exact sr_ret (er_f1 (er_I0 (er_call (CM.mendBD b X.leaves X.src) hz (ea_cons (ev_built cc c3 rfl rfl) ea_nil)) (er_v rfl))) fun v H4 s4 r => k v H4 ((Kp.of_same (s1.trans s2)).trans (k3.trans (Kp.of_same s4))) (c3.mn s4) (r.a c3.has)
def rRetie : Rl := fun X ns X' out => (X.built = none ∧ X' = X ∧ out = [-16]) ∨ ∃ b, X.built = some b ∧ preM X b ∧ (CM.mendBD (CM.bareBD b) X.leaves X.src).wires.length ≤ 1000 ∧
  X' = { X with built := some (CM.mendBD (CM.bareBD b) X.leaves X.src) } ∧ out = [(CM.mendBD (CM.bareBD b) X.leaves X.src).all]
theorem ok_answer_retie (F : DefAt K mg "answer_retie" s_answer_retie P_answer_retie) (T : Gt mg) (cc : ChipC K C) (c_tied_anew : Cal P w K mg base 4 "tied_anew" P_tied_anew (sp_tied_anew CL CB)) (c_all_wire : Cal P w K mg base 1 "all_wire" P_all_wire (sp_all_wire CB)) : Cal P w K mg base 5 "answer_retie" P_answer_retie (SpAn C CL CB rRetie) := by
  refine F.ok sc_answer_retie spAn_len (fun f cdv A outer s H vs Q E hr ⟨eh, c, X, ns, lv, X', out, e, hc, hn, hR, k⟩ => ⟨_,
    (pss_cons (ps_if (pt_cmpR op_isN (pf (K := K) rfl (pv 0) rfl) pe_non (nomark _)) (pss_one (ps_ret (pe_lst (pa_cons (pgl T.g_NOT_THERE) pa_nil)))) pss_nil)
    (pss_cons (psf (K := K) rfl (pv 0) (pc c_tied_anew hr (pa_cons (pf (K := K) rfl (pv 0) rfl) (pa_cons (pf (K := K) rfl (pv 0) rfl) (pa_cons (pf (K := K) rfl (pv 0) rfl) pa_nil)))) rfl)
    (pss_one (ps_ret (pe_lst (pa_cons (pc c_all_wire hr (pa_cons (pf (K := K) rfl (pv 0) rfl) pa_nil)) pa_nil)))))), ?_⟩)
  subst e
  refine sq_ifr (et_test (er_oN (er_fld (er_var rfl ⟨rfl, hc⟩) (f_built cc)))) (fun d H1 s1 => ?_) fun d H1 s1 => ?_
  · have d : X.built.isNone = true := d
    rcases hR with ⟨_, rfl, rfl⟩ | ⟨ps, hp, _⟩
    · exact sr_ret (er_f1 er_c) fun v H2 s2 r => k v H2 (Kp.of_same (s1.trans s2)) (hc.mn (s1.trans s2)) (r.a (hc.has.same s1))
    · rw [hp] at d
      cases d
  have d : X.built.isNone = false := d
  rcases hR with ⟨hp, _⟩ | ⟨b, hp, ⟨p1, p2, p3, p4, p5⟩, hz, rfl, rfl⟩
  · rw [hp] at d
    cases d
  have c1 := hc.mn s1
  refine sq_built (q := some (CM.mendBD (CM.bareBD b) X.leaves X.src)) c1 cc (er_som (er_call (b, X.leaves, X.src) ⟨p1, p2, p3, p4⟩ (ea_cons (ev_built cc c1 rfl hp) (ea_cons (er_fld (er_var rfl ⟨rfl, c1⟩) (f_leaves cc)) (ea_cons (er_fld (er_var rfl ⟨rfl, c1⟩) (f_source cc)) ea_nil)))) fun _ => no_bt) (er_v rfl) fun H2 k2 c2 => ?_
  exact sr_ret (er_f1 (er_call (CM.mendBD (CM.bareBD b) X.leaves X.src) hz (ea_cons (ev_built cc c2 rfl rfl) ea_nil))) fun v H3 s3 r => k v H3 ((Kp.of_same s1).trans (k2.trans (Kp.of_same s3))) (c2.mn s3) (r.a c2.has)
end
end Clk
set_option Elab.async false
set_option maxRecDepth 100000
set_option maxHeartbeats 4000000
set_option linter.all false
set_option autoImplicit false
namespace Clk
open PySem PySem.Spec PyProof.Rows L2
open CM (LD OD BD PC)
/-! the states kept -/
def IsSt (av : Addr → Prop) (CL CB : Addr) (X : PC) : Rp := fun v H => ∃ a s l p b, v = .ref a ∧ H a = some (.tup [s, l, p, b]) ∧ IsPl X.src s H ∧ LsA av (IsLf CL) X.leaves l H ∧ IsO IsPs X.plan p H ∧ IsO (IsBt CB) X.built b H
instance {av : Addr → Prop} {CL CB : Addr} {X : PC} : Mn (IsSt av CL CB X) := ⟨fun s ⟨a, x, l, p, b, e, h, r1, r2, r3, r4⟩ => ⟨a, x, l, p, b, e, s _ _ h, Mn.mn s r1, Mn.mn s r2, Mn.mn s r3, Mn.mn s r4⟩⟩
instance {av : Addr → Prop} {CL CB : Addr} {X : PC} : Mc (IsSt av CL CB X) := ⟨fun k ⟨a, x, l, p, b, e, h, r1, r2, r3, r4⟩ => ⟨a, x, l, p, b, e, k _ _ h trivial, Mc.mc k r1, Mc.mc k r2, Mc.mc k r3, Mc.mc k r4⟩⟩
abbrev Ks (av : Addr → Prop) (CL CB : Addr) (E : List PC) : Rp := LsA av (IsSt av CL CB) E
/-- the chip at c holds X; what can be taken back is E, what can be done again L, the next one at the end -/
def ChH (av : Addr → Prop) (C CL CB c : Addr) (X : PC) (E L : List PC) (H : Hp) : Prop := ∃ e l : V, ChAt C CL CB c ⟨e, l, av⟩ X H ∧ Ks av CL CB E e H ∧ Ks av CL CB L l H
theorem ChH.mn {av : Addr → Prop} {C CL CB c : Addr} {X : PC} {E L : List PC} {H H' : Hp} (s : Same H H') (h : ChH av C CL CB c X E L H) : ChH av C CL CB c X E L H' := let ⟨e, l, h1, h2, h3⟩ := h; ⟨e, l, h1.mn s, Mn.mn s h2, Mn.mn s h3⟩
section
variable {σ : L2.St} {H : Hp} {ta tv te : TE} {K : PySem.W.Frag} {D : Ends} {u : TS} {C CL CB c : Addr} {eh : Eh} {X : PC} {R : Rp}
theorem f_earlier {S : Rp} (cc : ChipC K C) : Fld K (fun v H => IsCh C CL CB c eh X v H ∧ S eh.e H) "earlier" S := fun v H ⟨⟨e, dx, fs, a, l, p, b, h, z, l1, l2, l3, l4, l5, l6, r1, r2, r3, r4, ra⟩, hs⟩ => ⟨c, C, dx, fs, _, e, h, cc.cl, cc.earlier, l5, hs⟩
theorem f_later {S : Rp} (cc : ChipC K C) : Fld K (fun v H => IsCh C CL CB c eh X v H ∧ S eh.l H) "later" S := fun v H ⟨⟨e, dx, fs, a, l, p, b, h, z, l1, l2, l3, l4, l5, l6, r1, r2, r3, r4, ra⟩, hs⟩ => ⟨c, C, dx, fs, _, e, h, cc.cl, cc.later, l6, hs⟩
instance mn_and {R S : Rp} {w : V} [Mn R] [Mn S] : Mn (fun v H => R v H ∧ S w H) := ⟨fun s ⟨a, b⟩ => ⟨Mn.mn s a, Mn.mn s b⟩⟩
theorem er_earlier {S : Rp} [Mn S] {i : Nat} (cc : ChipC K C) (e : σ[i]? = some (some (.ref c))) (h : ChAt C CL CB c eh X H) (hs : S eh.e H) : EvR (tFld K (tVar i) "earlier") σ H S := er_fld (er_var (R := fun v H => IsCh C CL CB c eh X v H ∧ S eh.e H) e ⟨⟨rfl, h⟩, hs⟩) (f_earlier cc)
theorem er_later {S : Rp} [Mn S] {i : Nat} (cc : ChipC K C) (e : σ[i]? = some (some (.ref c))) (h : ChAt C CL CB c eh X H) (hs : S eh.l H) : EvR (tFld K (tVar i) "later") σ H S := er_fld (er_var (R := fun v H => IsCh C CL CB c eh X v H ∧ S eh.l H) e ⟨⟨rfl, h⟩, hs⟩) (f_later cc)
theorem sr_earlier [Mn R] [Mc R] (hc : ChAt C CL CB c eh X H) (cc : ChipC K C) (h : EvR tv σ H R) (ho : EvR ta σ H (IsV (.ref c))) (k : ∀ v H1, Kp GC H H1 → R v H1 → ChAt C CL CB c ⟨v, eh.l, eh.av⟩ X H1 → D.nx σ H1) : sFld K ta tv "earlier" D σ H := by
  obtain ⟨dx, fs, a, l, p, b, hh, z, l1, l2, l3, l4, l5, l6, r1, r2, r3, r4, ra⟩ := hc
  refine sr_fld h ho hh cc.cl cc.earlier (by omega) fun v H1 s r => ?_
  have kp : Kp GC H1 (upd H1 c (.ins C dx (putF "earlier" v fs))) := kp_chip (s _ _ hh) l1
  exact k v _ ((Kp.of_same s).trans kp) (Mc.mc kp r) ⟨dx, _, a, l, p, b, upd_same, by rw [put_len l5]; exact z, by rw [lk_put_ne (by decide +kernel)]; exact l1, by rw [lk_put_ne (by decide +kernel)]; exact l2, by rw [lk_put_ne (by decide +kernel)]; exact l3, by rw [lk_put_ne (by decide +kernel)]; exact l4, lk_put, by rw [lk_put_ne (by decide +kernel)]; exact l6, Mc.mc kp (Mn.mn s r1), Mc.mc kp (Mn.mn s r2), Mc.mc kp (Mn.mn s r3), Mc.mc kp (Mn.mn s r4), (ra.same s).upd⟩
theorem sr_later [Mn R] [Mc R] (hc : ChAt C CL CB c eh X H) (cc : ChipC K C) (h : EvR tv σ H R) (ho : EvR ta σ H (IsV (.ref c))) (k : ∀ v H1, Kp GC H H1 → R v H1 → ChAt C CL CB c ⟨eh.e, v, eh.av⟩ X H1 → D.nx σ H1) : sFld K ta tv "later" D σ H := by
  obtain ⟨dx, fs, a, l, p, b, hh, z, l1, l2, l3, l4, l5, l6, r1, r2, r3, r4, ra⟩ := hc
  refine sr_fld h ho hh cc.cl cc.later (by omega) fun v H1 s r => ?_
  have kp : Kp GC H1 (upd H1 c (.ins C dx (putF "later" v fs))) := kp_chip (s _ _ hh) l1
  exact k v _ ((Kp.of_same s).trans kp) (Mc.mc kp r) ⟨dx, _, a, l, p, b, upd_same, by rw [put_len l6]; exact z, by rw [lk_put_ne (by decide +kernel)]; exact l1, by rw [lk_put_ne (by decide +kernel)]; exact l2, by rw [lk_put_ne (by decide +kernel)]; exact l3, by rw [lk_put_ne (by decide +kernel)]; exact l4, by rw [lk_put_ne (by decide +kernel)]; exact l5, lk_put, Mc.mc kp (Mn.mn s r1), Mc.mc kp (Mn.mn s r2), Mc.mc kp (Mn.mn s r3), Mc.mc kp (Mn.mn s r4), (ra.same s).upd⟩
theorem sq_earlier [Mn R] [Mc R] (hc : ChAt C CL CB c eh X H) (cc : ChipC K C) (h : EvR tv σ H R) (ho : EvR ta σ H (IsV (.ref c))) (k : ∀ v H1, Kp GC H H1 → R v H1 → ChAt C CL CB c ⟨v, eh.l, eh.av⟩ X H1 → u D σ H1) : tSeq (sFld K ta tv "earlier") u D σ H := sr_earlier (D := { D with nx := u D }) hc cc h ho k
theorem sq_later [Mn R] [Mc R] (hc : ChAt C CL CB c eh X H) (cc : ChipC K C) (h : EvR tv σ H R) (ho : EvR ta σ H (IsV (.ref c))) (k : ∀ v H1, Kp GC H H1 → R v H1 → ChAt C CL CB c ⟨eh.e, v, eh.av⟩ X H1 → u D σ H1) : tSeq (sFld K ta tv "later") u D σ H := sr_later (D := { D with nx := u D }) hc cc h ho k
theorem sq_dcall {sp : Sp} {E : XK} {t : TA} {Rs : List Rp} (h : EvA t σ H Rs) (k : ∀ vs H1, Same H H1 → Alls Rs vs H1 → sp vs H1 (fun _ H2 => u D σ H2) E) : tSeq (tDrop (tCall sp [] E t)) u D σ H :=
  h H (Same.refl _) _ fun vs H1 s r => by rw [List.append_nil]; exact k vs H1 s r
theorem sr_dcall {sp : Sp} {E : XK} {t : TA} {Rs : List Rp} (h : EvA t σ H Rs) (k : ∀ vs H1, Same H H1 → Alls Rs vs H1 → sp vs H1 (fun _ H2 => D.nx σ H2) E) : tDrop (tCall sp [] E t) D σ H :=
  h H (Same.refl _) _ fun vs H1 s r => by rw [List.append_nil]; exact k vs H1 s r
theorem sr_rcall {sp : Sp} {E : XK} {t : TA} {Rs : List Rp} (h : EvA t σ H Rs) (k : ∀ vs H1, Same H H1 → Alls Rs vs H1 → sp vs H1 (fun v H2 => D.rt v H2) E) : tRet (tCall sp [] E t) D σ H :=
  h H (Same.refl _) _ fun vs H1 s r => by rw [List.append_nil]; exact k vs H1 s r
theorem f_leavesA (cc : ChipC K C) : Fld K (IsCh C CL CB c eh X) "leaves" (LsA eh.av (IsLf CL) X.leaves) := fun v H ⟨e, dx, fs, a, l, p, b, h, z, l1, l2, l3, l4, l5, l6, r1, r2, r3, r4, ra⟩ => ⟨c, C, dx, fs, l, e, h, cc.cl, cc.leaves, l2, r2⟩
theorem er_nilN {α : Type} {R : α → Rp} : EvR (tLst tNil) σ H (LsN H R []) := er_lst ea_nil (by simp) fun v vs a H' e h' ⟨H0, s0, n0, r, e'⟩ => by
  match vs, r with
  | [], _ => exact ⟨a, [], e, s0.free n0, h', trivial⟩
theorem er_backN {α : Type} {R : α → Rp} [∀ x, Mn (R x)] {xs : List α} {tl : TO} {i : Int} {j : Nat} (h : EvR te σ H (LstOf R xs)) (hh : EvO tl σ H (some i)) (hi : i = -(j : Int)) (hj : 0 < j) : EvR (tSl (rSlL K) te tl tNoPart) σ H (LsN H R (xs.drop (xs.length - j))) := fun H1 s Q q =>
  h H1 s _ fun x H2 s2 ⟨a, vs, e, ht, r⟩ => hh H2 (s.trans s2) _ fun H3 s3 => by
    refine ⟨a, vs, e, SqL.of (s3 _ _ ht), fun p hp => ?_⟩
    have s4 := same_new hp (.lst (cutV vs (some i) none))
    refine q _ _ ((s2.trans s3).trans s4) ⟨p, _, rfl, (s.trans (s2.trans s3)).free hp, upd_same, ?_⟩
    rw [hi, cut_back hj]
    rw [hi, cut_back hj] at s4
    rw [r.length]
    rw [r.length] at s4
    exact Each.mn (s3.trans s4) (r.drop _)
theorem er_initN {α : Type} {R : α → Rp} [∀ x, Mn (R x)] {xs : List α} {th : TO} (h : EvR te σ H (LstOf R xs)) (hh : EvO th σ H (some (-1))) : EvR (tSl (rSlL K) te tNoPart th) σ H (LsN H R (xs.take (xs.length - 1))) := fun H1 s Q q =>
  h H1 s _ fun x H2 s2 ⟨a, vs, e, ht, r⟩ => hh H2 (s.trans s2) _ fun H3 s3 => by
    refine ⟨a, vs, e, SqL.of (s3 _ _ ht), fun p hp => ?_⟩
    have s4 := same_new hp (.lst (cutV vs none (some (-1))))
    refine q _ _ ((s2.trans s3).trans s4) ⟨p, _, rfl, (s.trans (s2.trans s3)).free hp, upd_same, ?_⟩
    rw [cut_last]
    rw [cut_last] at s4
    rw [r.length]
    rw [r.length] at s4
    exact Each.mn (s3.trans s4) (r.take _)
theorem er_a {α : Type} {R : α → Rp} {xs : List α} {av : Addr → Prop} (k : Has av H) (h : EvR te σ H (LsN H R xs)) : EvR te σ H (LsA av R xs) := h.to fun _ _ _ r => r.a k
/-- a tuple of four -/
theorem er_ix4 {X : PC} {R : Rp} [Mn R] {i : Int} {j : Nat} {a : Addr} {s l p b v : V} (ha : EvR ta σ H (IsV (.ref a))) (hH : H a = some (.tup [s, l, p, b])) (hi : i = (j : Int)) (hv : [s, l, p, b][j]? = some v) (r : R v H) : EvR (tOp (rIx K) ta (tC (.int i))) σ H R :=
  er_two (S2 := IsI i) ha er_c fun _ _ H1 s1 ex ey _ q => .inr (.inl ⟨a, _, i, v, ex, ey, SqT.of (s1 _ _ hH), at_of hi hv, q v H1 (Same.refl _) (Mn.mn s1 r)⟩)
end
section
variable {P : Program} {w : World} {K : PySem.W.Frag} {mg : Str → Option Value} {base : Heap} {C CL CO CB : Addr}
abbrev s_state_of : Stmt := top 53
abbrev N_state_of : List Str := ["chip"]
abbrev P_state_of : List Str := ["chip"]
theorem sc_state_of : FnScope N_state_of P_state_of (defScope s_state_of) := ⟨rfl, rfl, rfl, by decide +kernel, rfl, by decide +kernel, by decide +kernel⟩
abbrev s_put_back : Stmt := top 54
abbrev N_put_back : List Str := ["chip", "state"]
abbrev P_put_back : List Str := ["chip", "state"]
theorem sc_put_back : FnScope N_put_back P_put_back (defScope s_put_back) := ⟨rfl, rfl, rfl, by decide +kernel, rfl, by decide +kernel, by decide +kernel⟩
abbrev s_remember : Stmt := top 55
abbrev N_remember : List Str := ["chip", "before"]
abbrev P_remember : List Str := ["chip", "before"]
theorem sc_remember : FnScope N_remember P_remember (defScope s_remember) := ⟨rfl, rfl, rfl, by decide +kernel, rfl, by decide +kernel, by decide +kernel⟩
def sp_state_of (C CL CB : Addr) : Sp := SpOf (ι := Eh × Addr × PC) (fun _ => True) (fun i => [IsCh C CL CB i.2.1 i.1 i.2.2]) (fun i => IsSt i.1.av CL CB i.2.2)
theorem ok_state_of (F : DefAt K mg "state_of" s_state_of P_state_of) (T : Gt mg) (cc : ChipC K C) : Cal P w K mg base 1 "state_of" P_state_of (sp_state_of C CL CB) := by
  refine F.ok sc_state_of (spOf_len fun _ => rfl) (fun f cdv A outer s H vs Q E hr ⟨⟨eh, c, X⟩, hp, ha, k⟩ => ⟨_,
    (pss_one (ps_ret (pe_tup (pa_cons (pf (K := K) rfl (pv 0) rfl) (pa_cons (pf (K := K) rfl (pv 0) rfl) (pa_cons (pf (K := K) rfl (pv 0) rfl) (pa_cons (pf (K := K) rfl (pv 0) rfl) pa_nil))))))), ?_⟩)
  obtain ⟨v1, rfl, h1⟩ := alls1 (show Alls [IsCh C CL CB c eh X] vs H from ha)
  refine sr_ret (er_tup (R := IsSt eh.av CL CB X) (ea_cons (er_fld (er_var rfl h1) (f_source cc)) (ea_cons (er_fld (er_var rfl h1) (f_leavesA cc)) (ea_cons (er_fld (er_var rfl h1) (f_plan cc)) (ea_cons (er_fld (er_var rfl h1) (f_built cc)) ea_nil)))) (by simp) fun v vs a H' e h' ⟨H0, s0, n0, r, e'⟩ => ?_) fun v H1 s1 r => k v H1 s1 r
  obtain ⟨u1, u2, u3, u4, rfl, r1, r2, r3, r4⟩ := alls4 r
  subst e'
  have sn := same_new n0 (.tup [u1, u2, u3, u4])
  exact ⟨a, u1, u2, u3, u4, e, h', Mn.mn sn r1, Mn.mn sn r2, Mn.mn sn r3, Mn.mn sn r4⟩
def sp_put_back (C CL CB : Addr) : Sp := fun vs H Q _ => ∃ eh c X Y sv, vs = [.ref c, sv] ∧ ChAt C CL CB c eh X H ∧ IsSt eh.av CL CB Y sv H ∧ ∀ v H', Kp GC H H' → ChAt C CL CB c eh Y H' → Q v H'
theorem ok_put_back (F : DefAt K mg "put_back" s_put_back P_put_back) (T : Gt mg) (cc : ChipC K C) : Cal P w K mg base 1 "put_back" P_put_back (sp_put_back C CL CB) := by
  refine F.ok sc_put_back (fun vs H Q E ⟨eh, c, X, Y, sv, e, _⟩ => by rw [e]; rfl) (fun f cdv A outer s H vs Q E hr ⟨eh, c, X, Y, sv, e, hc, hs, k⟩ => ⟨_,
    (pss_cons (psf (K := K) rfl (pv 0) (pe_ix (ixK (K := K) rfl) (pv 1) pe_int (fun _ _ => rfl)) rfl)
    (pss_cons (psf (K := K) rfl (pv 0) (pe_ix (ixK (K := K) rfl) (pv 1) pe_int (fun _ _ => rfl)) rfl)
    (pss_cons (psf (K := K) rfl (pv 0) (pe_ix (ixK (K := K) rfl) (pv 1) pe_int (fun _ _ => rfl)) rfl)
    (pss_one (psf (K := K) rfl (pv 0) (pe_ix (ixK (K := K) rfl) (pv 1) pe_int (fun _ _ => rfl)) rfl))))), ?_⟩)
  subst e
  obtain ⟨a, y1, y2, y3, y4, rfl, ha, q1, q2, q3, q4⟩ := hs
  refine sq_source (q := Y.src) hc cc (er_ix4 (X := X) (j := 0) (er_v rfl) ha rfl rfl q1) (er_v rfl) fun H1 k1 c1 => ?_
  have h1 := k1 _ _ ha trivial
  refine sq_leavesA (q := Y.leaves) c1 cc (er_ix4 (X := X) (j := 1) (er_v rfl) h1 rfl rfl (Mc.mc k1 q2)) (er_v rfl) fun H2 k2 c2 => ?_
  have k02 := k1.trans k2
  refine sq_plan (q := Y.plan) c2 cc (er_ix4 (X := X) (j := 2) (er_v rfl) (k02 _ _ ha trivial) rfl rfl (Mc.mc k02 q3)) (er_v rfl) fun H3 k3 c3 => ?_
  have k03 := k02.trans k3
  exact sr_built (q := Y.built) c3 cc (er_ix4 (X := X) (j := 3) (er_v rfl) (k03 _ _ ha trivial) rfl rfl (Mc.mc k03 q4)) (er_v rfl) fun H4 k4 c4 => k _ H4 (k03.trans k4) c4
def last20 (l : List PC) : List PC := l.drop (l.length - 20)
def sp_remember (C CL CB : Addr) : Sp := fun vs H Q _ => ∃ av c X E L B bv, vs = [.ref c, bv] ∧ ChH av C CL CB c X E L H ∧ IsSt av CL CB B bv H ∧ E.length ≤ 1000 ∧ ∀ v H', Kp GC H H' → ChH av C CL CB c X (last20 (E ++ [B])) [] H' → Q v H'
theorem ok_remember (F : DefAt K mg "remember" s_remember P_remember) (T : Gt mg) (cc : ChipC K C) : Cal P w K mg base 1 "remember" P_remember (sp_remember C CL CB) := by
  refine F.ok sc_remember (fun vs H Q E ⟨av, c, X, E', L, B, bv, e, _⟩ => by rw [e]; rfl) (fun f cdv A outer s H vs Q E hr ⟨av, c, X, Es, L, B, bv, e, ⟨ee, el, hc, he, hl⟩, hb, hz, k⟩ => ⟨_,
    (pss_cons (psf (K := K) rfl (pv 0) (pe_slice (sllK (K := K) rfl) (pe_op op_cat (pf (K := K) rfl (pv 0) rfl) (pe_lst (pa_cons (pv 1) pa_nil))) (po_some (pe_un un_neg (pgl T.g_MOST_TAKEN_BACK))) po_none) rfl)
    (pss_one (psf (K := K) rfl (pv 0) (pe_lst pa_nil) rfl))), ?_⟩)
  subst e
  refine sq_earlier (R := Ks av CL CB (last20 (Es ++ [B]))) hc cc (er_a hc.has (er_backN (j := 20) (er_catN (er_earlier cc rfl hc he.ls) (er_lst1N (er_var rfl hb)) (by show Es.length + 1 ≤ _; omega)) (eo_some (er_neg er_c)) rfl (by decide))) (er_v rfl) fun v1 H1 k1 r1 c1 => ?_
  exact sr_later (R := Ks av CL CB []) c1 cc (er_a c1.has er_nilN) (er_v rfl) fun v2 H2 k2 r2 c2 => k _ H2 (k1.trans k2) ⟨_, _, c2, Mc.mc k2 r1, r2⟩
/-! a new chip -/
abbrev s_Chip_init : Stmt := inClass (top 52) 0
abbrev N_Chip_init : List Str := ["self"]
abbrev P_Chip_init : List Str := ["self"]
theorem sc_Chip_init : FnScope N_Chip_init P_Chip_init (defScope s_Chip_init) := ⟨rfl, rfl, rfl, by decide +kernel, rfl, by decide +kernel, by decide +kernel⟩
abbrev s_answer_new : Stmt := top 56
abbrev N_answer_new : List Str := ["chip"]
abbrev P_answer_new : List Str := ["chip"]
theorem sc_answer_new : FnScope N_answer_new P_answer_new (defScope s_answer_new) := ⟨rfl, rfl, rfl, by decide +kernel, rfl, by decide +kernel, by decide +kernel⟩
abbrev s_answer_undo : Stmt := top 57
abbrev N_answer_undo : List Str := ["chip"]
abbrev P_answer_undo : List Str := ["chip"]
theorem sc_answer_undo : FnScope N_answer_undo P_answer_undo (defScope s_answer_undo) := ⟨rfl, rfl, rfl, by decide +kernel, rfl, by decide +kernel, by decide +kernel⟩
abbrev s_answer_redo : Stmt := top 58
abbrev N_answer_redo : List Str := ["chip"]
abbrev P_answer_redo : List Str := ["chip"]
theorem sc_answer_redo : FnScope N_answer_redo P_answer_redo (defScope s_answer_redo) := ⟨rfl, rfl, rfl, by decide +kernel, rfl, by decide +kernel, by decide +kernel⟩
abbrev s_answer_state : Stmt := top 59
abbrev N_answer_state : List Str := ["chip", "call"]
abbrev P_answer_state : List Str := ["chip", "call"]
theorem sc_answer_state : FnScope N_answer_state P_answer_state (defScope s_answer_state) := ⟨rfl, rfl, rfl, by decide +kernel, rfl, by decide +kernel, by decide +kernel⟩
def emp : PC := ⟨⟨0, 0⟩, [], none, none⟩
def sp_Chip (C CL CB : Addr) : Sp := fun vs H Q _ => ∃ av p dx, vs = [.ref p] ∧ H p = some (.ins C dx []) ∧ Has av H ∧ ∀ H', (∀ b o, H b = some o → b ≠ p → H' b = some o) → ChH av C CL CB p emp [] [] H' → Q .non H'
theorem lk2 {k g : Str} {v : V} {fs : List (Str × V)} (h : k ≠ g) : (putF g v fs).lookup k = fs.lookup k := lk_put_ne h
theorem ok_Chip (F : ClsAt K mg "Chip" "Chip.__init__" C s_Chip_init P_Chip_init) (cc : ChipC K C) : MkC P w K mg base 1 "Chip" C P_Chip_init (sp_Chip C CL CB) := by
  refine F.ok sc_Chip_init (fun vs H Q E ⟨av, p, dx, e, _⟩ => by rw [e]; rfl) (fun f cdv A outer s H vs Q E hr ⟨av, p, dx, e, hp, has, k⟩ => ⟨_,
    (pss_cons (psf (K := K) rfl (pv 0) (pe_tup (pa_cons pe_int (pa_cons pe_int pa_nil))) rfl)
    (pss_cons (psf (K := K) rfl (pv 0) (pe_lst pa_nil) rfl)
    (pss_cons (psf (K := K) rfl (pv 0) pe_non rfl)
    (pss_cons (psf (K := K) rfl (pv 0) pe_non rfl)
    (pss_cons (psf (K := K) rfl (pv 0) (pe_lst pa_nil) rfl)
    (pss_one (psf (K := K) rfl (pv 0) (pe_lst pa_nil) rfl))))))), ?_⟩)
  subst e
  refine sq_fld (R := IsT [.int 0, .int 0]) (er_t2 er_c er_c) (er_v rfl) hp cc.cl cc.source (by decide) fun v1 H1 s1 ⟨a1, e1, h1⟩ => ?_
  have n1 : a1 ≠ p := fun z => by
    have := s1 _ _ hp
    rw [← z, h1] at this
    cases this
  have has1 : Has av (upd H1 p (.ins C dx (putF "source" v1 []))) := (has.same s1).upd
  refine sq_fld (R := LsA av (IsLf CL) []) (er_a has1 er_nilN) (er_v rfl) upd_same cc.cl cc.leaves (by show 1 < 1000; decide) fun v2 H2 s2 ⟨a2, u2, e2, m2, h2, w2⟩ => ?_
  obtain rfl : u2 = [] := by cases u2 with | nil => rfl | cons a b => exact w2.elim
  have n2 : a2 ≠ p := fun z => by
    have := s2 _ _ upd_same
    rw [← z, h2] at this
    cases this
  refine sq_fld (R := IsV .non) er_c (er_v rfl) upd_same cc.cl cc.plan (by show 2 < 1000; decide) fun v3 H3 s3 e3 => ?_
  refine sq_fld (R := IsV .non) er_c (er_v rfl) upd_same cc.cl cc.built (by show 3 < 1000; decide) fun v4 H4 s4 e4 => ?_
  have has4 : Has av (upd H4 p (.ins C dx (putF "built" v4 (putF "plan" v3 (putF "leaves" v2 (putF "source" v1 [])))))) := ((((((has1.same s2).upd (c := p)).same s3).upd (c := p)).same s4).upd (c := p))
  refine sq_fld (R := Ks av CL CB []) (er_a has4 er_nilN) (er_v rfl) upd_same cc.cl cc.earlier (by show 4 < 1000; decide) fun v5 H5 s5 ⟨a5, u5, e5, m5, h5, w5⟩ => ?_
  obtain rfl : u5 = [] := by cases u5 with | nil => rfl | cons a b => exact w5.elim
  have n5 : a5 ≠ p := fun z => by
    have := s5 _ _ upd_same
    rw [← z, h5] at this
    cases this
  have has5 : Has av (upd H5 p (.ins C dx (putF "earlier" v5 (putF "built" v4 (putF "plan" v3 (putF "leaves" v2 (putF "source" v1 []))))))) := (has4.same s5).upd
  refine sr_fld (R := Ks av CL CB []) (er_a has5 er_nilN) (er_v rfl) upd_same cc.cl cc.later (by show 5 < 1000; decide) fun v6 H6 s6 ⟨a6, u6, e6, m6, h6, w6⟩ => ?_
  obtain rfl : u6 = [] := by cases u6 with | nil => rfl | cons a b => exact w6.elim
  have n6 : a6 ≠ p := fun z => by
    have := s6 _ _ upd_same
    rw [← z, h6] at this
    cases this
  subst e1 e2 e5 e6
  obtain rfl : v3 = .non := e3
  obtain rfl : v4 = .non := e4
  have g5 : H6 a5 = some (.lst []) := s6 _ _ (by rw [upd_ne n5]; exact h5)
  have g2 : H6 a2 = some (.lst []) := s6 _ _ (by rw [upd_ne n2]; exact s5 _ _ (by rw [upd_ne n2]; exact s4 _ _ (by rw [upd_ne n2]; exact s3 _ _ (by rw [upd_ne n2]; exact h2))))
  have g1 : H6 a1 = some (.tup [.int 0, .int 0]) := s6 _ _ (by rw [upd_ne n1]; exact s5 _ _ (by rw [upd_ne n1]; exact s4 _ _ (by rw [upd_ne n1]; exact s3 _ _ (by rw [upd_ne n1]; exact s2 _ _ (by rw [upd_ne n1]; exact h1)))))
  refine k _ (fun b o e nb => ?_) ⟨.ref a5, .ref a6, ⟨dx, _, .ref a1, .ref a2, .non, .non, upd_same, ?_, ?_, ?_, ?_, ?_, ?_, ?_, ⟨a1, rfl, by rw [upd_ne n1]; exact g1⟩, ⟨a2, [], rfl, m2, by rw [upd_ne n2]; exact g2, trivial⟩, rfl, rfl, (has5.same s6).upd⟩, ⟨a5, [], rfl, m5, by rw [upd_ne n5]; exact g5, trivial⟩, ⟨a6, [], rfl, m6, by rw [upd_ne n6]; exact h6, trivial⟩⟩
  · rw [upd_ne nb]
    refine s6 _ _ ?_
    rw [upd_ne nb]
    refine s5 _ _ ?_
    rw [upd_ne nb]
    refine s4 _ _ ?_
    rw [upd_ne nb]
    refine s3 _ _ ?_
    rw [upd_ne nb]
    refine s2 _ _ ?_
    rw [upd_ne nb]
    exact s1 _ _ e
  · show 6 < 100
    decide
  · rw [lk2 (by decide +kernel), lk2 (by decide +kernel), lk2 (by decide +kernel), lk2 (by decide +kernel), lk2 (by decide +kernel)]
    exact lk_put
  · rw [lk2 (by decide +kernel), lk2 (by decide +kernel), lk2 (by decide +kernel), lk2 (by decide +kernel)]
    exact lk_put
  · rw [lk2 (by decide +kernel), lk2 (by decide +kernel), lk2 (by decide +kernel)]
    exact lk_put
  · rw [lk2 (by decide +kernel), lk2 (by decide +kernel)]
    exact lk_put
  · rw [lk2 (by decide +kernel)]
    exact lk_put
  · exact lk_put
/-- Chip() -/
def IsNew (av : Addr → Prop) (C CL CB : Addr) : Rp := fun v H' => ∃ c, v = .ref c ∧ ChH av C CL CB c emp [] [] H'
instance {av : Addr → Prop} {C CL CB : Addr} : Mn (IsNew av C CL CB) := ⟨fun s ⟨c, e, h⟩ => ⟨c, e, h.mn s⟩⟩
theorem er_chip {av : Addr → Prop} {σ : L2.St} {H : Hp} {E : XK} (has : Has av H) : EvR (tMake C (sp_Chip C CL CB) [] E tNil) σ H (IsNew av C CL CB) := fun H1 s Q q => fun x dx nx nd ne =>
  ⟨av, x, dx, rfl, upd_same, ((has.same s).upd (c := dx)).upd, fun H' kp hc => ⟨rfl, q _ H' (Same.made nx nd kp) ⟨x, rfl, hc⟩⟩⟩
/-! new, undo, redo -/
abbrev Rs := PC → List PC → List PC → PC → List PC → List PC → List Int → Prop
def SpSt (C CL CB : Addr) (R : Rs) : Sp := fun vs H Q _ => ∃ av c X E L X' E' L' out, vs = [.ref c] ∧ ChH av C CL CB c X E L H ∧ R X E L X' E' L' out ∧ ∀ v H', Kp GC H H' → ChH av C CL CB c X' E' L' H' → IsLa av (out.map V.int) v H' → Q v H'
theorem spSt_len {R : Rs} : ∀ vs H Q E, SpSt C CL CB R vs H Q E → vs.length = 1 := fun vs H Q E ⟨av, c, X, _, _, _, _, _, _, e, _⟩ => by rw [e]; rfl
def rNew : Rs := fun X E L X' E' L' out => X' = emp ∧ E' = [] ∧ L' = [] ∧ out = [0]
def rUndo : Rs := fun X E L X' E' L' out => E.length ≤ 1000 ∧ L.length ≤ 1000 ∧ ((E = [] ∧ X' = X ∧ E' = E ∧ L' = L ∧ out = [-6]) ∨ ∃ E0 Y, E = E0 ++ [Y] ∧ X' = Y ∧ E' = E0 ∧ L' = L ++ [X] ∧ out = [(E0.length : Int)])
def rRedo : Rs := fun X E L X' E' L' out => E.length ≤ 1000 ∧ L.length ≤ 1000 ∧ ((L = [] ∧ X' = X ∧ E' = E ∧ L' = L ∧ out = [-6]) ∨ ∃ L0 Y, L = L0 ++ [Y] ∧ X' = Y ∧ E' = E ++ [X] ∧ L' = L0 ∧ out = [(L0.length : Int)])
theorem ok_answer_new (F : DefAt K mg "answer_new" s_answer_new P_answer_new) (T : Gt mg) (cc : ChipC K C) (c_state_of : Cal P w K mg base 1 "state_of" P_state_of (sp_state_of C CL CB)) (c_put_back : Cal P w K mg base 1 "put_back" P_put_back (sp_put_back C CL CB)) (m_Chip : MkC P w K mg base 1 "Chip" C P_Chip_init (sp_Chip C CL CB)) : Cal P w K mg base 3 "answer_new" P_answer_new (SpSt C CL CB rNew) := by
  refine F.ok sc_answer_new spSt_len (fun f cdv A outer s H vs Q E hr ⟨av, c, X, Es, L, X', E', L', out, e, ⟨ee, el, hc, he, hl⟩, ⟨e1, e2, e3, e4⟩, k⟩ => ⟨_,
    (pss_cons (ps_expr (pc c_put_back hr (pa_cons (pv 0) (pa_cons (pc c_state_of hr (pa_cons (pm0 m_Chip hr) pa_nil)) pa_nil))))
    (pss_cons (psf (K := K) rfl (pv 0) (pe_lst pa_nil) rfl)
    (pss_cons (psf (K := K) rfl (pv 0) (pe_lst pa_nil) rfl)
    (pss_one (ps_ret (pe_lst (pa_cons pe_int pa_nil))))))), ?_⟩)
  subst e e1 e2 e3 e4
  refine sq_dcall (Rs := [IsCh C CL CB c ⟨ee, el, av⟩ X, IsSt av CL CB emp]) (ea_cons (er_var rfl ⟨rfl, hc⟩) (ea_cons (fun H1 s1 Q q => ?_) ea_nil)) fun vs H1 s1 ha => ?_
  · refine ea_cons (R := IsNew av C CL CB) (H := H) (er_chip (C := C) (CL := CL) (CB := CB) hc.has) ea_nil H1 s1 _ fun vs H2 s2 ha => ?_
    obtain ⟨v, rfl, c2, ev, ch⟩ := alls1 ha
    obtain ⟨e2, l2, hc2, _, _⟩ := ch
    exact ⟨(⟨e2, l2, av⟩, c2, emp), trivial, ⟨⟨ev, hc2⟩, trivial⟩, fun v H3 s3 r => q v H3 (s2.trans s3) r⟩
  obtain ⟨u1, u2, rfl, ⟨r1, rc⟩, r2⟩ := alls2 ha
  refine ⟨⟨ee, el, av⟩, c, X, emp, u2, by rw [r1], rc, r2, fun v H2 k2 c2 => ?_⟩
  refine sq_earlier (R := Ks av CL CB []) c2 cc (er_a c2.has er_nilN) (er_v rfl) fun v3 H3 k3 r3 c3 => ?_
  refine sq_later (R := Ks av CL CB []) c3 cc (er_a c3.has er_nilN) (er_v rfl) fun v4 H4 k4 r4 c4 => ?_
  exact sr_ret (er_f1 er_c) fun v H5 s5 r => k v H5 ((Kp.of_same s1).trans (k2.trans (k3.trans (k4.trans (Kp.of_same s5))))) ⟨_, _, c4.mn s5, Mn.mn s5 (Mc.mc k4 r3), Mn.mn s5 r4⟩ (r.a c4.has)
theorem last_at {α : Type} (l : List α) (x : α) : (l ++ [x])[(l ++ [x]).length - 1]? = some x := by simp
theorem take_init {α : Type} (l : List α) (x : α) : (l ++ [x]).take ((l ++ [x]).length - 1) = l := by simp
theorem ok_answer_undo (F : DefAt K mg "answer_undo" s_answer_undo P_answer_undo) (T : Gt mg) (cc : ChipC K C) (c_state_of : Cal P w K mg base 1 "state_of" P_state_of (sp_state_of C CL CB)) (c_put_back : Cal P w K mg base 1 "put_back" P_put_back (sp_put_back C CL CB)) : Cal P w K mg base 2 "answer_undo" P_answer_undo (SpSt C CL CB rUndo) := by
  refine F.ok sc_answer_undo spSt_len (fun f cdv A outer s H vs Q E hr ⟨av, c, X, Es, L, X', E', L', out, e, ⟨ee, el, hc, he, hl⟩, ⟨z1, z2, hR⟩, k⟩ => ⟨_,
    (pss_cons (ps_if (pt_cmpR op_eq (pe_callB (lenK (K := K) rfl) rfl T.z_len PySem.boot_len (pa_cons (pf (K := K) rfl (pv 0) rfl) pa_nil)) pe_int (nomark _)) (pss_one (ps_ret (pe_lst (pa_cons (pgl T.g_NO_CHANGE) pa_nil)))) pss_nil)
    (pss_cons (psf (K := K) rfl (pv 0) (pe_op op_cat (pf (K := K) rfl (pv 0) rfl) (pe_lst (pa_cons (pc c_state_of hr (pa_cons (pv 0) pa_nil)) pa_nil))) rfl)
    (pss_cons (ps_expr (pc c_put_back hr (pa_cons (pv 0) (pa_cons (pe_ix (ixK (K := K) rfl) (pf (K := K) rfl (pv 0) rfl) (pe_un un_neg pe_int) (fun _ _ => rfl)) pa_nil))))
    (pss_cons (psf (K := K) rfl (pv 0) (pe_slice (sllK (K := K) rfl) (pf (K := K) rfl (pv 0) rfl) po_none (po_some (pe_un un_neg pe_int))) rfl)
    (pss_one (ps_ret (pe_lst (pa_cons (pe_callB (lenK (K := K) rfl) rfl T.z_len PySem.boot_len (pa_cons (pf (K := K) rfl (pv 0) rfl) pa_nil)) pa_nil)))))))), ?_⟩)
  subst e
  refine sq_ifr (et_test (er_eqI (er_lenL (er_earlier cc rfl hc he.ls)) er_c)) (fun d H1 s1 => ?_) fun d H1 s1 => ?_
  · have d : (Es.length : Int) = 0 := of_decide_eq_true d
    rcases hR with ⟨_, rfl, rfl, rfl, rfl⟩ | ⟨E0, Y, rfl, _⟩
    · exact sr_ret (er_f1 er_c) fun v H2 s2 r => k v H2 (Kp.of_same (s1.trans s2)) ⟨ee, el, hc.mn (s1.trans s2), Mn.mn (s1.trans s2) he, Mn.mn (s1.trans s2) hl⟩ (r.a (hc.has.same s1))
    · rw [List.length_append] at d
      exact absurd d (by show ¬ ((E0.length + 1 : Nat) : Int) = 0; omega)
  have d : ¬ (Es.length : Int) = 0 := of_decide_eq_false d
  rcases hR with ⟨o, _⟩ | ⟨E0, Y, rfl, rfl, rfl, rfl, rfl⟩
  · rw [o] at d
    exact absurd rfl d
  have hc1 := hc.mn s1
  have he1 : Ks av CL CB (E' ++ [X']) ee H1 := Mn.mn s1 he
  have hl1 : Ks av CL CB L el H1 := Mn.mn s1 hl
  refine sq_later (R := Ks av CL CB (L ++ [X])) hc1 cc (er_a hc1.has (er_new (er_later cc rfl hc1 hl1.ls) (er_lst1N (R := IsSt av CL CB) (er_call ((⟨ee, el, av⟩ : Eh), c, X) trivial (ea_cons (er_var rfl ⟨rfl, hc1⟩) ea_nil))) (by show L.length + 1 ≤ _; omega))) (er_v rfl) fun v2 H2 k2 r2 c2 => ?_
  have he2 : Ks av CL CB (E' ++ [X']) ee H2 := Mc.mc k2 he1
  refine sq_dcall (Rs := [IsCh C CL CB c ⟨ee, v2, av⟩ X, IsSt av CL CB X']) (ea_cons (er_var rfl ⟨rfl, c2⟩) (ea_cons (er_ixLast (er_earlier cc rfl c2 he2.ls) (last_at _ _)) ea_nil)) fun vs H3 s3 ha => ?_
  obtain ⟨u1, u2, rfl, ⟨r1, rc⟩, r3⟩ := alls2 ha
  refine ⟨⟨ee, v2, av⟩, c, X, X', u2, by rw [r1], rc, r3, fun v H4 k4 c4 => ?_⟩
  have k24 : Kp GC H2 H4 := (Kp.of_same s3).trans k4
  have he4 : Ks av CL CB (E' ++ [X']) ee H4 := Mc.mc k24 he2
  refine sq_earlier (R := Ks av CL CB E') c4 cc (er_a c4.has ((er_initN (er_earlier cc rfl c4 he4.ls) (eo_some (er_neg er_c))).to fun v H' _ r => by rw [take_init] at r; exact r)) (er_v rfl) fun v5 H5 k5 r5 c5 => ?_
  have r5' : Ks av CL CB (L ++ [X]) v2 H5 := Mc.mc (k24.trans k5) r2
  refine sr_ret (er_f1 (er_lenL (er_earlier cc rfl c5 r5.ls))) fun v H6 s6 r => k v H6 ((Kp.of_same s1).trans (k2.trans (k24.trans (k5.trans (Kp.of_same s6))))) ⟨_, _, c5.mn s6, Mn.mn s6 r5, Mn.mn s6 r5'⟩ (r.a c5.has)
theorem ok_answer_redo (F : DefAt K mg "answer_redo" s_answer_redo P_answer_redo) (T : Gt mg) (cc : ChipC K C) (c_state_of : Cal P w K mg base 1 "state_of" P_state_of (sp_state_of C CL CB)) (c_put_back : Cal P w K mg base 1 "put_back" P_put_back (sp_put_back C CL CB)) : Cal P w K mg base 2 "answer_redo" P_answer_redo (SpSt C CL CB rRedo) := by
  refine F.ok sc_answer_redo spSt_len (fun f cdv A outer s H vs Q E hr ⟨av, c, X, Es, L, X', E', L', out, e, ⟨ee, el, hc, he, hl⟩, ⟨z1, z2, hR⟩, k⟩ => ⟨_,
    (pss_cons (ps_if (pt_cmpR op_eq (pe_callB (lenK (K := K) rfl) rfl T.z_len PySem.boot_len (pa_cons (pf (K := K) rfl (pv 0) rfl) pa_nil)) pe_int (nomark _)) (pss_one (ps_ret (pe_lst (pa_cons (pgl T.g_NO_CHANGE) pa_nil)))) pss_nil)
    (pss_cons (psf (K := K) rfl (pv 0) (pe_op op_cat (pf (K := K) rfl (pv 0) rfl) (pe_lst (pa_cons (pc c_state_of hr (pa_cons (pv 0) pa_nil)) pa_nil))) rfl)
    (pss_cons (ps_expr (pc c_put_back hr (pa_cons (pv 0) (pa_cons (pe_ix (ixK (K := K) rfl) (pf (K := K) rfl (pv 0) rfl) (pe_un un_neg pe_int) (fun _ _ => rfl)) pa_nil))))
    (pss_cons (psf (K := K) rfl (pv 0) (pe_slice (sllK (K := K) rfl) (pf (K := K) rfl (pv 0) rfl) po_none (po_some (pe_un un_neg pe_int))) rfl)
    (pss_one (ps_ret (pe_lst (pa_cons (pe_callB (lenK (K := K) rfl) rfl T.z_len PySem.boot_len (pa_cons (pf (K := K) rfl (pv 0) rfl) pa_nil)) pa_nil)))))))), ?_⟩)
  subst e
  refine sq_ifr (et_test (er_eqI (er_lenL (er_later cc rfl hc hl.ls)) er_c)) (fun d H1 s1 => ?_) fun d H1 s1 => ?_
  · have d : (L.length : Int) = 0 := of_decide_eq_true d
    rcases hR with ⟨_, rfl, rfl, rfl, rfl⟩ | ⟨E0, Y, rfl, _⟩
    · exact sr_ret (er_f1 er_c) fun v H2 s2 r => k v H2 (Kp.of_same (s1.trans s2)) ⟨ee, el, hc.mn (s1.trans s2), Mn.mn (s1.trans s2) he, Mn.mn (s1.trans s2) hl⟩ (r.a (hc.has.same s1))
    · rw [List.length_append] at d
      exact absurd d (by show ¬ ((E0.length + 1 : Nat) : Int) = 0; omega)
  have d : ¬ (L.length : Int) = 0 := of_decide_eq_false d
  rcases hR with ⟨o, _⟩ | ⟨L0, Y, rfl, rfl, rfl, rfl, rfl⟩
  · rw [o] at d
    exact absurd rfl d
  have hc1 := hc.mn s1
  have he1 : Ks av CL CB Es ee H1 := Mn.mn s1 he
  have hl1 : Ks av CL CB (L' ++ [X']) el H1 := Mn.mn s1 hl
  refine sq_earlier (R := Ks av CL CB (Es ++ [X])) hc1 cc (er_a hc1.has (er_new (er_earlier cc rfl hc1 he1.ls) (er_lst1N (R := IsSt av CL CB) (er_call ((⟨ee, el, av⟩ : Eh), c, X) trivial (ea_cons (er_var rfl ⟨rfl, hc1⟩) ea_nil))) (by show Es.length + 1 ≤ _; omega))) (er_v rfl) fun v2 H2 k2 r2 c2 => ?_
  have hl2 : Ks av CL CB (L' ++ [X']) el H2 := Mc.mc k2 hl1
  refine sq_dcall (Rs := [IsCh C CL CB c ⟨v2, el, av⟩ X, IsSt av CL CB X']) (ea_cons (er_var rfl ⟨rfl, c2⟩) (ea_cons (er_ixLast (er_later cc rfl c2 hl2.ls) (last_at _ _)) ea_nil)) fun vs H3 s3 ha => ?_
  obtain ⟨u1, u2, rfl, ⟨r1, rc⟩, r3⟩ := alls2 ha
  refine ⟨⟨v2, el, av⟩, c, X, X', u2, by rw [r1], rc, r3, fun v H4 k4 c4 => ?_⟩
  have k24 : Kp GC H2 H4 := (Kp.of_same s3).trans k4
  have hl4 : Ks av CL CB (L' ++ [X']) el H4 := Mc.mc k24 hl2
  refine sq_later (R := Ks av CL CB L') c4 cc (er_a c4.has ((er_initN (er_later cc rfl c4 hl4.ls) (eo_some (er_neg er_c))).to fun v H' _ r => by rw [take_init] at r; exact r)) (er_v rfl) fun v5 H5 k5 r5 c5 => ?_
  have r5' : Ks av CL CB (Es ++ [X]) v2 H5 := Mc.mc (k24.trans k5) r2
  refine sr_ret (er_f1 (er_lenL (er_later cc rfl c5 r5.ls))) fun v H6 s6 r => k v H6 ((Kp.of_same s1).trans (k2.trans (k24.trans (k5.trans (Kp.of_same s6))))) ⟨_, _, c5.mn s6, Mn.mn s6 r5', Mn.mn s6 r5⟩ (r.a c5.has)
def rSt (p : Int) : Rs := fun X E L X' E' L' out => (p = 0 ∧ rNew X E L X' E' L' out) ∨ (p = 10 ∧ rUndo X E L X' E' L' out) ∨ (p = 11 ∧ rRedo X E L X' E' L' out)
def SpSc (C CL CB : Addr) : Sp := fun vs H Q _ => ∃ av c p X E L X' E' L' out, vs = [.ref c, .int p] ∧ ChH av C CL CB c X E L H ∧ rSt p X E L X' E' L' out ∧ ∀ v H', Kp GC H H' → ChH av C CL CB c X' E' L' H' → IsLa av (out.map V.int) v H' → Q v H'
theorem ok_answer_state (F : DefAt K mg "answer_state" s_answer_state P_answer_state) (T : Gt mg) (c_answer_new : Cal P w K mg base 3 "answer_new" P_answer_new (SpSt C CL CB rNew)) (c_answer_undo : Cal P w K mg base 2 "answer_undo" P_answer_undo (SpSt C CL CB rUndo)) (c_answer_redo : Cal P w K mg base 2 "answer_redo" P_answer_redo (SpSt C CL CB rRedo)) : Cal P w K mg base 4 "answer_state" P_answer_state (SpSc C CL CB) := by
  refine F.ok sc_answer_state (fun vs H Q E ⟨av, c, p, _, _, _, _, _, _, _, e, _⟩ => by rw [e]; rfl) (fun f cdv A outer s H vs Q E hr ⟨av, c, p, X, Es, L, X', E', L', out, e, hc, hR, k⟩ => ⟨_,
    (pss_cons (ps_if (pt_cmpR op_eq (pv 1) (pgl T.g_NEW) (nomark _)) (pss_one (ps_ret (pc c_answer_new hr (pa_cons (pv 0) pa_nil)))) pss_nil)
    (pss_cons (ps_if (pt_cmpR op_eq (pv 1) (pgl T.g_UNDO) (nomark _)) (pss_one (ps_ret (pc c_answer_undo hr (pa_cons (pv 0) pa_nil)))) pss_nil)
    (pss_one (ps_ret (pc c_answer_redo hr (pa_cons (pv 0) pa_nil)))))), ?_⟩)
  subst e
  have go : ∀ {R : Rs} {H1 : Hp}, Same H H1 → R X Es L X' E' L' out → ∀ vs H2, Same H1 H2 → Alls [IsV (.ref c)] vs H2 → SpSt C CL CB R vs H2 Q E0 := fun s1 r vs H2 s2 ha => by
    obtain ⟨u, rfl, eu⟩ := alls1 ha
    exact ⟨av, c, X, Es, L, X', E', L', out, by rw [show u = _ from eu], hc.mn (s1.trans s2), r, fun v H' kp => k v H' ((Kp.of_same (s1.trans s2)).trans kp)⟩
  refine sq_ifr (et_test (er_eqI (er_v rfl) er_c)) (fun d H1 s1 => ?_) fun d H1 s1 => ?_
  · have d : p = 0 := of_decide_eq_true d
    rcases hR with ⟨_, r⟩ | ⟨o, _⟩ | ⟨o, _⟩
    · exact sr_rcall (Rs := [IsV (.ref c)]) (ea_cons (er_v rfl) ea_nil) (go s1 r)
    · omega
    · omega
  have d : ¬ p = 0 := of_decide_eq_false d
  refine sq_ifr (et_test (er_eqI (er_v rfl) er_c)) (fun d2 H2 s2 => ?_) fun d2 H2 s2 => ?_
  · have d2 : p = 10 := of_decide_eq_true d2
    rcases hR with ⟨o, _⟩ | ⟨_, r⟩ | ⟨o, _⟩
    · omega
    · exact sr_rcall (Rs := [IsV (.ref c)]) (ea_cons (er_v rfl) ea_nil) (go (s1.trans s2) r)
    · omega
  have d2 : ¬ p = 10 := of_decide_eq_false d2
  rcases hR with ⟨o, _⟩ | ⟨o, _⟩ | ⟨_, r⟩
  · omega
  · omega
  · exact sr_rcall (Rs := [IsV (.ref c)]) (ea_cons (er_v rfl) ea_nil) (go (s1.trans s2) r)
end
end Clk
set_option Elab.async false
set_option maxRecDepth 100000
set_option maxHeartbeats 4000000
set_option linter.all false
set_option autoImplicit false
namespace Clk
open PySem PySem.Spec PyProof.Rows L2
open CM (LD OD BD PC WD)
structure WireC (K : PySem.W.Frag) (C : Addr) : Prop where
  cl : Cls K C
  length : NoAttr K C "length"
  span : NoAttr K C "span"
  needs : NoAttr K C "needs"
def wdF (l s n : V) : List (Str × V) := [("length", l), ("span", s), ("needs", n)]
theorem wd_length {l s n : V} : (wdF l s n).lookup ("length" : Str) = some l := lkH
theorem wd_span {l s n : V} : (wdF l s n).lookup ("span" : Str) = some s := lkP (by decide +kernel) lkH
theorem wd_needs {l s n : V} : (wdF l s n).lookup ("needs" : Str) = some n := lkP (by decide +kernel) (lkP (by decide +kernel) lkH)
theorem wd_none {l s n : V} : (wdF l s n).lookup ("source" : Str) = none := lkP (by decide +kernel) (lkP (by decide +kernel) (lkP (by decide +kernel) lkN))
def IsWd (C : Addr) (x : WD) : Rp := fun v H => ∃ a dx, v = .ref a ∧ H a = some (.ins C dx (wdF (.int x.length) (.int x.span) (.int (x.needs : Int))))
instance {C : Addr} {x : WD} : Mg (IsWd C x) := ⟨fun k ⟨a, dx, e, h⟩ => ⟨a, dx, e, k _ _ h (Gd.ins _ _ _ wd_none)⟩⟩
section
variable {K : PySem.W.Frag} {C : Addr} {x : WD}
theorem f_length (c : WireC K C) : Fld K (IsWd C x) "length" (IsI x.length) := fun v H ⟨a, dx, e, h⟩ => ⟨a, C, dx, _, _, e, h, c.cl, c.length, wd_length, rfl⟩
theorem f_span (c : WireC K C) : Fld K (IsWd C x) "span" (IsI x.span) := fun v H ⟨a, dx, e, h⟩ => ⟨a, C, dx, _, _, e, h, c.cl, c.span, wd_span, rfl⟩
theorem f_wneeds (c : WireC K C) : Fld K (IsWd C x) "needs" (IsN x.needs) := fun v H ⟨a, dx, e, h⟩ => ⟨a, C, dx, _, _, e, h, c.cl, c.needs, wd_needs, rfl⟩
end
section
variable {P : Program} {w : World} {K : PySem.W.Frag} {mg : Str → Option Value} {base : Heap} {C CL CO CB CW : Addr}
abbrev s_Wire_init : Stmt := inClass (top 82) 0
abbrev N_Wire_init : List Str := ["self", "length", "span", "needs"]
abbrev P_Wire_init : List Str := ["self", "length", "span", "needs"]
theorem sc_Wire_init : FnScope N_Wire_init P_Wire_init (defScope s_Wire_init) := ⟨rfl, rfl, rfl, by decide +kernel, rfl, by decide +kernel, by decide +kernel⟩
def mkWd : List V → List (Str × V)
  | [l, s, n] => wdF l s n
  | _ => []
def sp_Wire (C : Addr) : Sp := SpInit C (fun as => as.length = 3) mkWd
theorem ok_Wire (F : ClsAt K mg "Wire" "Wire.__init__" CW s_Wire_init P_Wire_init) (c : WireC K CW) : MkC P w K mg base 1 "Wire" CW P_Wire_init (sp_Wire CW) := by
  refine F.ok sc_Wire_init (fun vs H Q E ⟨p, dx, as, e, h, _⟩ => by rw [e, List.length_cons, h]; rfl) (fun f cdv A outer s H vs Q E hr ⟨p, dx, as, e, hl, hp, k⟩ => ⟨_,
    (pss_cons (psf (K := K) rfl (pv 0) (pv 1) rfl)
    (pss_cons (psf (K := K) rfl (pv 0) (pv 2) rfl)
    (pss_one (psf (K := K) rfl (pv 0) (pv 3) rfl)))), ?_⟩)
  obtain ⟨x, y, z, rfl⟩ := list3 hl
  subst e
  refine ⟨_, rfl, _, rfl, p, CW, dx, _, rfl, hp, c.cl, c.length, (by decide : 0 < 1000), ?_⟩
  refine ⟨_, rfl, _, rfl, p, CW, dx, _, rfl, upd_same, c.cl, c.span, (by show 1 < 1000; decide), ?_⟩
  refine ⟨_, rfl, _, rfl, p, CW, dx, _, rfl, upd_same, c.cl, c.needs, (by show 2 < 1000; decide), ?_⟩
  refine k _ ?_ fun b o e nb => by
    rw [upd_ne nb, upd_ne nb, upd_ne nb]
    exact e
  rw [upd_same]
  exact congrArg (fun q => some (HO.ins CW dx q)) (ptP (by decide +kernel) (ptP (by decide +kernel) ptN))
/-- Wire(..) -/
theorem er_wd {σ : L2.St} {H : Hp} {C : Addr} {E : XK} {t : TA} (x : WD) (h : EvA t σ H [IsI x.length, IsI x.span, IsN x.needs]) : EvR (tMake C (sp_Wire C) [] E t) σ H (IsWd C x) :=
  er_make h (fun vs H1 r => r.length) fun vs H1 z dx _ r hx => by
    obtain ⟨v1, v2, v3, rfl, r1, r2, r3⟩ := alls3 r
    obtain rfl : v1 = .int x.length := r1
    obtain rfl : v2 = .int x.span := r2
    obtain rfl : v3 = .int (x.needs : Int) := r3
    exact ⟨z, dx, rfl, hx⟩
abbrev s_needs_of_all : Stmt := top 83
abbrev N_needs_of_all : List Str := ["built", "leaves", "needs", "pair", "leaf"]
abbrev P_needs_of_all : List Str := ["built", "leaves"]
theorem sc_needs_of_all : FnScope N_needs_of_all P_needs_of_all (defScope s_needs_of_all) := ⟨rfl, rfl, rfl, by decide +kernel, rfl, by decide +kernel, by decide +kernel⟩
def sp_needs_of_all (CL CB : Addr) : Sp := SpOf (ι := BD × List LD) (fun i => i.2.length = i.1.pairs.length + 1 ∧ i.2.length ≤ 100 ∧ CM.okPairs i.2.length i.1.pairs) (fun i => [IsBt CB i.1, LstOf (IsLf CL) i.2]) (fun i => LstOf IsN (CM.nds i.1 i.2 i.1.pairs.length))
theorem ok_needs_of_all (F : DefAt K mg "needs_of_all" s_needs_of_all P_needs_of_all) (T : Gs mg) (cL : LeafC K CL) (c : BuiltC K CB) : Cal P w K mg base 1 "needs_of_all" P_needs_of_all (sp_needs_of_all CL CB) := by
  refine F.ok sc_needs_of_all (spOf_len fun _ => rfl) (fun f cdv A outer s H vs Q E hr ⟨⟨b, ls⟩, ⟨hn, hz, hok⟩, ha, kk⟩ => ⟨_,
    (pss_cons (ps_setLc (own := [("leaf", 4)]) (g := gName 4) (tt := tYes) (i := 2) rfl sc_needs_of_all.nd rfl rfl (sw_true rfl rfl rfl (by decide +kernel)) (piL (K := K) rfl (pv 1)) (blkOk_by (own := [("leaf", 4)]) (N := N_needs_of_all) (sc := defScope s_needs_of_all) (by decide +kernel)) (fun _ _ _ _ _ => (pg_name (i := 4) sc_needs_of_all.nd rfl (Or.inl rfl))) (fun _ _ _ _ _ => pts_nil) (fun _ _ _ _ _ => (pf (K := K) rfl (pv 4) rfl)))
    (pss_cons (ps_for PassesOwn.never rfl (piT (K := K) rfl (pf (K := K) rfl (pv 0) rfl)) (pg_name (i := 3) sc_needs_of_all.nd rfl (Or.inl rfl))
      (pss_one (ps_expr (pbm (K := K) (T := "list") rfl (pe_bm PySem.F.plainAttrs_list PySem.F.slot_list_append PySem.F.type_list_append mt_append (pv 2) (pa_cons (pe_op op_or (pe_ix (ixK (K := K) rfl) (pv 2) (pe_ix (ixK (K := K) rfl) (pv 3) pe_int (fun _ _ => rfl)) (fun _ _ => rfl)) (pe_ix (ixK (K := K) rfl) (pv 2) (pe_ix (ixK (K := K) rfl) (pv 3) pe_int (fun _ _ => rfl)) (fun _ _ => rfl))) pa_nil))))))
    (pss_one (ps_ret (pv 2))))), ?_⟩)
  obtain ⟨v1, v2, rfl, h1, h2⟩ := alls2 (show Alls [IsBt CB b, LstOf (IsLf CL) ls] vs H from ha)
  have hn : ls.length = b.pairs.length + 1 := hn
  have hz : ls.length ≤ 100 := hz
  have hok : CM.okPairs ls.length b.pairs := hok
  refine sq_lcLA (R := IsLf CL) (R' := IsN) (ys := CM.nds b ls 0) (er_var rfl h2) (by rw [CM.nds_len]; rfl) (by omega) (fun _ => rfl) (fun i x y v H2 hx hy s2 rv => ?_) fun l H2 a2 => ?_
  · rw [CM.nds_zero, List.getElem?_map, hx] at hy
    obtain rfl := Option.some.inj hy
    exact er_fld (er_var rfl rv) (f_need cL)
  refine sq_forT (R := IsPs b.pairs) (er_fld (er_var rfl (Mn.mn a2.same h1)) (f_pairs c)) fun v H3 s4 ⟨a, us, ev, hu, r⟩ => ⟨a, us, ev, hu, fun i σ' H' => Kp GF H3 H' ∧ Acc IsN H l (CM.nds b ls i) H' ∧ ∃ x, σ' = [some v1, some v2, some (.ref l), x, none],
    ⟨Kp.of_same (Same.refl _), a2.grow s4, _, rfl⟩, fun i σ' H' _ p => p.1 _ _ hu trivial, ?_, ?_⟩
  · rintro i x σ' H' hx ⟨kp, acc, y, rfl⟩
    obtain ⟨p, hp, rp⟩ := r.getV hx
    have il : i < b.pairs.length := (List.getElem?_eq_some_iff.mp hp).1
    have ob := hok i p hp
    have gp : b.pairs.getD i (0, 0) = p := by rw [List.getD, hp]; rfl
    have hP : IsPr p x H' := Mg.mg kp rp
    obtain ⟨us5, hu5, he5⟩ := acc.lst
    have nl := CM.nds_len b ls i
    have hNs : LstOf IsN (CM.nds b ls i) (.ref l) H' := ⟨l, us5, rfl, hu5, he5⟩
    have g1 : (CM.nds b ls i)[p.1]? = some ((CM.nds b ls i).getD p.1 0) := CM.getD_at (by omega)
    have g2 : (CM.nds b ls i)[p.2]? = some ((CM.nds b ls i).getD p.2 0) := CM.getD_at (by omega)
    refine sr_app (R := IsN ((CM.nds b ls i).getD p.1 0 ||| (CM.nds b ls i).getD p.2 0)) (er_i (er_I0 (er_ixL (Q := IsN) (j := p.1) (er_var rfl hNs) (er_ixV (j := 0) (er_var rfl hP) er_c rfl rfl) rfl g1) (er_ixL (Q := IsN) (j := p.2) (er_var rfl hNs) (er_ixV (j := 1) (er_var rfl hP) er_c rfl rfl) rfl g2)) ?_) (er_v rfl) hu5 (by rw [he5.length]; omega) fun u H6 s6 r6 => ?_
    · rw [Bits.bitOr_pp (by omega) (by omega), Int.toNat_natCast, Int.toNat_natCast]
    refine ⟨kp.trans ((Kp.of_same s6).trans (kp_lst (s6 _ _ hu5))), ?_, _, rfl⟩
    rw [CM.nds_succ, gp]
    exact acc.snoc s6 (s6 _ _ hu5) r6
  · rintro σ' H' ⟨kp, acc, y, rfl⟩
    rw [r.length] at acc
    obtain ⟨us5, hu5, he5⟩ := acc.lst
    exact sr_ret (er_var (R := LstOf IsN (CM.nds b ls b.pairs.length)) rfl ⟨l, us5, rfl, hu5, he5⟩) fun v' H6 s6 e => kk v' H6 (acc.same.trans s6) e
abbrev s_wires_of : Stmt := top 84
abbrev N_wires_of : List Str := ["built", "leaves", "source", "places", "needs", "wires", "at", "pair", "side", "length"]
abbrev P_wires_of : List Str := ["built", "leaves", "source"]
theorem sc_wires_of : FnScope N_wires_of P_wires_of (defScope s_wires_of) := ⟨rfl, rfl, rfl, by decide +kernel, rfl, by decide +kernel, by decide +kernel⟩
def okBd (ls : List LD) (b : BD) : Prop := ls.length = b.pairs.length + 1 ∧ ls.length ≤ 100 ∧ CM.okPairs ls.length b.pairs ∧ b.places.length = b.pairs.length ∧ b.wires.length = b.pairs.length
theorem sn2 {α : Type} (l : List α) (x y : α) : l ++ [x, y] = (l ++ [x]) ++ [y] := by simp
def sp_wires_of (CL CB CW : Addr) : Sp := SpOf (ι := BD × List LD × Pl) (fun i => okBd i.2.1 i.1) (fun i => [IsBt CB i.1, LstOf (IsLf CL) i.2.1, IsPl i.2.2]) (fun i => LstOf (IsWd CW) (CM.wrsAll i.1 i.2.1 i.2.2))
theorem ok_wires_of (F : DefAt K mg "wires_of" s_wires_of P_wires_of) (T : Gs mg) (c : BuiltC K CB) (c_places_of_all : Cal P w K mg base 1 "places_of_all" P_places_of_all (sp_places_of_all CL CB)) (c_needs_of_all : Cal P w K mg base 1 "needs_of_all" P_needs_of_all (sp_needs_of_all CL CB)) (c_apart : Cal P w K mg base 1 "apart" P_apart sp_apart) (m_Wire : MkC P w K mg base 1 "Wire" CW P_Wire_init (sp_Wire CW)) : Cal P w K mg base 3 "wires_of" P_wires_of (sp_wires_of CL CB CW) := by
  refine F.ok sc_wires_of (spOf_len fun _ => rfl) (fun f cdv A outer s H vs Q E hr ⟨⟨b, ls, src⟩, hpre, ha, kk⟩ => ⟨_,
    (pss_cons (ps_set (i := 3) sc_wires_of.nd rfl (Or.inl rfl) (pc c_places_of_all hr (pa_cons (pv 0) (pa_cons (pv 1) pa_nil))))
    (pss_cons (ps_set (i := 4) sc_wires_of.nd rfl (Or.inl rfl) (pc c_needs_of_all hr (pa_cons (pv 0) (pa_cons (pv 1) pa_nil))))
    (pss_cons (ps_set (i := 5) sc_wires_of.nd rfl (Or.inl rfl) (pe_lst (pa_cons (pm m_Wire hr (pa_cons (pf (K := K) rfl (pv 0) rfl) (pa_cons (pc c_apart hr (pa_cons (pv 2) (pa_cons (pe_ix (ixK (K := K) rfl) (pv 3) (pe_un un_neg pe_int) (fun _ _ => rfl)) pa_nil))) (pa_cons (pe_ix (ixK (K := K) rfl) (pv 4) (pe_un un_neg pe_int) (fun _ _ => rfl)) pa_nil)))) pa_nil)))
    (pss_cons (ps_for PassesOwn.never rfl (piET (K := K) rfl rfl T.z_enumerate (pa_cons (pf (K := K) rfl (pv 0) rfl) pa_nil)) (pgT (K := K) (n := 2) rfl rfl (pgs_cons (pg_name (i := 6) sc_wires_of.nd rfl (Or.inl rfl)) (pgs_cons (pg_name (i := 7) sc_wires_of.nd rfl (Or.inl rfl)) pgs_nil)))
      (pss_one (ps_for PassesOwn.never rfl (piZ (K := K) rfl rfl T.z_zip (pa_cons (pv 7) (pa_cons (pe_ix (ixK (K := K) rfl) (pf (K := K) rfl (pv 0) rfl) (pv 6) (fun _ _ => rfl)) pa_nil))) (pgT (K := K) (n := 2) rfl rfl (pgs_cons (pg_name (i := 8) sc_wires_of.nd rfl (Or.inl rfl)) (pgs_cons (pg_name (i := 9) sc_wires_of.nd rfl (Or.inl rfl)) pgs_nil)))
      (pss_one (ps_expr (pbm (K := K) (T := "list") rfl (pe_bm PySem.F.plainAttrs_list PySem.F.slot_list_append PySem.F.type_list_append mt_append (pv 5) (pa_cons (pm m_Wire hr (pa_cons (pv 9) (pa_cons (pc c_apart hr (pa_cons (pe_ix (ixK (K := K) rfl) (pf (K := K) rfl (pv 0) rfl) (pv 6) (fun _ _ => rfl)) (pa_cons (pe_ix (ixK (K := K) rfl) (pv 3) (pv 8) (fun _ _ => rfl)) pa_nil))) (pa_cons (pe_ix (ixK (K := K) rfl) (pv 4) (pv 8) (fun _ _ => rfl)) pa_nil)))) pa_nil))))))))
    (pss_one (ps_ret (pv 5))))))), ?_⟩)
  obtain ⟨v1, v2, v3, rfl, h1, h2, h3⟩ := alls3 (show Alls [IsBt CB b, LstOf (IsLf CL) ls, IsPl src] vs H from ha)
  obtain ⟨hn, hz, hok, hpl, hwl⟩ := (show okBd ls b from hpre)
  refine sq_asg (er_call (b, ls) (show b.places.length + ls.length ≤ 1000 by omega) (ea_cons (er_var rfl (bs_of_bt h1)) (ea_cons (er_var rfl h2) ea_nil))) fun v4 H1 s1 r4 => ?_
  have r4 : LstOf IsPl (CM.allPl b ls) v4 H1 := r4
  have al : (CM.allPl b ls).length = ls.length + b.pairs.length := by unfold CM.allPl; rw [List.length_append, List.length_map, hpl]
  refine sq_asg (er_call (b, ls) ⟨hn, hz, hok⟩ (ea_cons (er_var rfl (Mn.mn s1 h1)) (ea_cons (er_var rfl (Mn.mn s1 h2)) ea_nil))) fun v5 H2 s2 r5 => ?_
  have r5 : LstOf IsN (CM.nds b ls b.pairs.length) v5 H2 := r5
  have nl := CM.nds_len b ls b.pairs.length
  have s12 := s1.trans s2
  have gl1 : (CM.allPl b ls)[(CM.allPl b ls).length - 1]? = some ((CM.allPl b ls).getD ((CM.allPl b ls).length - 1) CM.pl0) := CM.getD_at (by omega)
  have gl2 : (CM.nds b ls b.pairs.length)[(CM.nds b ls b.pairs.length).length - 1]? = some ((CM.nds b ls b.pairs.length).getD ((CM.nds b ls b.pairs.length).length - 1) 0) := CM.getD_at (by omega)
  have a4 : LstOf IsPl (CM.allPl b ls) v4 H2 := Mn.mn s2 r4
  -- wires = [Wire(..)]
  have first : EvR (tLst (tCons (tMake CW (sp_Wire CW) [] E0 (tCons (tFld K (tVar 0) "trunk") (tCons (tCall sp_apart [] E0 (tCons (tVar 2) (tCons (tOp (rIx K) (tVar 3) (tUn (rU fun i => .int (-i)) (tC (.int 1)))) tNil))) (tCons (tOp (rIx K) (tVar 4) (tUn (rU fun i => .int (-i)) (tC (.int 1)))) tNil)))) tNil)) [some v1, some v2, some v3, some v4, some v5, none, none, none, none, none] H2 (fun v H' => ∃ l, v = .ref l ∧ Acc (IsWd CW) H2 l (CM.wrs b ls src 0) H') := by
    refine er_lst (ea_cons (R := IsWd CW (CM.wd0 b ls src)) (er_wd (CM.wd0 b ls src) (ea_cons (er_fld (er_var rfl (Mn.mn s12 h1)) (f_trunk c)) (ea_cons (er_call (src, (CM.allPl b ls).getD ((CM.allPl b ls).length - 1) CM.pl0) trivial (ea_cons (er_var rfl (Mn.mn s12 h3)) (ea_cons (er_ixLast (er_var rfl a4) gl1) ea_nil))) (ea_cons (er_ixLast (Q := IsN) (er_var rfl r5) gl2) ea_nil)))) ea_nil) (by simp) fun v vs a H' e h' ⟨H0, s0, n0, r, e'⟩ => ?_
    obtain ⟨u1, rfl, r1⟩ := alls1 r
    subst e'
    have sn := same_new n0 (.lst [u1])
    exact ⟨a, e, s0.free n0, s0.trans sn, [u1], upd_same, Mn.mn sn r1, trivial⟩
  refine sq_asg first fun v6 H3 s3 ⟨l, e6, acc0⟩ => ?_
  subst e6
  refine sq_forEnT (R := IsPs b.pairs) (er_fld (er_var rfl (Mn.mn (s12.trans s3) h1)) (f_pairs c)) fun v H4 s4 ⟨a, us, ev, hu, r⟩ => ⟨a, us, ev, hu, fun i σ' H' => Kp GF H4 H' ∧ Acc (IsWd CW) H2 l (CM.wrs b ls src i) H' ∧ ∃ x6 x7 x8 x9, σ' = [some v1, some v2, some v3, some v4, some v5, some (.ref l), x6, x7, x8, x9],
    ⟨Kp.of_same (Same.refl _), acc0.grow s4, _, _, _, _, rfl⟩, fun i σ' H' _ p => p.1 _ _ hu trivial, ?_, ?_⟩
  · rintro i x T' σ' H' hx ⟨kp, acc, x6, x7, x8, x9, rfl⟩ hT
    obtain ⟨p, hp, rp⟩ := r.getV hx
    have il : i < b.pairs.length := (List.getElem?_eq_some_iff.mp hp).1
    have ob := hok i p hp
    have gp : b.pairs.getD i (0, 0) = p := by rw [List.getD, hp]; rfl
    have sT := same_new hT (.tup [.int (i : Nat), x])
    have accT := acc.grow sT
    have gpl : b.places[i]? = some (b.places.getD i CM.pl0) := CM.getD_at (by omega)
    have gw : b.wires[i]? = some (b.wires.getD i (0, 0)) := CM.getD_at (by omega)
    generalize hq : b.wires.getD i (0, 0) = wr at gw
    refine g_pair upd_same ?_
    have hP : IsPr p x (upd H' T' (.tup [.int (i : Nat), x])) := Mn.mn sT (Mg.mg kp rp)
    have hB : IsBt CB b v1 (upd H' T' (.tup [.int (i : Nat), x])) := Mn.mn (s12.trans accT.same) h1
    have wl := CM.wrs_len b ls src i
    -- one wire
    have one : ∀ (k : Nat) (len : Int) (L : List WD) (H6 H7 : Hp) (D : Ends) (y8 y9 : Option V), k < ls.length + b.pairs.length → L.length ≤ 300 → Acc (IsWd CW) H2 l L H6 → Same H6 H7 → (∀ H8, Kp GF H7 H8 → Acc (IsWd CW) H2 l (L ++ [⟨len, Lr71.far (b.places.getD i CM.pl0) ((CM.allPl b ls).getD k CM.pl0), (CM.nds b ls b.pairs.length).getD k 0⟩]) H8 → D.nx [some v1, some v2, some v3, some v4, some v5, some (.ref l), some (.int (i : Int)), some x, some (.int (k : Int)), some (.int len)] H8) →
        tDrop (tBM K "list" rAppend (tVar 5) (tCons (tMake CW (sp_Wire CW) [] E0 (tCons (tVar 9) (tCons (tCall sp_apart [] E0 (tCons (tOp (rIx K) (tFld K (tVar 0) "places") (tVar 6)) (tCons (tOp (rIx K) (tVar 3) (tVar 8)) tNil))) (tCons (tOp (rIx K) (tVar 4) (tVar 8)) tNil)))) tNil)) D [some v1, some v2, some v3, some v4, some v5, some (.ref l), some (.int (i : Int)), some x, some (.int (k : Int)), some (.int len)] H7 := by
      intro k len L H6 H7 D y8 y9 hk hL ac s7 go
      have ac7 := ac.grow s7
      obtain ⟨us5, hu5, he5⟩ := ac7.lst
      have g1 : (CM.allPl b ls)[k]? = some ((CM.allPl b ls).getD k CM.pl0) := CM.getD_at (by omega)
      have g2 : (CM.nds b ls b.pairs.length)[k]? = some ((CM.nds b ls b.pairs.length).getD k 0) := CM.getD_at (by omega)
      refine sr_app (R := IsWd CW ⟨len, Lr71.far (b.places.getD i CM.pl0) ((CM.allPl b ls).getD k CM.pl0), (CM.nds b ls b.pairs.length).getD k 0⟩) (er_wd _ (ea_cons (er_v rfl) (ea_cons (er_call (b.places.getD i CM.pl0, (CM.allPl b ls).getD k CM.pl0) trivial (ea_cons (er_ixT (Q := IsPl) (j := i) (er_fld (er_var rfl (Mn.mn (s12.trans ac7.same) h1)) (f_places c)) (er_v rfl) rfl gpl) (ea_cons (er_ixL (Q := IsPl) (j := k) (er_var rfl (Mn.mn ac7.same a4)) (er_v rfl) rfl g1) ea_nil))) (ea_cons (er_ixL (Q := IsN) (j := k) (er_var rfl (Mn.mn ac7.same r5)) (er_v rfl) rfl g2) ea_nil)))) (er_v rfl) hu5 (by rw [he5.length]; omega) fun u H8 s8 r8 => ?_
      exact go _ ((Kp.of_same s8).trans (kp_lst (s8 _ _ hu5))) (ac7.snoc s8 (s8 _ _ hu5) r8)
    show tFor _ _ _ _ _ _
    refine sr_forZ (us := [.int (p.1 : Int), .int (p.2 : Int)]) (ws := [.int wr.1, .int wr.2]) (er_var rfl hP) (er_ixT (Q := IsWr) (j := i) (er_fld (er_var rfl hB) (f_wires c)) (er_v rfl) rfl gw) rfl fun H5 s5 => ⟨fun t σ' H6 => Kp GF H5 H6 ∧ (∃ y8 y9, σ' = [some v1, some v2, some v3, some v4, some v5, some (.ref l), some (.int (i : Int)), some x, y8, y9]) ∧ Acc (IsWd CW) H2 l (CM.wrs b ls src i ++ (CM.wdAt b ls i).take t) H6, ⟨Kp.of_same (Same.refl _), ⟨_, _, rfl⟩, by rw [List.take_zero, List.append_nil]; exact accT.grow s5⟩, fun _ _ _ q => q.1, ?_, ?_⟩
    · rintro t y z σ' H6 H7 hy hz' ⟨kp6, ⟨y8, y9, rfl⟩, a6⟩ s7
      match t, hy, hz' with
      | 0, hy, hz' =>
        obtain rfl := Option.some.inj hy
        obtain rfl := Option.some.inj hz'
        refine one p.1 wr.1 _ H6 H7 _ y8 y9 (by omega) (by rw [List.take_zero, List.append_nil]; omega) a6 s7 fun H8 k8 a8 => ⟨(kp6.trans (Kp.of_same s7)).trans k8, ⟨_, _, rfl⟩, ?_⟩
        rw [List.take_zero, List.append_nil] at a8
        unfold CM.wdAt
        rw [gp, hq]
        exact a8
      | 1, hy, hz' =>
        obtain rfl := Option.some.inj hy
        obtain rfl := Option.some.inj hz'
        refine one p.2 wr.2 _ H6 H7 _ y8 y9 (by omega) (by rw [List.length_append, List.length_take]; omega) a6 s7 fun H8 k8 a8 => ⟨(kp6.trans (Kp.of_same s7)).trans k8, ⟨_, _, rfl⟩, ?_⟩
        have e : CM.wrs b ls src i ++ (CM.wdAt b ls i).take 2 = CM.wrs b ls src i ++ (CM.wdAt b ls i).take 1 ++ [⟨wr.2, Lr71.far (b.places.getD i CM.pl0) ((CM.allPl b ls).getD p.2 CM.pl0), (CM.nds b ls b.pairs.length).getD p.2 0⟩] := by
          unfold CM.wdAt
          rw [gp, hq]
          exact sn2 _ _ _
        rw [e]
        exact a8
    · rintro σ' H6 ⟨kp6, ⟨y8, y9, rfl⟩, a6⟩
      exact ⟨kp.trans ((Kp.of_same (sT.trans s5)).trans kp6), a6, _, _, _, _, rfl⟩
  · rintro σ' H' ⟨kp, acc, x6, x7, x8, x9, rfl⟩
    rw [r.length] at acc
    obtain ⟨us5, hu5, he5⟩ := acc.lst
    exact sr_ret (er_var (R := LstOf (IsWd CW) (CM.wrsAll b ls src)) rfl ⟨l, us5, rfl, hu5, he5⟩) fun v' H6 s6 e => kk v' H6 (s12.trans (acc.same.trans s6)) e
abbrev s_power_of : Stmt := top 85
abbrev N_power_of : List Str := ["wires", "wire"]
abbrev P_power_of : List Str := ["wires"]
theorem sc_power_of : FnScope N_power_of P_power_of (defScope s_power_of) := ⟨rfl, rfl, rfl, by decide +kernel, rfl, by decide +kernel, by decide +kernel⟩
abbrev s_wire_ticking : Stmt := top 86
abbrev N_wire_ticking : List Str := ["wires", "step", "wire"]
abbrev P_wire_ticking : List Str := ["wires", "step"]
theorem sc_wire_ticking : FnScope N_wire_ticking P_wire_ticking (defScope s_wire_ticking) := ⟨rfl, rfl, rfl, by decide +kernel, rfl, by decide +kernel, by decide +kernel⟩
abbrev s_count_short : Stmt := top 87
abbrev N_count_short : List Str := ["wires", "wire"]
abbrev P_count_short : List Str := ["wires"]
theorem sc_count_short : FnScope N_count_short P_count_short (defScope s_count_short) := ⟨rfl, rfl, rfl, by decide +kernel, rfl, by decide +kernel, by decide +kernel⟩
theorem pop_ok (n : Nat) (h : n < 65536) (i : Int) : CMul i ((CM.pop n : Nat) : Int) := steps_ok (o := ⟨.leaf 0, ⟨0, 0, 0, 0⟩, 0, 0, 0, n⟩) h i
def sp_power_of (CW : Addr) : Sp := SpOf (ι := List WD) (fun l => l.length ≤ 1000 ∧ ∀ x ∈ l, x.needs < 65536) (fun l => [LstOf (IsWd CW) l]) (fun l => IsI (CM.pwr l))
theorem ok_power_of (F : DefAt K mg "power_of" s_power_of P_power_of) (T : Gs mg) (c : WireC K CW) (c_steps_in : Cal P w K mg base 1 "steps_in" P_steps_in sp_steps_in) : Cal P w K mg base 2 "power_of" P_power_of (sp_power_of CW) := by
  refine F.ok sc_power_of (spOf_len fun _ => rfl) (fun f cdv A outer s H vs Q E hr ⟨l, ⟨hz, hn⟩, ha, k⟩ => ⟨_,
    (pss_one (ps_ret (pe_callB (sumK (K := K) rfl rfl) rfl T.z_sum (by decide +kernel) (pa_cons (pe_lc (own := [("wire", 1)]) (g := gName 1) (tt := tYes) rfl sc_power_of.nd (piL (K := K) rfl (pv 0)) (blkOk_by (own := [("wire", 1)]) (N := N_power_of) (sc := defScope s_power_of) (by decide +kernel)) (fun _ _ _ _ _ => (pg_name (i := 1) sc_power_of.nd rfl (Or.inl rfl))) (fun _ _ _ _ _ => pts_nil) (fun _ _ _ _ _ => (pe_op op_mul (pf (K := K) rfl (pv 1) rfl) (pc c_steps_in hr (pa_cons (pf (K := K) rfl (pv 1) rfl) pa_nil))))) pa_nil)))), ?_⟩)
  obtain ⟨v1, rfl, h1⟩ := alls1 ha
  refine sr_ret (er_sum (er_lcL (ys := l.map fun (w : WD) => w.length * (CM.pop w.needs : Int)) (er_var rfl h1) (by rw [List.length_map]) (by omega) (fun _ => rfl) fun i x y v H1 hx hy s1 rv => ?_)) k
  rw [List.getElem?_map, hx] at hy
  obtain rfl := Option.some.inj hy
  exact er_I (er_fld (er_var rfl rv) (f_length c)) (er_call x.needs trivial (ea_cons (er_fld (er_var rfl rv) (f_wneeds c)) ea_nil)) (pop_ok _ (hn x (List.mem_of_getElem? hx)) _)
def sp_wire_ticking (CW : Addr) : Sp := SpOf (ι := List WD × Nat) (fun i => i.1.length ≤ 1000) (fun i => [LstOf (IsWd CW) i.1, IsN i.2]) (fun i => IsI (CM.tick i.2 i.1))
theorem ok_wire_ticking (F : DefAt K mg "wire_ticking" s_wire_ticking P_wire_ticking) (T : Gs mg) (c : WireC K CW) : Cal P w K mg base 1 "wire_ticking" P_wire_ticking (sp_wire_ticking CW) := by
  refine F.ok sc_wire_ticking (spOf_len fun _ => rfl) (fun f cdv A outer s H vs Q E hr ⟨⟨l, t⟩, hz, ha, k⟩ => ⟨_,
    (pss_one (ps_ret (pe_callB (sumK (K := K) rfl rfl) rfl T.z_sum (by decide +kernel) (pa_cons (pe_lc (own := [("wire", 2)]) (g := gName 2) rfl sc_wire_ticking.nd (piL (K := K) rfl (pv 0)) (blkOk_by (own := [("wire", 2)]) (N := N_wire_ticking) (sc := defScope s_wire_ticking) (by decide +kernel)) (fun _ _ _ _ _ => (pg_name (i := 2) sc_wire_ticking.nd rfl (Or.inl rfl))) (fun _ _ _ _ _ => (pts_one (pt_cmpR op_eq (pe_op op_and (pe_op op_shr (pf (K := K) rfl (pv 2) rfl) (pv 1)) pe_int) pe_int (nomark _)))) (fun _ _ _ _ _ => (pf (K := K) rfl (pv 2) rfl))) pa_nil)))), ?_⟩)
  have hz : l.length ≤ 1000 := hz
  obtain ⟨v1, v2, rfl, h1, h2⟩ := alls2 (show Alls [LstOf (IsWd CW) l, IsN t] vs H from ha)
  obtain rfl : v2 = .int (t : Int) := h2
  refine sr_ret (er_sum (er_lcIf (R := IsWd CW) (R' := fun i => IsI i) (xs := l) (p := fun w : WD => decide ((w.needs >>> t) &&& 1 = 1)) (f := fun w : WD => w.length) (er_var rfl h1) (by omega) (fun _ => rfl) (fun i x v H1 hx s1 rv => ?_) fun i x v H1 hx s1 rv => er_fld (er_var rfl rv) (f_length c))) k
  refine et_is (et_test (er_eqI (er_I0 (er_I (er_fld (er_var rfl rv) (f_wneeds c)) (er_v rfl) (by show (0 : Int) ≤ (t : Int); omega)) er_c) er_c)) ?_
  refine decide_eq_decide.mpr ?_
  have e : (x.needs : Int) / 2 ^ (t : Int).toNat = ((x.needs >>> t : Nat) : Int) := by
    rw [Int.toNat_natCast, Nat.shiftRight_eq_div_pow, Int.natCast_ediv, Int.natCast_pow]
    rfl
  rw [e, and1, Nat.and_one_is_mod]
  omega
def sp_count_short (CW : Addr) : Sp := SpOf (ι := List WD) (fun l => l.length ≤ 1000) (fun l => [LstOf (IsWd CW) l]) (fun l => IsN (CM.shrt l))
theorem ok_count_short (F : DefAt K mg "count_short" s_count_short P_count_short) (T : Gs mg) (c : WireC K CW) : Cal P w K mg base 1 "count_short" P_count_short (sp_count_short CW) := by
  refine F.ok sc_count_short (spOf_len fun _ => rfl) (fun f cdv A outer s H vs Q E hr ⟨l, hz, ha, k⟩ => ⟨_,
    (pss_one (ps_ret (pe_callB (lenK (K := K) rfl) rfl T.z_len PySem.boot_len (pa_cons (pe_lc (own := [("wire", 1)]) (g := gName 1) rfl sc_count_short.nd (piL (K := K) rfl (pv 0)) (blkOk_by (own := [("wire", 1)]) (N := N_count_short) (sc := defScope s_count_short) (by decide +kernel)) (fun _ _ _ _ _ => (pg_name (i := 1) sc_count_short.nd rfl (Or.inl rfl))) (fun _ _ _ _ _ => (pts_one (pt_cmpR op_lt (pf (K := K) rfl (pv 1) rfl) (pf (K := K) rfl (pv 1) rfl) (nomark _)))) (fun _ _ _ _ _ => (pv 1))) pa_nil)))), ?_⟩)
  have hz : l.length ≤ 1000 := hz
  obtain ⟨v1, rfl, h1⟩ := alls1 ha
  refine sr_ret (er_i (er_lenL (Q := IsWd CW) (xs := (l.filter fun w : WD => decide (w.length < w.span)).map id) (er_lcIf (R := IsWd CW) (R' := IsWd CW) (xs := l) (p := fun w : WD => decide (w.length < w.span)) (f := id) (er_var rfl h1) (by omega) (fun _ => rfl) (fun i x v H1 hx s1 rv => ?_) fun i x v H1 hx s1 rv => er_var rfl rv)) ?_) k
  · exact et_test (er_I0 (er_fld (er_var rfl rv) (f_length c)) (er_fld (er_var rfl rv) (f_span c)))
  · rw [List.map_id]
    rfl
abbrev s_moments_of : Stmt := top 88
abbrev N_moments_of : List Str := ["built", "leaves", "count", "moments", "at", "side", "length", "number", "leaf"]
abbrev P_moments_of : List Str := ["built", "leaves"]
theorem sc_moments_of : FnScope N_moments_of P_moments_of (defScope s_moments_of) := ⟨rfl, rfl, rfl, by decide +kernel, rfl, by decide +kernel, by decide +kernel⟩
def sp_moments_of (CL CB : Addr) : Sp := SpOf (ι := BD × List LD) (fun i => okBd i.2 i.1) (fun i => [IsBt CB i.1, LstOf (IsLf CL) i.2]) (fun i => LstOf (fun j : Int => IsI j) (CM.moms i.1 i.2))
theorem ok_moments_of (F : DefAt K mg "moments_of" s_moments_of P_moments_of) (T : Gs mg) (cL : LeafC K CL) (c : BuiltC K CB) : Cal P w K mg base 1 "moments_of" P_moments_of (sp_moments_of CL CB) := by
  refine F.ok sc_moments_of (spOf_len fun _ => rfl) (fun f cdv A outer s H vs Q E hr ⟨⟨b, ls⟩, hpre, ha, kk⟩ => ⟨_,
    (pss_cons (ps_set (i := 2) sc_moments_of.nd rfl (Or.inl rfl) (pe_callB (lenK (K := K) rfl) rfl T.z_len PySem.boot_len (pa_cons (pv 1) pa_nil)))
    (pss_cons (ps_set (i := 3) sc_moments_of.nd rfl (Or.inr rfl) (pe_op op_rep (pe_lst (pa_cons (pf (K := K) rfl (pv 0) rfl) pa_nil)) (pe_op op_add (pv 2) (pe_callB (lenK (K := K) rfl) rfl T.z_len PySem.boot_len (pa_cons (pf (K := K) rfl (pv 0) rfl) pa_nil)))))
    (pss_cons (ps_for PassesOwn.never rfl (pi_range3 rfl T.z_range (pa_cons (pe_op op_sub (pe_callB (lenK (K := K) rfl) rfl T.z_len PySem.boot_len (pa_cons (pf (K := K) rfl (pv 0) rfl) pa_nil)) pe_int) (pa_cons (pe_un un_neg pe_int) (pa_cons (pe_un un_neg pe_int) pa_nil)))) (pg_name (i := 4) sc_moments_of.nd rfl (Or.inl rfl))
      (pss_one (ps_for PassesOwn.never rfl (piZ (K := K) rfl rfl T.z_zip (pa_cons (pe_ix (ixK (K := K) rfl) (pf (K := K) rfl (pv 0) rfl) (pv 4) (fun _ _ => rfl)) (pa_cons (pe_ix (ixK (K := K) rfl) (pf (K := K) rfl (pv 0) rfl) (pv 4) (fun _ _ => rfl)) pa_nil))) (pgT (K := K) (n := 2) rfl rfl (pgs_cons (pg_name (i := 5) sc_moments_of.nd rfl (Or.inl rfl)) (pgs_cons (pg_name (i := 6) sc_moments_of.nd rfl (Or.inl rfl)) pgs_nil)))
      (pss_one (ps_asg (pe_op op_add (pe_ix (ixK (K := K) rfl) (pv 3) (pe_op op_add (pv 2) (pv 4)) (fun _ _ => rfl)) (pv 6)) (pg_sub (pv 3) (pv 5) set_list))))))
    (pss_one (ps_ret (pe_lc (own := [("number", 7), ("leaf", 8)]) (g := gTup K 2 (gCons (gName 7) (gCons (gName 8) gNil))) (tt := tYes) rfl sc_moments_of.nd (piE (K := K) rfl rfl T.z_enumerate (pa_cons (pv 1) pa_nil)) (blkOk_by (own := [("number", 7), ("leaf", 8)]) (N := N_moments_of) (sc := defScope s_moments_of) (by decide +kernel)) (fun _ _ _ _ _ => (pgT (K := K) (n := 2) rfl rfl (pgs_cons (pg_name (i := 7) sc_moments_of.nd rfl (Or.inl rfl)) (pgs_cons (pg_name (i := 8) sc_moments_of.nd rfl (Or.inl rfl)) pgs_nil)))) (fun _ _ _ _ _ => pts_nil) (fun _ _ _ _ _ => (pe_op op_add (pe_ix (ixK (K := K) rfl) (pv 3) (pv 7) (fun _ _ => rfl)) (pf (K := K) rfl (pv 8) rfl))))))))), ?_⟩)
  obtain ⟨v1, v2, rfl, h1, h2⟩ := alls2 (show Alls [IsBt CB b, LstOf (IsLf CL) ls] vs H from ha)
  obtain ⟨hn, hz, hok, hpl, hwl⟩ := (show okBd ls b from hpre)
  refine sq_asg (R := IsN ls.length) (er_lenL (er_var rfl h2)) fun v3 H1 s1 e3 => ?_
  obtain rfl : v3 = .int (ls.length : Int) := e3
  refine sq_rep (R := fun j : Int => IsI j) (x := b.trunk) (n := ls.length + b.pairs.length) (er_lst1 (R := fun j : Int => IsI j) (er_fld (er_var rfl (Mn.mn s1 h1)) (f_trunk c))) (er_i (er_I0 (er_v rfl) (er_lenT (er_fld (er_var rfl (Mn.mn s1 h1)) (f_pairs c)))) (by omega)) (by omega) fun l H2 a2 => ?_
  have ml := CM.moUp_len b ls.length
  refine sq_forDn (m := b.pairs.length) (ea_cons (er_I0 (er_lenT (er_fld (er_var rfl (Mn.mn (s1.trans a2.same) h1)) (f_pairs c))) er_c) (ea_cons (er_neg er_c) (ea_cons (er_neg er_c) ea_nil))) (by omega) fun H4 s4 => ⟨fun i σ' H' => Acc (fun j : Int => IsI j) H1 l (CM.moUp b ls.length i) H' ∧ ∃ x y z, σ' = [some v1, some v2, some (.int (ls.length : Int)), some (.ref l), x, y, z, none, none], ⟨a2.grow s4, _, _, _, rfl⟩, ?_, ?_⟩
  · rintro i σ' H' hi ⟨a, x, y, z, rfl⟩
    have sH : Same H H' := s1.trans a.same
    have hp : b.pairs[b.pairs.length - 1 - i]? = some (b.pairs.getD (b.pairs.length - 1 - i) (0, 0)) := CM.getD_at (by omega)
    have gw : b.wires[b.pairs.length - 1 - i]? = some (b.wires.getD (b.pairs.length - 1 - i) (0, 0)) := CM.getD_at (by omega)
    have mi := ml i
    have eS : CM.moUp b ls.length (i + 1) = CM.moStep b ls.length (CM.moUp b ls.length i) (b.pairs.length - 1 - i) := rfl
    have kl : b.pairs.length - 1 - i < b.pairs.length := by omega
    generalize b.pairs.length - 1 - i = k at hp gw kl eS ⊢
    generalize hpp : b.pairs.getD k (0, 0) = p at hp
    generalize hww : b.wires.getD k (0, 0) = wr at gw
    generalize CM.moUp b ls.length i = M at a mi eS
    have ob := hok k p hp
    have one : ∀ (q : Nat) (len : Int) (N : List Int) (H6 H7 : Hp) (D : Ends), q < ls.length + b.pairs.length → N.length = ls.length + b.pairs.length → Acc (fun j : Int => IsI j) H1 l N H6 → Same H6 H7 → (∀ H8, Kp GF H7 H8 → Acc (fun j : Int => IsI j) H1 l (N.set q (N.getD (ls.length + k) 0 + len)) H8 → D.nx [some v1, some v2, some (.int (ls.length : Int)), some (.ref l), some (.int (k : Int)), some (.int (q : Int)), some (.int len), none, none] H8) →
        tAsg (tOp (rI0 fun i j => .int (i + j)) (tOp (rIx K) (tVar 3) (tOp (rI0 fun i j => .int (i + j)) (tVar 2) (tVar 4))) (tVar 6)) (gSub (tVar 3) (tVar 5) rSetL) D [some v1, some v2, some (.int (ls.length : Int)), some (.ref l), some (.int (k : Int)), some (.int (q : Int)), some (.int len), none, none] H7 := by
      intro q len N H6 H7 D hq hN ac s7 go
      have ac7 := ac.grow s7
      obtain ⟨us5, hu5, he5⟩ := ac7.lst
      have l5 := he5.length
      have g : N[ls.length + k]? = some (N.getD (ls.length + k) 0) := CM.getD_at (by omega)
      refine sr_set (R := IsI (N.getD (ls.length + k) 0 + len)) (j := q) (er_I0 (er_ixL (Q := fun j : Int => IsI j) (j := ls.length + k) (er_var (R := LstOf (fun j : Int => IsI j) N) rfl ⟨l, us5, rfl, hu5, he5⟩) (er_I0 (er_v rfl) (er_v rfl)) (by omega) g) (er_v rfl)) (er_v rfl) (er_v rfl) hu5 (ix_nat (by omega)) fun v7 H8 s8 r8 => ?_
      exact go _ ((Kp.of_same s8).trans (kp_lst (s8 _ _ hu5))) (ac7.set q s8 (s8 _ _ hu5) r8)
    show tFor _ _ _ _ _ _
    refine sr_forZ (us := [.int (p.1 : Int), .int (p.2 : Int)]) (ws := [.int wr.1, .int wr.2]) (er_ixT (Q := IsPr) (j := k) (er_fld (er_var rfl (Mn.mn sH h1)) (f_pairs c)) (er_v rfl) rfl hp) (er_ixT (Q := IsWr) (j := k) (er_fld (er_var rfl (Mn.mn sH h1)) (f_wires c)) (er_v rfl) rfl gw) rfl fun H5 s5 => ⟨fun t σ' H6 => Kp GF H5 H6 ∧ (∃ y z, σ' = [some v1, some v2, some (.int (ls.length : Int)), some (.ref l), some (.int (k : Int)), y, z, none, none]) ∧ Acc (fun j : Int => IsI j) H1 l (if t = 0 then M else if t = 1 then M.set p.1 (M.getD (ls.length + k) 0 + wr.1) else CM.moStep b ls.length M k) H6, ⟨Kp.of_same (Same.refl _), ⟨_, _, rfl⟩, a.grow s5⟩, fun _ _ _ q => q.1, ?_, ?_⟩
    · rintro t y' z' σ' H6 H7 hy hz' ⟨kp6, ⟨y8, y9, rfl⟩, a6⟩ s7
      match t, hy, hz' with
      | 0, hy, hz' =>
        obtain rfl := Option.some.inj hy
        obtain rfl := Option.some.inj hz'
        rw [if_pos rfl] at a6
        refine one p.1 wr.1 M H6 H7 _ (by omega) mi a6 s7 fun H8 k8 a8 => ⟨(kp6.trans (Kp.of_same s7)).trans k8, ⟨_, _, rfl⟩, ?_⟩
        rw [if_neg (by decide), if_pos rfl]
        exact a8
      | 1, hy, hz' =>
        obtain rfl := Option.some.inj hy
        obtain rfl := Option.some.inj hz'
        rw [if_neg (by decide), if_pos rfl] at a6
        refine one p.2 wr.2 _ H6 H7 _ (by omega) (by rw [List.length_set]; exact mi) a6 s7 fun H8 k8 a8 => ⟨(kp6.trans (Kp.of_same s7)).trans k8, ⟨_, _, rfl⟩, ?_⟩
        rw [if_neg (by decide), if_neg (by decide)]
        unfold CM.moStep
        rw [hpp, hww]
        exact a8
    · rintro σ' H6 ⟨kp6, ⟨y8, y9, rfl⟩, a6⟩
      have a6 : Acc (fun j : Int => IsI j) H1 l (CM.moStep b ls.length M k) H6 := a6
      exact ⟨by rw [eS]; exact a6, _, _, _, rfl⟩
  · rintro σ' H' ⟨a, x, y, z, rfl⟩
    obtain ⟨us5, hu5, he5⟩ := a.lst
    have hM : LstOf (fun j : Int => IsI j) (CM.moUp b ls.length b.pairs.length) (.ref l) H' := ⟨l, us5, rfl, hu5, he5⟩
    refine sr_ret (er_lcEn (R := IsLf CL) (R' := fun j : Int => IsI j) (ys := CM.moms b ls) (er_var rfl (Mn.mn (s1.trans a.same) h2)) (by unfold CM.moms; rw [List.length_mapIdx]) (by omega) (fun _ _ => rfl) fun i x y v H5 hx hy s5 rv => ?_) fun v' H6 s6 e => kk v' H6 (s1.trans (a.same.trans s6)) e
    unfold CM.moms at hy
    rw [List.getElem?_mapIdx, hx] at hy
    obtain rfl := Option.some.inj hy
    have il : i < ls.length := (List.getElem?_eq_some_iff.mp hx).1
    have mi := ml b.pairs.length
    have g : (CM.moUp b ls.length b.pairs.length)[i]? = some ((CM.moUp b ls.length b.pairs.length).getD i 0) := CM.getD_at (by omega)
    exact er_I0 (er_ixL (Q := fun j : Int => IsI j) (j := i) (er_var rfl (Mn.mn s5 hM)) (er_v rfl) rfl g) (er_fld (er_var rfl rv) (f_late cL))
end
end Clk
set_option Elab.async false
set_option maxRecDepth 100000
set_option maxHeartbeats 4000000
set_option linter.all false
set_option autoImplicit false
namespace Clk
open PySem PySem.Spec PyProof.Rows L2
open CM (LD OD BD PC WD)
theorem Acc.ext {α : Type} {R : α → Rp} [∀ x, Mg (R x)] {H0 H H1 : Hp} {l : Addr} {xs ys : List α} {vs zs : List V} (a : Acc R H0 l xs H) (s : Same H H1) (h : H1 l = some (.lst vs)) (r : Each R H1 zs ys) : Acc R H0 l (xs ++ ys) (upd H1 l (.lst (vs ++ zs))) := by
  obtain ⟨ws, hw, e⟩ := a.lst
  have z : ws = vs := by
    have q := s _ _ hw
    rw [h] at q
    cases q
    rfl
  subst z
  have k : Kp GF H1 (upd H1 l (.lst (ws ++ zs))) := kp_lst h
  exact ⟨a.new, same_mut (a.same.trans s) a.new, _, upd_same, ((Each.mn (m := fun _ => mn_of_mg) s e).mg k).append (r.mg k)⟩
section
variable {σ : L2.St} {H : Hp} {tf ta tb : TE} {t : TA} {D : Ends} {u : TS} {Rs : List Rp} {S : Addr → Sp → Prop} {f : Addr} {sp : Sp}
theorem sr_rcallE (hf : EvR tf σ H (IsV (.ref f))) (hS : S f sp) (ha : EvA t σ H Rs) (k : ∀ vs H1, Same H H1 → Alls Rs vs H1 → sp vs H1 (fun v H2 => D.rt v H2) E0) : tRet (tCallE tf S t) D σ H :=
  hf H (Same.refl _) _ fun v H1 s1 e => ⟨f, sp, e, hS, ha H1 s1 _ fun vs H2 s2 r => k vs H2 (s1.trans s2) r⟩
theorem sq_callE {i : Nat} (hf : EvR tf σ H (IsV (.ref f))) (hS : S f sp) (ha : EvA t σ H Rs) (k : ∀ vs H1, Same H H1 → Alls Rs vs H1 → sp vs H1 (fun v H2 => u D (σ.set i (some v)) H2) E0) : tSeq (tAsg (tCallE tf S t) (gName i)) u D σ H :=
  hf H (Same.refl _) _ fun v H1 s1 e => ⟨f, sp, e, hS, ha H1 s1 _ fun vs H2 s2 r => k vs H2 (s1.trans s2) r⟩
theorem er_l2 {x y : V} (h1 : EvR ta σ H (IsV x)) (h2 : EvR tb σ H (IsV y)) : EvR (tLst (tCons ta (tCons tb tNil))) σ H (IsL [x, y]) := er_lstV (xs := [x, y]) (ea_cons h1 (ea_cons h2 ea_nil))
end
section
variable {P : Program} {w : World} {K : PySem.W.Frag} {mg : Str → Option Value} {base : Heap} {C CL CO CB CW DB : Addr}
abbrev s_wires_now : Stmt := top 93
abbrev N_wires_now : List Str := ["chip"]
abbrev P_wires_now : List Str := ["chip"]
theorem sc_wires_now : FnScope N_wires_now P_wires_now (defScope s_wires_now) := ⟨rfl, rfl, rfl, by decide +kernel, rfl, by decide +kernel, by decide +kernel⟩
abbrev s_answer_told : Stmt := top 94
abbrev N_answer_told : List Str := ["chip", "answer", "pair"]
abbrev P_answer_told : List Str := ["chip"]
theorem sc_answer_told : FnScope N_answer_told P_answer_told (defScope s_answer_told) := ⟨rfl, rfl, rfl, by decide +kernel, rfl, by decide +kernel, by decide +kernel⟩
abbrev s_answer_sums : Stmt := top 95
abbrev N_answer_sums : List Str := ["chip", "numbers"]
abbrev P_answer_sums : List Str := ["chip", "numbers"]
theorem sc_answer_sums : FnScope N_answer_sums P_answer_sums (defScope s_answer_sums) := ⟨rfl, rfl, rfl, by decide +kernel, rfl, by decide +kernel, by decide +kernel⟩
abbrev s_answer_ends : Stmt := top 96
abbrev N_answer_ends : List Str := ["chip", "numbers", "moments"]
abbrev P_answer_ends : List Str := ["chip", "numbers"]
theorem sc_answer_ends : FnScope N_answer_ends P_answer_ends (defScope s_answer_ends) := ⟨rfl, rfl, rfl, by decide +kernel, rfl, by decide +kernel, by decide +kernel⟩
abbrev s_answer_when : Stmt := top 97
abbrev N_answer_when : List Str := ["chip", "numbers", "number"]
abbrev P_answer_when : List Str := ["chip", "numbers"]
theorem sc_answer_when : FnScope N_answer_when P_answer_when (defScope s_answer_when) := ⟨rfl, rfl, rfl, by decide +kernel, rfl, by decide +kernel, by decide +kernel⟩
abbrev s_answer_joint : Stmt := top 98
abbrev N_answer_joint : List Str := ["chip", "numbers", "at", "place", "lengths"]
abbrev P_answer_joint : List Str := ["chip", "numbers"]
theorem sc_answer_joint : FnScope N_answer_joint P_answer_joint (defScope s_answer_joint) := ⟨rfl, rfl, rfl, by decide +kernel, rfl, by decide +kernel, by decide +kernel⟩
abbrev s_answer_short : Stmt := top 99
abbrev N_answer_short : List Str := ["chip", "numbers"]
abbrev P_answer_short : List Str := ["chip", "numbers"]
theorem sc_answer_short : FnScope N_answer_short P_answer_short (defScope s_answer_short) := ⟨rfl, rfl, rfl, by decide +kernel, rfl, by decide +kernel, by decide +kernel⟩
abbrev s_answer_anew : Stmt := top 100
abbrev N_answer_anew : List Str := ["chip", "numbers"]
abbrev P_answer_anew : List Str := ["chip", "numbers"]
theorem sc_answer_anew : FnScope N_answer_anew P_answer_anew (defScope s_answer_anew) := ⟨rfl, rfl, rfl, by decide +kernel, rfl, by decide +kernel, by decide +kernel⟩
abbrev s_answer_ticking : Stmt := top 101
abbrev N_answer_ticking : List Str := ["chip", "numbers"]
abbrev P_answer_ticking : List Str := ["chip", "numbers"]
theorem sc_answer_ticking : FnScope N_answer_ticking P_answer_ticking (defScope s_answer_ticking) := ⟨rfl, rfl, rfl, by decide +kernel, rfl, by decide +kernel, by decide +kernel⟩
abbrev s_answer_telling : Stmt := top 103
abbrev N_answer_telling : List Str := ["chip", "call", "numbers"]
abbrev P_answer_telling : List Str := ["chip", "call", "numbers"]
theorem sc_answer_telling : FnScope N_answer_telling P_answer_telling (defScope s_answer_telling) := ⟨rfl, rfl, rfl, by decide +kernel, rfl, by decide +kernel, by decide +kernel⟩
def sp_wires_now (C CL CB CW : Addr) : Sp := SpOf (ι := Eh × Addr × PC × BD) (fun i => i.2.2.1.built = some i.2.2.2 ∧ okBd i.2.2.1.leaves i.2.2.2) (fun i => [IsCh C CL CB i.2.1 i.1 i.2.2.1]) (fun i => LstOf (IsWd CW) (CM.wrsAll i.2.2.2 i.2.2.1.leaves i.2.2.1.src))
theorem ok_wires_now (F : DefAt K mg "wires_now" s_wires_now P_wires_now) (T : Gt mg) (cc : ChipC K C) (c_wires_of : Cal P w K mg base 3 "wires_of" P_wires_of (sp_wires_of CL CB CW)) : Cal P w K mg base 4 "wires_now" P_wires_now (sp_wires_now C CL CB CW) := by
  refine F.ok sc_wires_now (spOf_len fun _ => rfl) (fun f cdv A outer s H vs Q E hr ⟨⟨eh, c, X, b⟩, ⟨hb, ho⟩, ha, k⟩ => ⟨_,
    (pss_one (ps_ret (pc c_wires_of hr (pa_cons (pf (K := K) rfl (pv 0) rfl) (pa_cons (pf (K := K) rfl (pv 0) rfl) (pa_cons (pf (K := K) rfl (pv 0) rfl) pa_nil)))))), ?_⟩)
  obtain ⟨v1, rfl, e1, hc⟩ := alls1 (show Alls [IsCh C CL CB c eh X] vs H from ha)
  subst e1
  exact sr_ret (er_call (b, X.leaves, X.src) ho (ea_cons (ev_built cc hc rfl hb) (ea_cons (er_fld (er_var rfl ⟨rfl, hc⟩) (f_leaves cc)) (ea_cons (er_fld (er_var rfl ⟨rfl, hc⟩) (f_source cc)) ea_nil)))) fun v H1 s1 r => k v H1 s1 r
def toldOut (X : PC) : List Int := match X.plan with
  | none => [-16]
  | some ps => ((2 * ps.length : Nat) : Int) :: ps.flatMap fun p => [(p.1 : Int), (p.2 : Int)]
def sp_answer_told (C CL CB : Addr) : Sp := SpOf (ι := Eh × Addr × PC) (fun i => ∀ ps, i.2.2.plan = some ps → ps.length ≤ 100) (fun i => [IsCh C CL CB i.2.1 i.1 i.2.2]) (fun i => IsLa i.1.av ((toldOut i.2.2).map V.int))
theorem flat_len (l : List (Nat × Nat)) : (l.flatMap fun p => [(p.1 : Int), (p.2 : Int)]).length = 2 * l.length := by
  induction l with
  | nil => rfl
  | cons p l ih =>
    rw [List.flatMap_cons, List.length_append, ih]
    show 2 + 2 * l.length = 2 * (l.length + 1)
    omega
theorem ok_answer_told (F : DefAt K mg "answer_told" s_answer_told P_answer_told) (T : Gt mg) (cc : ChipC K C) : Cal P w K mg base 1 "answer_told" P_answer_told (sp_answer_told C CL CB) := by
  refine F.ok sc_answer_told (spOf_len fun _ => rfl) (fun f cdv A outer s H vs Q E hr ⟨⟨eh, c, X⟩, hz, ha, k⟩ => ⟨_,
    (pss_cons (ps_if (pt_cmpR op_isN (pf (K := K) rfl (pv 0) rfl) pe_non (nomark _)) (pss_one (ps_ret (pe_lst (pa_cons (pgl T.g_NOT_THERE) pa_nil)))) pss_nil)
    (pss_cons (ps_set (i := 1) sc_answer_told.nd rfl (Or.inl rfl) (pe_lst (pa_cons (pe_op op_mul pe_int (pe_callB (lenK (K := K) rfl) rfl T.z_len PySem.boot_len (pa_cons (pf (K := K) rfl (pv 0) rfl) pa_nil))) pa_nil)))
    (pss_cons (ps_for PassesOwn.never rfl (piT (K := K) rfl (pf (K := K) rfl (pv 0) rfl)) (pg_name (i := 2) sc_answer_told.nd rfl (Or.inl rfl))
      (pss_one (ps_expr (pbm (K := K) (T := "list") rfl (pe_bm PySem.F.plainAttrs_list PySem.F.slot_list_extend PySem.F.type_list_extend mt_extendT (pv 1) (pa_cons (pv 2) pa_nil))))))
    (pss_one (ps_ret (pv 1)))))), ?_⟩)
  obtain ⟨v1, rfl, e1, hc⟩ := alls1 (show Alls [IsCh C CL CB c eh X] vs H from ha)
  subst e1
  have hz : ∀ ps, X.plan = some ps → ps.length ≤ 100 := hz
  have k : ∀ v H', Same H H' → IsLa eh.av ((toldOut X).map V.int) v H' → Q v H' := k
  unfold toldOut at k
  refine sq_ifr (et_test (er_oN (er_fld (er_var rfl ⟨rfl, hc⟩) (f_plan cc)))) (fun d H1 s1 => ?_) fun d H1 s1 => ?_
  · have d : X.plan.isNone = true := d
    have hp : X.plan = none := by simpa using d
    rw [hp] at k
    exact sr_ret (er_f1 er_c) fun v H2 s2 r => k v H2 (s1.trans s2) (r.a (hc.has.same s1))
  have d : X.plan.isNone = false := d
  obtain ⟨ps, hp⟩ : ∃ ps, X.plan = some ps := by
    cases hp : X.plan with
    | none => rw [hp] at d; cases d
    | some ps => exact ⟨ps, rfl⟩
  rw [hp] at k
  have hz := hz ps hp
  have hc1 := hc.mn s1
  have first : EvR (tLst (tCons (tOp (rI CMul fun i j => .int (i * j)) (tC (.int 2)) (tCB (rLn K) (tCons (tFld K (tVar 0) "plan") tNil))) tNil)) [some (.ref c), none, none] H1 (fun v H' => ∃ l, v = .ref l ∧ Acc (fun j : Int => IsI j) H1 l [((2 * ps.length : Nat) : Int)] H') := by
    refine er_lst (ea_cons (R := IsI ((2 * ps.length : Nat) : Int)) (er_i (er_I er_c (er_lenT (ev_plan cc hc1 rfl hp)) (.inl ⟨by decide, by decide⟩)) (by omega)) ea_nil) (by simp) fun v vs a H' e h' ⟨H0, s0, n0, r, e'⟩ => ?_
    obtain ⟨u1, rfl, r1⟩ := alls1 r
    subst e'
    have sn := same_new n0 (.lst [u1])
    exact ⟨a, e, s0.free n0, s0.trans sn, [u1], upd_same, r1, trivial⟩
  refine sq_asg first fun v2 H2 s2 ⟨l, e2, acc0⟩ => ?_
  subst e2
  refine sq_forT (R := IsPs ps) (ev_plan cc (hc1.mn s2) rfl hp) fun v H3 s3 ⟨a, us, ev, hu, r⟩ => ⟨a, us, ev, hu, fun i σ' H' => Kp GF H3 H' ∧ Acc (fun j : Int => IsI j) H1 l (((2 * ps.length : Nat) : Int) :: (ps.take i).flatMap fun p => [(p.1 : Int), (p.2 : Int)]) H' ∧ ∃ x, σ' = [some (.ref c), some (.ref l), x],
    ⟨Kp.of_same (Same.refl _), acc0.grow s3, _, rfl⟩, fun i σ' H' _ p => p.1 _ _ hu trivial, ?_, ?_⟩
  · rintro i x σ' H' hx ⟨kp, acc, y, rfl⟩
    obtain ⟨p, hp', rp⟩ := r.getV hx
    obtain ⟨us5, hu5, he5⟩ := acc.lst
    have l5 := he5.length
    rw [List.length_cons, flat_len, List.length_take] at l5
    refine sr_extT (zs := [.int (p.1 : Int), .int (p.2 : Int)]) (er_var rfl (Mg.mg kp rp)) (er_v rfl) hu5 (by show us5.length + 2 ≤ _; omega) fun H6 s6 => ?_
    refine ⟨kp.trans ((Kp.of_same s6).trans (kp_lst (s6 _ _ hu5))), ?_, _, rfl⟩
    rw [CM.flat_snoc _ hp', ← List.cons_append]
    exact acc.ext s6 (s6 _ _ hu5) ⟨rfl, rfl, trivial⟩
  · rintro σ' H' ⟨kp, acc, y, rfl⟩
    rw [r.length, List.take_length] at acc
    obtain ⟨us5, hu5, he5⟩ := acc.lst
    exact sr_ret (er_v rfl) fun v' H6 s6 e => k v' H6 (s1.trans (acc.same.trans s6)) ⟨l, e, fun z => (by obtain ⟨o, q⟩ := hc1.has l z; rw [acc.new] at q; cases q), by rw [← he5.ints]; exact s6 _ _ hu5⟩
/-! of what is built -/
abbrev Rt := PC → BD → List Int → List Int → Prop
def SpTl (C CL CB : Addr) (R : Rt) : Sp := SpOf (ι := Eh × Addr × PC × BD × List Int × List Int) (fun i => i.2.2.1.built = some i.2.2.2.1 ∧ R i.2.2.1 i.2.2.2.1 i.2.2.2.2.1 i.2.2.2.2.2) (fun i => [IsCh C CL CB i.2.1 i.1 i.2.2.1, IsNm i.2.2.2.2.1]) (fun i => IsLa i.1.av (i.2.2.2.2.2.map V.int))
def rSums : Rt := fun X b ns out => okBd X.leaves b ∧ (∀ x ∈ CM.wrsAll b X.leaves X.src, x.needs < 65536) ∧ out = [b.all, CM.pwr (CM.wrsAll b X.leaves X.src), b.trunk]
theorem wrs_all_len {b : BD} {ls : List LD} {src : Pl} (h : okBd ls b) : (CM.wrsAll b ls src).length ≤ 1000 := by
  unfold CM.wrsAll
  rw [CM.wrs_len]
  have := h.1
  have := h.2.1
  omega
theorem ok_answer_sums (F : DefAt K mg "answer_sums" s_answer_sums P_answer_sums) (T : Gt mg) (cc : ChipC K C) (cB : BuiltC K CB) (c_all_wire : Cal P w K mg base 1 "all_wire" P_all_wire (sp_all_wire CB)) (c_wires_now : Cal P w K mg base 4 "wires_now" P_wires_now (sp_wires_now C CL CB CW)) (c_power_of : Cal P w K mg base 2 "power_of" P_power_of (sp_power_of CW)) : Cal P w K mg base 5 "answer_sums" P_answer_sums (SpTl C CL CB rSums) := by
  refine F.ok sc_answer_sums (spOf_len fun _ => rfl) (fun f cdv A outer s H vs Q E hr ⟨⟨eh, c, X, b, ns, out⟩, hpre, ha, k⟩ => ⟨_,
    (pss_one (ps_ret (pe_lst (pa_cons (pc c_all_wire hr (pa_cons (pf (K := K) rfl (pv 0) rfl) pa_nil)) (pa_cons (pc c_power_of hr (pa_cons (pc c_wires_now hr (pa_cons (pv 0) pa_nil)) pa_nil)) (pa_cons (pf (K := K) rfl (pf (K := K) rfl (pv 0) rfl) rfl) pa_nil)))))), ?_⟩)
  obtain ⟨v1, v2, rfl, ⟨e1, hc⟩, hm⟩ := alls2 (show Alls [IsCh C CL CB c eh X, IsNm ns] vs H from ha)
  subst e1
  obtain ⟨hb, ho, hn, e⟩ := (show X.built = some b ∧ rSums X b ns out from hpre)
  have ho : okBd X.leaves b := ho
  obtain rfl : out = _ := e
  refine sr_ret (er_f3 (er_call b (show b.wires.length ≤ 1000 by have := ho.1; have := ho.2.1; have := ho.2.2.2.2; omega) (ea_cons (ev_built cc hc rfl hb) ea_nil)) (er_call (CM.wrsAll b X.leaves X.src) ⟨wrs_all_len ho, hn⟩ (ea_cons (er_call (eh, c, X, b) ⟨hb, ho⟩ (ea_cons (er_var rfl ⟨rfl, hc⟩) ea_nil)) ea_nil)) (er_fld (ev_built cc hc rfl hb) (f_trunk cB))) fun v H1 s1 r => k v H1 s1 (r.a hc.has)
def rEnds : Rt := fun X b ns out => okBd X.leaves b ∧ ∃ lo hi, (∀ m ∈ CM.moms b X.leaves, (∀ y ∈ CM.moms b X.leaves, m ≤ y) → m = lo) ∧ (∀ m ∈ CM.moms b X.leaves, (∀ y ∈ CM.moms b X.leaves, y ≤ m) → m = hi) ∧ out = [lo, hi]
theorem moms_len (b : BD) (ls : List LD) : (CM.moms b ls).length = ls.length := by unfold CM.moms; rw [List.length_mapIdx]
theorem ok_answer_ends (F : DefAt K mg "answer_ends" s_answer_ends P_answer_ends) (T : Gt mg) (cc : ChipC K C) (c_moments_of : Cal P w K mg base 1 "moments_of" P_moments_of (sp_moments_of CL CB)) : Cal P w K mg base 2 "answer_ends" P_answer_ends (SpTl C CL CB rEnds) := by
  refine F.ok sc_answer_ends (spOf_len fun _ => rfl) (fun f cdv A outer s H vs Q E hr ⟨⟨eh, c, X, b, ns, out⟩, hpre, ha, k⟩ => ⟨_,
    (pss_cons (ps_set (i := 2) sc_answer_ends.nd rfl (Or.inl rfl) (pc c_moments_of hr (pa_cons (pf (K := K) rfl (pv 0) rfl) (pa_cons (pf (K := K) rfl (pv 0) rfl) pa_nil))))
    (pss_one (ps_ret (pe_lst (pa_cons (pe_callB (minK (K := K) rfl rfl) rfl T.z_min (by decide +kernel) (pa_cons (pv 2) pa_nil)) (pa_cons (pe_callB (maxK (K := K) rfl rfl) rfl T.z_max (by decide +kernel) (pa_cons (pv 2) pa_nil)) pa_nil)))))), ?_⟩)
  obtain ⟨v1, v2, rfl, ⟨e1, hc⟩, hm⟩ := alls2 (show Alls [IsCh C CL CB c eh X, IsNm ns] vs H from ha)
  subst e1
  obtain ⟨hb, ho, lo, hi, hlo, hhi, e⟩ := (show X.built = some b ∧ rEnds X b ns out from hpre)
  have ho : okBd X.leaves b := ho
  obtain rfl : out = _ := e
  refine sq_asg (er_call (b, X.leaves) ho (ea_cons (ev_built cc hc rfl hb) (ea_cons (er_fld (er_var rfl ⟨rfl, hc⟩) (f_leaves cc)) ea_nil))) fun v3 H1 s1 r3 => ?_
  have r3 : LstOf (fun j : Int => IsI j) (CM.moms b X.leaves) v3 H1 := r3
  have ml := moms_len b X.leaves
  have hl1 := ho.1
  exact sr_ret (er_f2 (er_minL (er_var rfl r3) (by omega) hlo) (er_maxL (er_var rfl r3) (by omega) hhi)) fun v H2 s2 r => k v H2 (s1.trans s2) (r.a (hc.has.same s1))
def rWhen : Rt := fun X b ns out => ∃ kk : Nat, ns = [(kk : Int)] ∧ okBd X.leaves b ∧ ((X.leaves.length ≤ kk ∧ out = [-2]) ∨ ∃ v, kk < X.leaves.length ∧ (CM.moms b X.leaves)[kk]? = some v ∧ out = [v])
theorem ok_answer_when (F : DefAt K mg "answer_when" s_answer_when P_answer_when) (T : Gt mg) (cc : ChipC K C) (c_moments_of : Cal P w K mg base 1 "moments_of" P_moments_of (sp_moments_of CL CB)) : Cal P w K mg base 2 "answer_when" P_answer_when (SpTl C CL CB rWhen) := by
  refine F.ok sc_answer_when (spOf_len fun _ => rfl) (fun f cdv A outer s H vs Q E hr ⟨⟨eh, c, X, b, ns, out⟩, hpre, ha, k⟩ => ⟨_,
    (pss_cons (ps_set (i := 2) sc_answer_when.nd rfl (Or.inl rfl) (pe_ix (ixK (K := K) rfl) (pv 1) pe_int (fun _ _ => rfl)))
    (pss_cons (ps_if (pt_cmpR op_ge (pv 2) (pe_callB (lenK (K := K) rfl) rfl T.z_len PySem.boot_len (pa_cons (pf (K := K) rfl (pv 0) rfl) pa_nil)) (nomark _)) (pss_one (ps_ret (pe_lst (pa_cons (pgl T.g_NO_SUCH_ONE) pa_nil)))) pss_nil)
    (pss_one (ps_ret (pe_lst (pa_cons (pe_ix (ixK (K := K) rfl) (pc c_moments_of hr (pa_cons (pf (K := K) rfl (pv 0) rfl) (pa_cons (pf (K := K) rfl (pv 0) rfl) pa_nil))) (pv 2) (fun _ _ => rfl)) pa_nil)))))), ?_⟩)
  obtain ⟨v1, v2, rfl, ⟨e1, hc⟩, hm⟩ := alls2 (show Alls [IsCh C CL CB c eh X, IsNm ns] vs H from ha)
  subst e1
  obtain ⟨hb, kk, en, ho, hR⟩ := (show X.built = some b ∧ rWhen X b ns out from hpre)
  have ho : okBd X.leaves b := ho
  obtain rfl : ns = _ := en
  refine sq_asg (R := IsI (kk : Int)) (er_ixL (Q := fun i : Int => IsI i) (j := 0) (er_var rfl hm) er_c rfl rfl) fun v3 H1 s1 e3 => ?_
  obtain rfl : v3 = .int (kk : Int) := e3
  refine sq_ifr (et_test (er_I0 (er_v rfl) (er_lenL (er_fld (er_var rfl ⟨rfl, hc.mn s1⟩) (f_leaves cc))))) (fun d H2 s2 => ?_) fun d H2 s2 => ?_
  · have d : (X.leaves.length : Int) ≤ kk := of_decide_eq_true d
    rcases hR with ⟨_, e⟩ | ⟨v, o, _⟩
    · obtain rfl : out = _ := e
      exact sr_ret (er_f1 er_c) fun v H3 s3 r => k v H3 (s1.trans (s2.trans s3)) (r.a (hc.has.same (s1.trans s2)))
    · have o : kk < X.leaves.length := o
      exact absurd d (by omega)
  have d : ¬ (X.leaves.length : Int) ≤ kk := of_decide_eq_false d
  rcases hR with ⟨o, _⟩ | ⟨v, _, hv, e⟩
  · have o : X.leaves.length ≤ kk := o
    exact absurd d (by omega)
  obtain rfl : out = _ := e
  have hc2 := hc.mn (s1.trans s2)
  exact sr_ret (er_f1 (er_ixL (Q := fun i : Int => IsI i) (j := kk) (er_call (b, X.leaves) ho (ea_cons (ev_built cc hc2 rfl hb) (ea_cons (er_fld (er_var rfl ⟨rfl, hc2⟩) (f_leaves cc)) ea_nil))) (er_v rfl) rfl hv)) fun v H3 s3 r => k v H3 (s1.trans (s2.trans s3)) (r.a (hc.has.same (s1.trans s2)))
def rJoint : Rt := fun X b ns out => ∃ kk : Nat, ns = [(kk : Int)] ∧ okBd X.leaves b ∧ ((b.pairs.length ≤ kk ∧ out = [-2]) ∨ ∃ (q : Pl) (wr : Int × Int), kk < b.pairs.length ∧ b.places[kk]? = some q ∧ b.wires[kk]? = some wr ∧ out = [0, q.s, q.t, wr.1, wr.2])
theorem ok_answer_joint (F : DefAt K mg "answer_joint" s_answer_joint P_answer_joint) (T : Gt mg) (cc : ChipC K C) (cB : BuiltC K CB) : Cal P w K mg base 1 "answer_joint" P_answer_joint (SpTl C CL CB rJoint) := by
  refine F.ok sc_answer_joint (spOf_len fun _ => rfl) (fun f cdv A outer s H vs Q E hr ⟨⟨eh, c, X, b, ns, out⟩, hpre, ha, k⟩ => ⟨_,
    (pss_cons (ps_set (i := 2) sc_answer_joint.nd rfl (Or.inl rfl) (pe_ix (ixK (K := K) rfl) (pv 1) pe_int (fun _ _ => rfl)))
    (pss_cons (ps_if (pt_cmpR op_ge (pv 2) (pe_callB (lenK (K := K) rfl) rfl T.z_len PySem.boot_len (pa_cons (pf (K := K) rfl (pf (K := K) rfl (pv 0) rfl) rfl) pa_nil)) (nomark _)) (pss_one (ps_ret (pe_lst (pa_cons (pgl T.g_NO_SUCH_ONE) pa_nil)))) pss_nil)
    (pss_cons (ps_set (i := 3) sc_answer_joint.nd rfl (Or.inl rfl) (pe_ix (ixK (K := K) rfl) (pf (K := K) rfl (pf (K := K) rfl (pv 0) rfl) rfl) (pv 2) (fun _ _ => rfl)))
    (pss_cons (ps_set (i := 4) sc_answer_joint.nd rfl (Or.inl rfl) (pe_ix (ixK (K := K) rfl) (pf (K := K) rfl (pf (K := K) rfl (pv 0) rfl) rfl) (pv 2) (fun _ _ => rfl)))
    (pss_one (ps_ret (pe_lst (pa_cons pe_int (pa_cons (pe_ix (ixK (K := K) rfl) (pv 3) pe_int (fun _ _ => rfl)) (pa_cons (pe_ix (ixK (K := K) rfl) (pv 3) pe_int (fun _ _ => rfl)) (pa_cons (pe_ix (ixK (K := K) rfl) (pv 4) pe_int (fun _ _ => rfl)) (pa_cons (pe_ix (ixK (K := K) rfl) (pv 4) pe_int (fun _ _ => rfl)) pa_nil)))))))))))), ?_⟩)
  obtain ⟨v1, v2, rfl, ⟨e1, hc⟩, hm⟩ := alls2 (show Alls [IsCh C CL CB c eh X, IsNm ns] vs H from ha)
  subst e1
  obtain ⟨hb, kk, en, ho, hR⟩ := (show X.built = some b ∧ rJoint X b ns out from hpre)
  have ho : okBd X.leaves b := ho
  obtain rfl : ns = _ := en
  refine sq_asg (R := IsI (kk : Int)) (er_ixL (Q := fun i : Int => IsI i) (j := 0) (er_var rfl hm) er_c rfl rfl) fun v3 H1 s1 e3 => ?_
  obtain rfl : v3 = .int (kk : Int) := e3
  refine sq_ifr (et_test (er_I0 (er_v rfl) (er_lenT (er_fld (ev_built cc (hc.mn s1) rfl hb) (f_pairs cB))))) (fun d H2 s2 => ?_) fun d H2 s2 => ?_
  · have d : (b.pairs.length : Int) ≤ kk := of_decide_eq_true d
    rcases hR with ⟨_, e⟩ | ⟨q, wr, o, _⟩
    · obtain rfl : out = _ := e
      exact sr_ret (er_f1 er_c) fun v H3 s3 r => k v H3 (s1.trans (s2.trans s3)) (r.a (hc.has.same (s1.trans s2)))
    · have o : kk < b.pairs.length := o
      exact absurd d (by omega)
  have d : ¬ (b.pairs.length : Int) ≤ kk := of_decide_eq_false d
  rcases hR with ⟨o, _⟩ | ⟨q, wr, _, hq, hw, e⟩
  · have o : b.pairs.length ≤ kk := o
    exact absurd d (by omega)
  obtain rfl : out = _ := e
  have hc2 := hc.mn (s1.trans s2)
  refine sq_asg (R := IsPl q) (er_ixT (Q := IsPl) (j := kk) (er_fld (ev_built cc hc2 rfl hb) (f_places cB)) (er_v rfl) rfl hq) fun v4 H3 s3 r4 => ?_
  refine sq_asg (R := IsWr wr) (er_ixT (Q := IsWr) (j := kk) (er_fld (ev_built cc (hc2.mn s3) rfl hb) (f_wires cB)) (er_v rfl) rfl hw) fun v5 H4 s4 r5 => ?_
  have r4' : IsPl q v4 H4 := Mn.mn s4 r4
  refine sr_ret (er_fV (xs := [.int 0, .int q.s, .int q.t, .int wr.1, .int wr.2]) (ea_cons er_c (ea_cons (er_ixV (j := 0) (er_var rfl r4') er_c rfl rfl) (ea_cons (er_ixV (j := 1) (er_var rfl r4') er_c rfl rfl) (ea_cons (er_ixV (j := 0) (er_var rfl r5) er_c rfl rfl) (ea_cons (er_ixV (j := 1) (er_var rfl r5) er_c rfl rfl) ea_nil)))))) fun v H5 s5 r => k v H5 (s1.trans (s2.trans (s3.trans (s4.trans s5)))) (r.a (hc.has.same (s1.trans (s2.trans (s3.trans s4)))))
def rShort : Rt := fun X b ns out => okBd X.leaves b ∧ out = [((CM.shrt (CM.wrsAll b X.leaves X.src) : Nat) : Int)]
theorem ok_answer_short (F : DefAt K mg "answer_short" s_answer_short P_answer_short) (T : Gt mg) (cc : ChipC K C) (c_wires_now : Cal P w K mg base 4 "wires_now" P_wires_now (sp_wires_now C CL CB CW)) (c_count_short : Cal P w K mg base 1 "count_short" P_count_short (sp_count_short CW)) : Cal P w K mg base 5 "answer_short" P_answer_short (SpTl C CL CB rShort) := by
  refine F.ok sc_answer_short (spOf_len fun _ => rfl) (fun f cdv A outer s H vs Q E hr ⟨⟨eh, c, X, b, ns, out⟩, hpre, ha, k⟩ => ⟨_,
    (pss_one (ps_ret (pe_lst (pa_cons (pc c_count_short hr (pa_cons (pc c_wires_now hr (pa_cons (pv 0) pa_nil)) pa_nil)) pa_nil)))), ?_⟩)
  obtain ⟨v1, v2, rfl, ⟨e1, hc⟩, hm⟩ := alls2 (show Alls [IsCh C CL CB c eh X, IsNm ns] vs H from ha)
  subst e1
  obtain ⟨hb, ho, e⟩ := (show X.built = some b ∧ rShort X b ns out from hpre)
  have ho : okBd X.leaves b := ho
  obtain rfl : out = _ := e
  exact sr_ret (er_f1 (er_call (CM.wrsAll b X.leaves X.src) (wrs_all_len ho) (ea_cons (er_call (eh, c, X, b) ⟨hb, ho⟩ (ea_cons (er_var rfl ⟨rfl, hc⟩) ea_nil)) ea_nil))) fun v H1 s1 r => k v H1 s1 (r.a hc.has)
def rAnew : Rt := fun X b ns out => b.wires.length ≤ 1000 ∧ ((X.plan = none ∧ out = [-2]) ∨ ∃ ps, X.plan = some ps ∧ (X.leaves.length = ps.length + 1 ∧ X.leaves.length ≤ 100 ∧ CM.okPairs X.leaves.length ps ∧ CM.okNeeds X.leaves ∧ CM.okAreas (CM.ocs X.leaves ps ps.length)) ∧ (CM.buildBD X.leaves ps X.src).wires.length ≤ 1000 ∧ out = [b.all, (CM.buildBD X.leaves ps X.src).all])
theorem ok_answer_anew (F : DefAt K mg "answer_anew" s_answer_anew P_answer_anew) (T : Gt mg) (cc : ChipC K C) (c_all_wire : Cal P w K mg base 1 "all_wire" P_all_wire (sp_all_wire CB)) (c_built_from : Cal P w K mg base 6 "built_from" P_built_from (sp_built_from CL CB)) : Cal P w K mg base 7 "answer_anew" P_answer_anew (SpTl C CL CB rAnew) := by
  refine F.ok sc_answer_anew (spOf_len fun _ => rfl) (fun f cdv A outer s H vs Q E hr ⟨⟨eh, c, X, b, ns, out⟩, hpre, ha, k⟩ => ⟨_,
    (pss_cons (ps_if (pt_cmpR op_isN (pf (K := K) rfl (pv 0) rfl) pe_non (nomark _)) (pss_one (ps_ret (pe_lst (pa_cons (pgl T.g_NO_SUCH_ONE) pa_nil)))) pss_nil)
    (pss_one (ps_ret (pe_lst (pa_cons (pc c_all_wire hr (pa_cons (pf (K := K) rfl (pv 0) rfl) pa_nil)) (pa_cons (pc c_all_wire hr (pa_cons (pc c_built_from hr (pa_cons (pf (K := K) rfl (pv 0) rfl) (pa_cons (pf (K := K) rfl (pv 0) rfl) (pa_cons (pf (K := K) rfl (pv 0) rfl) pa_nil)))) pa_nil)) pa_nil)))))), ?_⟩)
  obtain ⟨v1, v2, rfl, ⟨e1, hc⟩, hm⟩ := alls2 (show Alls [IsCh C CL CB c eh X, IsNm ns] vs H from ha)
  subst e1
  obtain ⟨hb, hw, hR⟩ := (show X.built = some b ∧ rAnew X b ns out from hpre)
  refine sq_ifr (et_test (er_oN (er_fld (er_var rfl ⟨rfl, hc⟩) (f_plan cc)))) (fun d H1 s1 => ?_) fun d H1 s1 => ?_
  · have d : X.plan.isNone = true := d
    rcases hR with ⟨_, e⟩ | ⟨ps, hp, _⟩
    · obtain rfl : out = _ := e
      exact sr_ret (er_f1 er_c) fun v H2 s2 r => k v H2 (s1.trans s2) (r.a (hc.has.same s1))
    · rw [show X.plan = some ps from hp] at d
      cases d
  have d : X.plan.isNone = false := d
  rcases hR with ⟨hp, _⟩ | ⟨ps, hp, pre, hz, e⟩
  · rw [show X.plan = none from hp] at d
    cases d
  obtain rfl : out = _ := e
  have c1 := hc.mn s1
  exact sr_ret (er_f2 (er_call b hw (ea_cons (ev_built cc c1 rfl hb) ea_nil)) (er_call (CM.buildBD X.leaves ps X.src) hz (ea_cons (er_call (X.leaves, ps, X.src) pre (ea_cons (er_fld (er_var rfl ⟨rfl, c1⟩) (f_leaves cc)) (ea_cons (ev_plan cc c1 rfl hp) (ea_cons (er_fld (er_var rfl ⟨rfl, c1⟩) (f_source cc)) ea_nil)))) ea_nil))) fun v H2 s2 r => k v H2 (s1.trans s2) (r.a (hc.has.same s1))
def rTick : Rt := fun X b ns out => ∃ i : Nat, ns = [(i : Int)] ∧ okBd X.leaves b ∧ out = [CM.tick i (CM.wrsAll b X.leaves X.src)]
theorem ok_answer_ticking (F : DefAt K mg "answer_ticking" s_answer_ticking P_answer_ticking) (T : Gt mg) (cc : ChipC K C) (c_wires_now : Cal P w K mg base 4 "wires_now" P_wires_now (sp_wires_now C CL CB CW)) (c_wire_ticking : Cal P w K mg base 1 "wire_ticking" P_wire_ticking (sp_wire_ticking CW)) : Cal P w K mg base 5 "answer_ticking" P_answer_ticking (SpTl C CL CB rTick) := by
  refine F.ok sc_answer_ticking (spOf_len fun _ => rfl) (fun f cdv A outer s H vs Q E hr ⟨⟨eh, c, X, b, ns, out⟩, hpre, ha, k⟩ => ⟨_,
    (pss_one (ps_ret (pe_lst (pa_cons (pc c_wire_ticking hr (pa_cons (pc c_wires_now hr (pa_cons (pv 0) pa_nil)) (pa_cons (pe_ix (ixK (K := K) rfl) (pv 1) pe_int (fun _ _ => rfl)) pa_nil))) pa_nil)))), ?_⟩)
  obtain ⟨v1, v2, rfl, ⟨e1, hc⟩, hm⟩ := alls2 (show Alls [IsCh C CL CB c eh X, IsNm ns] vs H from ha)
  subst e1
  obtain ⟨hb, i, en, ho, e⟩ := (show X.built = some b ∧ rTick X b ns out from hpre)
  have ho : okBd X.leaves b := ho
  obtain rfl : out = _ := e
  obtain rfl : ns = _ := en
  exact sr_ret (er_f1 (er_call (CM.wrsAll b X.leaves X.src, i) (wrs_all_len ho) (ea_cons (er_call (eh, c, X, b) ⟨hb, ho⟩ (ea_cons (er_var rfl ⟨rfl, hc⟩) ea_nil)) (ea_cons (er_ixL (Q := fun i : Int => IsI i) (j := 0) (er_var rfl hm) er_c rfl rfl) ea_nil)))) fun v H1 s1 r => k v H1 s1 (r.a hc.has)
/-! all that is told -/
def rOf (p : Int) : Rt := if p = 13 then rSums else if p = 14 then rEnds else if p = 15 then rWhen else if p = 16 then rJoint else if p = 17 then rShort else if p = 18 then rAnew else rTick
def rTe (p : Int) (X : PC) (ns out : List Int) : Prop := (p = 12 ∧ (∀ ps, X.plan = some ps → ps.length ≤ 100) ∧ out = toldOut X) ∨ (p = 19 ∧ ∃ i : Nat, ns = [(i : Int)] ∧ 15 < i ∧ out = [-22]) ∨
  (13 ≤ p ∧ p ≤ 19 ∧ (p = 19 → ∃ i : Nat, ns = [(i : Int)] ∧ i ≤ 15) ∧ ((X.built = none ∧ out = [-16]) ∨ ∃ b, X.built = some b ∧ rOf p X b ns out))
def SpTe (C CL CB : Addr) : Sp := SpOf (ι := Eh × Addr × PC × Int × List Int × List Int) (fun i => rTe i.2.2.2.1 i.2.2.1 i.2.2.2.2.1 i.2.2.2.2.2) (fun i => [IsCh C CL CB i.2.1 i.1 i.2.2.1, IsI i.2.2.2.1, IsNm i.2.2.2.2.1]) (fun i => IsLa i.1.av (i.2.2.2.2.2.map V.int))
theorem ok_answer_telling (F : DefAt K mg "answer_telling" s_answer_telling P_answer_telling) (T : Gt mg) (cc : ChipC K C) (g_OF_BUILT : GV mg "OF_BUILT" (.ref DB)) (tab : ∀ p : Int, 13 ≤ p → p ≤ 19 → ∃ f, KDci K DB p (.ref f) ∧ Held P w K mg base 10 f (SpTl C CL CB (rOf p))) (c_answer_told : Cal P w K mg base 1 "answer_told" P_answer_told (sp_answer_told C CL CB)) : Cal P w K mg base 11 "answer_telling" P_answer_telling (SpTe C CL CB) := by
  have A_OF_BUILT : ∀ f sp, Held P w K mg base 10 f sp → Held P w K mg base 10 f sp := fun _ _ h => h
  refine F.ok sc_answer_telling (spOf_len fun _ => rfl) (fun f cdv A outer s H vs Q E hr ⟨⟨eh, c, X, p, ns, out⟩, hR, ha, k⟩ => ⟨_,
    (pss_cons (ps_if (pt_cmpR op_eq (pv 1) (pgl T.g_TOLD) (nomark _)) (pss_one (ps_ret (pc c_answer_told hr (pa_cons (pv 0) pa_nil)))) pss_nil)
    (pss_cons (ps_if (PW.pt (pw_and (pt_cmpR op_eq (pv 1) (pgl T.g_TICKING) (nomark _)) (pw_and1 (pt_cmpR op_gt (pe_ix (ixK (K := K) rfl) (pv 2) pe_int (fun _ _ => rfl)) (pgl T.g_LAST_STEP) (nomark _))))) (pss_one (ps_ret (pe_lst (pa_cons (pgl T.g_OUT_OF_BOUNDS) pa_nil)))) pss_nil)
    (pss_cons (ps_if (pt_cmpR op_isN (pf (K := K) rfl (pv 0) rfl) pe_non (nomark _)) (pss_one (ps_ret (pe_lst (pa_cons (pgl T.g_NOT_THERE) pa_nil)))) pss_nil)
    (pss_one (ps_ret (pe_callE A_OF_BUILT hr (pe_ix (ixDiK (K := K) rfl) (pgl g_OF_BUILT) (pv 1) (fun _ _ => rfl)) (pa_cons (pv 0) (pa_cons (pv 2) pa_nil)))))))), ?_⟩)
  obtain ⟨v1, v2, v3, rfl, ⟨e1, hc⟩, e2, hm⟩ := alls3 (show Alls [IsCh C CL CB c eh X, IsI p, IsNm ns] vs H from ha)
  subst e1
  obtain rfl : v2 = .int p := e2
  have hR : rTe p X ns out := hR
  have k : ∀ v H', Same H H' → IsLa eh.av (out.map V.int) v H' → Q v H' := k
  refine sq_ifr (et_test (er_eqI (er_v rfl) er_c)) (fun d H1 s1 => ?_) fun d H1 s1 => ?_
  · have d : p = 12 := of_decide_eq_true d
    rcases hR with ⟨_, hz, rfl⟩ | ⟨o, _⟩ | ⟨o, _⟩
    · exact sr_ret (er_call (eh, c, X) hz (ea_cons (er_var rfl ⟨rfl, hc.mn s1⟩) ea_nil)) fun v H2 s2 r => k v H2 (s1.trans s2) r
    · omega
    · omega
  have d : ¬ p = 12 := of_decide_eq_false d
  by_cases q : p = 19 ∧ ∃ i : Nat, ns = [(i : Int)] ∧ 15 < i
  · obtain ⟨q1, i, q2, q3⟩ := q
    subst q2
    refine sq_ifr (et_and (a := true) (b := true) (et_is (et_test (er_eqI (er_v rfl) er_c)) (decide_eq_true q1)) fun _ => et_is (et_test (er_I0 (er_ixL (Q := fun i : Int => IsI i) (j := 0) (er_var rfl (Mn.mn s1 hm)) er_c rfl rfl) er_c)) (decide_eq_true (by show (15 : Int) < (i : Int); omega))) (fun _ H2 s2 => ?_) fun d2 => by cases d2
    rcases hR with ⟨o, _⟩ | ⟨_, i', _, _, rfl⟩ | ⟨_, _, o, _⟩
    · omega
    · exact sr_ret (er_f1 er_c) fun v H3 s3 r => k v H3 (s1.trans (s2.trans s3)) (r.a (hc.has.same (s1.trans s2)))
    · obtain ⟨j, ej, lj⟩ := o q1
      cases ej
      omega
  have hR : 13 ≤ p ∧ p ≤ 19 ∧ (p = 19 → ∃ i : Nat, ns = [(i : Int)] ∧ i ≤ 15) ∧ ((X.built = none ∧ out = [-16]) ∨ ∃ b, X.built = some b ∧ rOf p X b ns out) := by
    rcases hR with ⟨o, _⟩ | ⟨o, i, o1, o2, _⟩ | o
    · exact absurd o d
    · exact absurd ⟨o, i, o1, o2⟩ q
    · exact o
  obtain ⟨p1, p2, p3, hR⟩ := hR
  refine sq_ifr (b := false) (et_is (et_and (b := false) (et_test (er_eqI (er_v rfl) er_c)) fun h19 => ?_) (Bool.and_false _)) (fun d2 => by cases d2) fun _ H2 s2 => ?_
  · have h19 : p = 19 := of_decide_eq_true h19
    obtain ⟨i, ei, li⟩ := p3 h19
    subst ei
    exact et_is (et_test (er_I0 (er_ixL (Q := fun i : Int => IsI i) (j := 0) (er_var rfl (Mn.mn s1 hm)) er_c rfl rfl) er_c)) (decide_eq_false (by show ¬ (15 : Int) < (i : Int); omega))
  have s12 := s1.trans s2
  refine sq_ifr (et_test (er_oN (er_fld (er_var rfl ⟨rfl, hc.mn s12⟩) (f_built cc)))) (fun d H3 s3 => ?_) fun d H3 s3 => ?_
  · have d : X.built.isNone = true := d
    rcases hR with ⟨_, rfl⟩ | ⟨b, hb, _⟩
    · exact sr_ret (er_f1 er_c) fun v H4 s4 r => k v H4 (s12.trans (s3.trans s4)) (r.a (hc.has.same (s12.trans s3)))
    · rw [hb] at d
      cases d
  have d : X.built.isNone = false := d
  rcases hR with ⟨hb, _⟩ | ⟨b, hb, hR⟩
  · rw [hb] at d
    cases d
  obtain ⟨ff, t1, t2⟩ := tab p p1 p2
  have s13 := s12.trans s3
  refine sr_rcallE (Rs := [IsCh C CL CB c eh X, IsNm ns]) (er_kdi er_c (er_v rfl) t1) t2 (ea_cons (er_var rfl ⟨rfl, hc.mn s13⟩) (ea_cons (er_var rfl (Mn.mn s13 hm)) ea_nil)) fun vs H4 s4 ha => ?_
  exact ⟨(eh, c, X, b, ns, out), ⟨hb, hR⟩, ha, fun v H5 s5 r => k v H5 (s13.trans (s4.trans s5)) r⟩
end
end Clk
set_option Elab.async false
set_option maxRecDepth 100000
set_option maxHeartbeats 4000000
set_option linter.all false
set_option autoImplicit false
/-! What the calls of changes.py do is what the specification's calls do. -/
namespace Clk
open CM (LD OD BD PC pcOf InvC ldOf bdOf prs)
open Lr72 (Tree leavesOf)
section
variable {s : Lr74.State}
theorem pc_len {c : Lr74.Chip} (I : InvC c) : (pcOf c).leaves.length = c.leaves.length := CM.ld_len I.len
theorem lk_source (a b : Int) : rSource (pcOf s.chip) [a, b] (pcOf (Lr74.act s (.source ⟨a, b⟩)).1.chip) (Lr74.act s (.source ⟨a, b⟩)).2 := by
  refine ⟨a, b, rfl, ?_⟩
  show (_ ∧ pcOf (if Lr72.okPlace ⟨a, b⟩ = false then (s, [-22]) else (Lr74.changed s { s.chip with source := ⟨a, b⟩ }, [0]) : Lr74.State × List Int).1.chip = _ ∧ (if Lr72.okPlace ⟨a, b⟩ = false then (s, [-22]) else (Lr74.changed s { s.chip with source := ⟨a, b⟩ }, [0]) : Lr74.State × List Int).2 = _) ∨ (_ ∧ pcOf (if Lr72.okPlace ⟨a, b⟩ = false then (s, [-22]) else (Lr74.changed s { s.chip with source := ⟨a, b⟩ }, [0]) : Lr74.State × List Int).1.chip = _ ∧ (if Lr72.okPlace ⟨a, b⟩ = false then (s, [-22]) else (Lr74.changed s { s.chip with source := ⟨a, b⟩ }, [0]) : Lr74.State × List Int).2 = _)
  cases o : Lr72.okPlace ⟨a, b⟩ with
  | false => exact .inl ⟨rfl, by rw [if_pos rfl], by rw [if_pos rfl]⟩
  | true => exact .inr ⟨rfl, by rw [if_neg (by decide)]; rfl, by rw [if_neg (by decide)]⟩
theorem okLf_iff (a b : Int) (w m : Nat) : okLf a b w m = true ↔ ¬ (Lr72.okPlace ⟨a, b⟩ = false ∨ 100000 < w ∨ 65535 < m) := by
  unfold okLf
  rw [Bool.and_eq_true, Bool.and_eq_true, decide_eq_true_eq, decide_eq_true_eq]
  cases Lr72.okPlace ⟨a, b⟩ with
  | false => simp
  | true => simp; omega
theorem lk_leaf (I : InvC s.chip) (a b : Int) (w m : Nat) : rLeaf (pcOf s.chip) [a, b, (w : Int), (m : Int)] (pcOf (Lr74.act s (.leaf ⟨a, b⟩ w m)).1.chip) (Lr74.act s (.leaf ⟨a, b⟩ w m)).2 := by
  have ll := pc_len I
  refine ⟨a, b, w, m, rfl, by omega, by rw [ll]; exact I.few, ?_⟩
  have e : Lr74.act s (.leaf ⟨a, b⟩ w m) = if Lr72.okPlace ⟨a, b⟩ = false ∨ 100000 < w ∨ 65535 < m then (s, [-22]) else if 8 ≤ s.chip.leaves.length then (s, [-28]) else
    (Lr74.changed s { s.chip with leaves := s.chip.leaves ++ [⟨⟨a, b⟩, Lr71.int w⟩], needs := s.chip.needs ++ [m], plan := none, built := none }, [Lr71.int s.chip.leaves.length]) := rfl
  rw [e, ll]
  by_cases o : okLf a b w m = true
  · rw [if_neg ((okLf_iff a b w m).mp o)]
    by_cases h8 : 8 ≤ s.chip.leaves.length
    · rw [if_pos h8]
      exact .inr (.inl ⟨o, by have := I.few; omega, rfl, rfl⟩)
    · rw [if_neg h8]
      refine .inr (.inr ⟨o, by omega, ?_, rfl⟩)
      show (⟨_, ldOf (s.chip.leaves ++ [_]) (s.chip.needs ++ [m]), _, _⟩ : PC) = _
      rw [CM.ld_append I.len]
      rfl
  · have o' : okLf a b w m = false := by simpa using o
    rw [if_pos (Classical.byContradiction fun z => o ((okLf_iff a b w m).mpr z))]
    exact .inl ⟨o', rfl, rfl⟩
theorem set_take {α : Type} {l : List α} {k : Nat} {x : α} (h : k < l.length) : l.set k x = l.take k ++ [x] ++ l.drop (k + 1) := by
  rw [List.set_eq_take_append_cons_drop, if_pos h]
  simp
theorem lk_move (I : InvC s.chip) (k : Nat) (a b : Int) (w m : Nat) : rMove (pcOf s.chip) [(k : Int), a, b, (w : Int), (m : Int)] (pcOf (Lr74.act s (.move k ⟨a, b⟩ w m)).1.chip) (Lr74.act s (.move k ⟨a, b⟩ w m)).2 := by
  have ll := pc_len I
  refine ⟨k, a, b, w, m, rfl, by omega, by rw [ll]; exact I.few, ?_⟩
  have e : Lr74.act s (.move k ⟨a, b⟩ w m) = if s.chip.leaves.length ≤ k then (s, [-2]) else if Lr72.okPlace ⟨a, b⟩ = false ∨ 100000 < w ∨ 65535 < m then (s, [-22]) else
    (Lr74.changed s { s.chip with leaves := s.chip.leaves.set k ⟨⟨a, b⟩, Lr71.int w⟩, needs := s.chip.needs.set k m, built := s.chip.built.map fun z => { z with tree := Lr74.moveLaid k (Lr74.place ⟨a, b⟩) z.tree } }, [0]) := rfl
  rw [e, ll]
  by_cases hk : s.chip.leaves.length ≤ k
  · rw [if_pos hk]
    exact .inl ⟨hk, rfl, rfl⟩
  · rw [if_neg hk]
    by_cases o : okLf a b w m = true
    · rw [if_neg ((okLf_iff a b w m).mp o)]
      refine .inr (.inr ⟨by omega, o, ?_, rfl⟩)
      show (⟨Lr74.place s.chip.source, ldOf (s.chip.leaves.set k _) (s.chip.needs.set k m), s.chip.plan.map (fun t => (prs t (s.chip.leaves.set k _).length).1), (s.chip.built.map fun z => { z with tree := Lr74.moveLaid k (Lr74.place ⟨a, b⟩) z.tree }).map (bdOf (s.chip.leaves.set k _).length)⟩ : PC) = _
      rw [CM.ld_set I.len, List.length_set, Option.map_map, set_take (l := ldOf s.chip.leaves s.chip.needs) (by rw [CM.ld_len I.len]; omega)]
      have eb : (bdOf s.chip.leaves.length ∘ fun z : Lr74.Built => { z with tree := Lr74.moveLaid k (Lr74.place ⟨a, b⟩) z.tree }) = bdOf s.chip.leaves.length := funext fun z => CM.move_bd _ _ _ z
      rw [eb]
      rfl
    · have o' : okLf a b w m = false := by simpa using o
      rw [if_pos (Classical.byContradiction fun z => o ((okLf_iff a b w m).mpr z))]
      exact .inr (.inl ⟨by omega, o', rfl, rfl⟩)
theorem prs_le {c : Lr74.Chip} (I : InvC c) {t : Tree} (h : (leavesOf t).Perm (List.range c.leaves.length)) : (prs t c.leaves.length).1.length + 1 = c.leaves.length := by
  rw [CM.prs_len, ← CM.leaves_len, h.length_eq, List.length_range]
theorem bd_lens {c : Lr74.Chip} {b : Lr74.Built} (h : CM.Sits c.leaves b.tree) : (bdOf c.leaves.length b).pairs.length + 1 = c.leaves.length ∧ (bdOf c.leaves.length b).places.length = (bdOf c.leaves.length b).pairs.length ∧ (bdOf c.leaves.length b).wires.length = (bdOf c.leaves.length b).pairs.length := by
  have e1 : (bdOf c.leaves.length b).pairs.length = CM.jn (Lr72.shapeOf b.tree) := CM.prs_len _ _
  have e2 : (bdOf c.leaves.length b).places.length = CM.jn (Lr72.shapeOf b.tree) := by
    show ((Lr72.laidJoints b.tree).map _).length = _
    rw [List.length_map, CM.lj_len]
  have e3 : (bdOf c.leaves.length b).wires.length = CM.jn (Lr72.shapeOf b.tree) := by
    show ((Lr72.laidJoints b.tree).map _).length = _
    rw [List.length_map, CM.lj_len]
  rw [e1, e2, e3]
  exact ⟨h.jn, rfl, rfl⟩
theorem lk_drop (I : InvC s.chip) (k : Nat) : rDrop (pcOf s.chip) [(k : Int)] (pcOf (Lr74.act s (.drop k)).1.chip) (Lr74.act s (.drop k)).2 := by
  have ll := pc_len I
  refine ⟨k, rfl, by rw [ll]; exact I.few, fun ps hp => ?_, fun b hb => ?_, ?_⟩
  · obtain ⟨t, ht, rfl⟩ := Option.map_eq_some_iff.mp hp
    have := prs_le I (I.plan t ht).2
    have := I.few
    omega
  · obtain ⟨b0, hb0, rfl⟩ := Option.map_eq_some_iff.mp hb
    have bl := bd_lens (I.built b0 hb0).2
    have := I.few
    exact ⟨by omega, bl.2.1, bl.2.2⟩
  · have e : Lr74.act s (.drop k) = if s.chip.leaves.length ≤ k then (s, [-2]) else (Lr74.changed s (CM.dropC s.chip k), [Lr71.int (s.chip.leaves.length - 1)]) := rfl
    rw [e, ll]
    by_cases hk : s.chip.leaves.length ≤ k
    · rw [if_pos hk]
      exact .inl ⟨hk, rfl, rfl⟩
    · rw [if_neg hk]
      obtain ⟨_, d1, d2, d3, d4, d5, d6⟩ := CM.drop_pc I (show k < s.chip.leaves.length by omega)
      refine .inr ⟨by omega, rfl, d1, d2, fun z => ?_, fun z => ?_, fun z => ?_, d4⟩
      · have := d5 (Option.map_eq_none_iff.mp z)
        show (CM.dropC s.chip k).plan.map _ = none
        rw [this]
        rfl
      · have := d6 (Option.map_eq_none_iff.mp z)
        show (CM.dropC s.chip k).built.map _ = none
        rw [this]
        rfl
      · have := d3 z
        constructor
        · show (CM.dropC s.chip k).plan.map _ = none
          rw [this.1]
          rfl
        · show (CM.dropC s.chip k).built.map _ = none
          rw [this.2]
          rfl
theorem high_le {c : Lr74.Chip} (I : InvC c) {t : Tree} (h : (leavesOf t).Perm (List.range c.leaves.length)) : CM.high t ≤ 7 ∧ (prs t c.leaves.length).1.length ≤ 7 := by
  have h1 := prs_le I h
  have h2 := CM.high_jn t
  rw [CM.prs_len] at h1 ⊢
  have := I.few
  omega
theorem lk_shape (I : InvC s.chip) (l : List Nat) (hl : l.length ≤ 1000) : rShape (pcOf s.chip) (l.map fun n : Nat => (n : Int)) (pcOf (Lr74.act s (.shape l)).1.chip) (Lr74.act s (.shape l)).2 := by
  have ll := pc_len I
  refine ⟨l, rfl, hl, by rw [ll]; exact I.few, ?_⟩
  rw [ll]
  by_cases h0 : s.chip.leaves = []
  · have e : Lr74.act s (.shape l) = (s, [-16]) := if_pos h0
    rw [e]
    exact .inl ⟨by rw [h0]; rfl, rfl, rfl⟩
  · have hn : s.chip.leaves.length ≠ 0 := fun z => h0 (List.length_eq_zero_iff.mp z)
    have e : Lr74.act s (.shape l) = match Lr72.treeOf s.chip.leaves.length l with
      | none => (s, [-22])
      | some t => (Lr74.changed s { s.chip with plan := some t }, [0]) := if_neg h0
    have te := CM.tree_eq (show 1 ≤ s.chip.leaves.length by omega) l
    rw [e, te.1]
    cases o : CM.okB s.chip.leaves.length l with
    | false => exact .inr (.inl ⟨hn, rfl, rfl, rfl⟩)
    | true =>
      have := high_le I (te.2 o)
      exact .inr (.inr ⟨hn, rfl, by omega, by omega, rfl, rfl⟩)
theorem lk_plan (I : InvC s.chip) (b : Nat) : rPlan (pcOf s.chip) [(b : Int)] (pcOf (Lr74.act s (.plan b)).1.chip) (Lr74.act s (.plan b)).2 := by
  have ll := pc_len I
  refine ⟨b, rfl, by omega, by rw [ll]; exact I.few, CM.ld_needs I.need, ?_⟩
  rw [ll]
  have e : Lr74.act s (.plan b) = if 1 < b then (s, [-22]) else if s.chip.leaves = [] then (s, [-16]) else if Lr72.few < s.chip.leaves.length then (s, [-7]) else
    match (if b = 0 then Lr72.best s.chip.leaves (Lr72.allShapes s.chip.leaves.length) else Lr73.least s.chip.leaves s.chip.needs (Lr72.allShapes s.chip.leaves.length)) with
    | none => (s, [-16])
    | some t => (Lr74.changed s { s.chip with plan := some t }, [(Lr72.sum s.chip.leaves t).wire, (Lr72.sum s.chip.leaves t).time, Lr73.power s.chip.leaves s.chip.needs t]) := rfl
  rw [e]
  by_cases h1 : 1 < b
  · rw [if_pos h1]
    exact .inl ⟨by omega, rfl, rfl⟩
  rw [if_neg h1]
  by_cases h0 : s.chip.leaves = []
  · rw [if_pos h0]
    exact .inr (.inl ⟨by omega, by rw [h0]; rfl, rfl, rfl⟩)
  have hn : s.chip.leaves.length ≠ 0 := fun z => h0 (List.length_eq_zero_iff.mp z)
  rw [if_neg h0]
  by_cases h6 : Lr72.few < s.chip.leaves.length
  · rw [if_pos h6]
    exact .inr (.inr (.inl ⟨by omega, hn, h6, rfl, rfl⟩))
  rw [if_neg h6]
  have h6 : ¬ 6 < s.chip.leaves.length := h6
  have eb : (if b = 0 then Lr72.best s.chip.leaves (Lr72.allShapes s.chip.leaves.length) else Lr73.least s.chip.leaves s.chip.needs (Lr72.allShapes s.chip.leaves.length)) = (if decide ((b : Int) = 1) then Lr73.least s.chip.leaves s.chip.needs (Lr72.allShapes s.chip.leaves.length) else Lr72.best s.chip.leaves (Lr72.allShapes s.chip.leaves.length)) := by
    by_cases z : b = 0
    · rw [if_pos z, if_neg (by rw [decide_eq_true_eq]; omega)]
    · rw [if_neg z, if_pos (by rw [decide_eq_true_eq]; omega)]
  rw [eb]
  obtain ⟨t, ht⟩ := CM.plan_some (ls := s.chip.leaves) (ns := s.chip.needs) (by omega) (decide ((b : Int) = 1))
  obtain ⟨pm, i, hi, hL⟩ := CM.plan_best I.len I.need (by omega) _ ht
  rw [ht]
  have lt : ∀ k ∈ leavesOf t, k < s.chip.leaves.length := fun k hk => List.mem_range.mp (pm.mem_iff.mp hk)
  have sm := CM.odT_sum I.len (ns := s.chip.needs) t lt
  have hh := high_le I pm
  refine .inr (.inr (.inr ⟨by omega, hn, by omega, CM.odT (ldOf s.chip.leaves s.chip.needs) t, ?_, ?_, ?_, ?_, ?_⟩))
  · refine ⟨i, hi, (List.getElem?_eq_some_iff.mp hi).1, fun j hj => ?_⟩
    have ej := CM.getD_at (d := OD.none) hj
    have ei : (CM.allC (ldOf s.chip.leaves s.chip.needs) (List.range s.chip.leaves.length)).getD i OD.none = CM.odT (ldOf s.chip.leaves s.chip.needs) t := by
      rw [List.getD, hi]
      rfl
    have := hL j _ ej
    have gl : (pcOf s.chip).leaves = ldOf s.chip.leaves s.chip.needs := rfl
    rw [gl]
    dsimp only
    rw [ei]
    exact this
  · rw [CM.odT_tree]
    omega
  · rw [CM.odT_tree]
    omega
  · rw [CM.odT_tree]
    rfl
  · rw [sm.2.1, sm.2.2, CM.odT_power I.len I.need t lt]
theorem lk_build (I : InvC s.chip) {ns : List Int} : rBuild (pcOf s.chip) ns (pcOf (Lr74.act s .build).1.chip) (Lr74.act s .build).2 := by
  have ll := pc_len I
  have e : Lr74.act s .build = match s.chip.plan with
    | none => (s, [-16])
    | some t => (Lr74.changed s { s.chip with built := some (Lr74.build s.chip t) }, [(Lr74.build s.chip t).wire]) := rfl
  rw [e]
  cases hp : s.chip.plan with
  | none =>
    refine .inl ⟨?_, rfl, rfl⟩
    show s.chip.plan.map _ = none
    rw [hp]
    rfl
  | some t =>
    have q := I.plan t hp
    have hl := prs_le I q.2
    have lt : ∀ k ∈ leavesOf t, k < s.chip.leaves.length := fun k hk => List.mem_range.mp (q.2.mem_iff.mp hk)
    have hh := high_le I q.2
    have be := CM.build_eq I.len q.1 q.2 s.chip rfl
    have be : CM.buildBD (pcOf s.chip).leaves (prs t s.chip.leaves.length).1 (pcOf s.chip).src = bdOf s.chip.leaves.length (Lr74.build s.chip t) := be
    have si : CM.Sits s.chip.leaves (Lr74.build s.chip t).tree := CM.Sits.lay q.2 _
    have bl := bd_lens si
    have f8 := I.few
    refine .inr ⟨(prs t s.chip.leaves.length).1, ?_, ⟨by rw [ll]; omega, by rw [ll]; omega, by rw [ll]; exact CM.prs_ok lt, CM.ld_needs I.need, CM.ocs_areas I.len lt hh.1⟩, ?_, ?_, ?_⟩
    · show s.chip.plan.map _ = _
      rw [hp]
      rfl
    · rw [be]
      omega
    · rw [be]
      show (⟨_, _, s.chip.plan.map _, _⟩ : PC) = _
      rfl
    · rw [be, CM.wire_eq]
theorem lk_mend (I : InvC s.chip) {ns : List Int} : rMend (pcOf s.chip) ns (pcOf (Lr74.act s .mend).1.chip) (Lr74.act s .mend).2 := by
  have ll := pc_len I
  have e : Lr74.act s .mend = match s.chip.built with
    | none => (s, [-16])
    | some b => (Lr74.changed s { s.chip with built := some (Lr74.mend true s.chip b) }, [(Lr74.mend true s.chip b).wire - b.wire]) := rfl
  rw [e]
  cases hp : s.chip.built with
  | none =>
    refine .inl ⟨?_, rfl, rfl⟩
    show s.chip.built.map _ = none
    rw [hp]
    rfl
  | some b =>
    have q := I.built b hp
    have bl := bd_lens q.2
    have f8 := I.few
    have me : CM.mendBD (bdOf s.chip.leaves.length b) (pcOf s.chip).leaves (pcOf s.chip).src = bdOf s.chip.leaves.length (Lr74.mend true s.chip b) := CM.mend_eq I.len q.2
    have si : CM.Sits s.chip.leaves (Lr74.mend true s.chip b).tree := q.2.mend true
    have bl2 := bd_lens si
    refine .inr ⟨bdOf s.chip.leaves.length b, ?_, ⟨by rw [ll]; omega, by rw [ll]; omega, by rw [ll]; exact CM.prs_ok q.2.lt, bl.2.1, bl.2.2⟩, ?_, ?_, ?_⟩
    · show s.chip.built.map _ = _
      rw [hp]
      rfl
    · rw [me]
      omega
    · rw [me]
      rfl
    · rw [me, CM.wire_eq, CM.wire_eq]
theorem lk_retie (I : InvC s.chip) {ns : List Int} : rRetie (pcOf s.chip) ns (pcOf (Lr74.act s .retie).1.chip) (Lr74.act s .retie).2 := by
  have ll := pc_len I
  have e : Lr74.act s .retie = match s.chip.built with
    | none => (s, [-16])
    | some b => (Lr74.changed s { s.chip with built := some (Lr74.mend false s.chip b) }, [(Lr74.mend false s.chip b).wire]) := rfl
  rw [e]
  cases hp : s.chip.built with
  | none =>
    refine .inl ⟨?_, rfl, rfl⟩
    show s.chip.built.map _ = none
    rw [hp]
    rfl
  | some b =>
    have q := I.built b hp
    have bl := bd_lens q.2
    have f8 := I.few
    have me : CM.mendBD (CM.bareBD (bdOf s.chip.leaves.length b)) (pcOf s.chip).leaves (pcOf s.chip).src = bdOf s.chip.leaves.length (Lr74.mend false s.chip b) := CM.retie_eq I.len q.2
    have si : CM.Sits s.chip.leaves (Lr74.mend false s.chip b).tree := q.2.mend false
    have bl2 := bd_lens si
    refine .inr ⟨bdOf s.chip.leaves.length b, ?_, ⟨by rw [ll]; omega, by rw [ll]; omega, by rw [ll]; exact CM.prs_ok q.2.lt, bl.2.1, bl.2.2⟩, ?_, ?_, ?_⟩
    · show s.chip.built.map _ = _
      rw [hp]
      rfl
    · rw [me]
      omega
    · rw [me]
      rfl
    · rw [me, CM.wire_eq]
end
end Clk
set_option Elab.async false
set_option maxRecDepth 100000
set_option maxHeartbeats 4000000
set_option linter.all false
set_option autoImplicit false
/-! What the calls of chip.py and telling.py do is what the specification's calls do. -/
namespace Clk
open CM (LD OD BD PC WD pcOf InvC InvS InvN ldOf bdOf prs Cl CallIs)
open Lr72 (Tree leavesOf laidJoints)
def bk (l : List Lr74.Chip) : List PC := (l.map pcOf).reverse
theorem bk_len (l : List Lr74.Chip) : (bk l).length = l.length := by unfold bk; rw [List.length_reverse, List.length_map]
theorem bk_cons (c : Lr74.Chip) (l : List Lr74.Chip) : bk (c :: l) = bk l ++ [pcOf c] := by unfold bk; rw [List.map_cons, List.reverse_cons]
theorem bk_take (l : List Lr74.Chip) : bk (l.take 20) = last20 (bk l) := by
  unfold last20
  rw [bk_len]
  unfold bk
  rw [List.map_take, List.reverse_take, List.length_map]
section
variable {s : Lr74.State}
theorem lk_new {X : PC} {E L : List PC} : rNew X E L (pcOf (Lr74.act s .new).1.chip) (bk (Lr74.act s .new).1.back) (bk (Lr74.act s .new).1.fore) (Lr74.act s .new).2 := ⟨rfl, rfl, rfl, rfl⟩
theorem lk_undo (I : InvN s) : rUndo (pcOf s.chip) (bk s.back) (bk s.fore) (pcOf (Lr74.act s .undo).1.chip) (bk (Lr74.act s .undo).1.back) (bk (Lr74.act s .undo).1.fore) (Lr74.act s .undo).2 := by
  have e : Lr74.act s .undo = match s.back with | [] => (s, [-6]) | x :: l => (⟨x, l, s.chip :: s.fore⟩, [Lr71.int l.length]) := rfl
  unfold InvN at I
  refine ⟨by rw [bk_len]; omega, by rw [bk_len]; omega, ?_⟩
  rw [e]
  cases hb : s.back with
  | nil => exact .inl ⟨rfl, rfl, by rw [hb], rfl, rfl⟩
  | cons y l =>
    refine .inr ⟨bk l, pcOf y, bk_cons y l, rfl, rfl, bk_cons _ _, ?_⟩
    rw [bk_len]
    rfl
theorem lk_redo (I : InvN s) : rRedo (pcOf s.chip) (bk s.back) (bk s.fore) (pcOf (Lr74.act s .redo).1.chip) (bk (Lr74.act s .redo).1.back) (bk (Lr74.act s .redo).1.fore) (Lr74.act s .redo).2 := by
  have e : Lr74.act s .redo = match s.fore with | [] => (s, [-6]) | x :: l => (⟨x, s.chip :: s.back, l⟩, [Lr71.int l.length]) := rfl
  unfold InvN at I
  refine ⟨by rw [bk_len]; omega, by rw [bk_len]; omega, ?_⟩
  rw [e]
  cases hb : s.fore with
  | nil => exact .inl ⟨rfl, rfl, rfl, by rw [hb], rfl⟩
  | cons y l =>
    refine .inr ⟨bk l, pcOf y, bk_cons y l, rfl, bk_cons _ _, rfl, ?_⟩
    rw [bk_len]
    rfl
theorem lk_st (I : InvN s) {c : Cl} {x : Lr74.Call} (h : CallIs c x) (h1 : ¬ (1 ≤ c.1 ∧ c.1 ≤ 9)) (h12 : ¬ 12 ≤ c.1) : rSt c.1 (pcOf s.chip) (bk s.back) (bk s.fore) (pcOf (Lr74.act s x).1.chip) (bk (Lr74.act s x).1.back) (bk (Lr74.act s x).1.fore) (Lr74.act s x).2 := by
  cases h with
  | new => exact .inl ⟨rfl, lk_new⟩
  | undo => exact .inr (.inl ⟨rfl, lk_undo I⟩)
  | redo => exact .inr (.inr ⟨rfl, lk_redo I⟩)
  | source a b => exact absurd ⟨by dsimp only; decide, by dsimp only; decide⟩ h1
  | leaf a b w m => exact absurd ⟨by dsimp only; decide, by dsimp only; decide⟩ h1
  | move k a b w m => exact absurd ⟨by dsimp only; decide, by dsimp only; decide⟩ h1
  | drop k => exact absurd ⟨by dsimp only; decide, by dsimp only; decide⟩ h1
  | shape l hl => exact absurd ⟨by dsimp only; decide, by dsimp only; decide⟩ h1
  | plan b => exact absurd ⟨by dsimp only; decide, by dsimp only; decide⟩ h1
  | build => exact absurd ⟨by dsimp only; decide, by dsimp only; decide⟩ h1
  | mend => exact absurd ⟨by dsimp only; decide, by dsimp only; decide⟩ h1
  | retie => exact absurd ⟨by dsimp only; decide, by dsimp only; decide⟩ h1
  | told => exact absurd (by dsimp only; decide) h12
  | sums => exact absurd (by dsimp only; decide) h12
  | ends => exact absurd (by dsimp only; decide) h12
  | when_ k => exact absurd (by dsimp only; decide) h12
  | joint k => exact absurd (by dsimp only; decide) h12
  | short => exact absurd (by dsimp only; decide) h12
  | anew => exact absurd (by dsimp only; decide) h12
  | ticking i => exact absurd (by dsimp only; decide) h12
theorem nds_low {b : BD} {ls : List LD} (h : CM.okNeeds ls) (i k : Nat) : (CM.nds b ls i).getD k 0 < 65536 := by
  unfold CM.nds
  rw [CM.getD_needs]
  by_cases hk : k < (CM.ocs ls b.pairs i).length
  · exact CM.ocs_needs h i _ (List.mem_of_getElem? (CM.getD_at (d := OD.none) hk))
  · rw [List.getD, List.getElem?_eq_none (by omega)]
    exact (by decide : 0 < 65536)
theorem wrs_low {b : BD} {ls : List LD} {src : Pl} (h : CM.okNeeds ls) : ∀ i, ∀ x ∈ CM.wrs b ls src i, x.needs < 65536
  | 0, x, hx => by
    rw [List.mem_singleton.mp hx]
    exact nds_low h _ _
  | i + 1, x, hx => by
    rcases List.mem_append.mp hx with z | z
    · exact wrs_low h i x z
    · have z : x ∈ ([_, _] : List WD) := z
      rcases List.mem_cons.mp z with rfl | z
      · exact nds_low h _ _
      · rw [List.mem_singleton.mp z]
        exact nds_low h _ _
theorem ok_bd {c : Lr74.Chip} (I : InvC c) {b : Lr74.Built} (hb : c.built = some b) : okBd (pcOf c).leaves (bdOf c.leaves.length b) := by
  have q := I.built b hb
  have bl := bd_lens q.2
  have f8 := I.few
  have ll := pc_len I
  exact ⟨by rw [ll]; omega, by rw [ll]; omega, by rw [ll]; exact CM.prs_ok q.2.lt, bl.2.1, bl.2.2⟩
theorem pc_built {c : Lr74.Chip} {b : Lr74.Built} (hb : c.built = some b) : (pcOf c).built = some (bdOf c.leaves.length b) := by
  show c.built.map _ = _
  rw [hb]
  rfl
theorem pc_none {c : Lr74.Chip} (hb : c.built = none) : (pcOf c).built = none := by
  show c.built.map _ = _
  rw [hb]
  rfl
/-- of what is built -/
theorem te_of {p : Int} {ns out : List Int} (h1 : 13 ≤ p) (h2 : p ≤ 19) (h3 : p = 19 → ∃ i : Nat, ns = [(i : Int)] ∧ i ≤ 15) {f : Lr74.Built → List Int} (e : out = match s.chip.built with | none => [-16] | some b => f b) (k : ∀ b, s.chip.built = some b → rOf p (pcOf s.chip) (bdOf s.chip.leaves.length b) ns (f b)) : rTe p (pcOf s.chip) ns out := by
  refine .inr (.inr ⟨h1, h2, h3, ?_⟩)
  cases hb : s.chip.built with
  | none =>
    rw [hb] at e
    exact .inl ⟨pc_none hb, e⟩
  | some b =>
    rw [hb] at e
    exact .inr ⟨_, pc_built hb, by rw [e]; exact k b hb⟩
theorem wb_snd {f : Lr74.Built → List Int} : (Lr74.withBuilt s fun b => (s, f b)).2 = match s.chip.built with | none => [-16] | some b => f b := by
  unfold Lr74.withBuilt
  cases s.chip.built <;> rfl
theorem lk_te (J : InvS s) {c : Cl} {x : Lr74.Call} (h : CallIs c x) (h12 : 12 ≤ c.1) : rTe c.1 (pcOf s.chip) c.2 (Lr74.act s x).2 := by
  have I := J.chip
  have ll := pc_len I
  have hN := CM.ld_needs (ls := s.chip.leaves) I.need
  cases h with
  | told =>
    refine .inl ⟨rfl, fun ps hp => ?_, ?_⟩
    · obtain ⟨t, ht, rfl⟩ := Option.map_eq_some_iff.mp hp
      have := prs_le I (I.plan t ht).2
      have := I.few
      omega
    · show (match s.chip.plan with | none => (s, [-16]) | some t => (s, Lr71.int (Lr72.pairsOf s.chip.leaves.length t).length :: (Lr72.pairsOf s.chip.leaves.length t).map Lr71.int) : Lr74.State × List Int).2 = match s.chip.plan.map (fun t => (prs t s.chip.leaves.length).1) with | none => [-16] | some ps => ((2 * ps.length : Nat) : Int) :: ps.flatMap fun p => [(p.1 : Int), (p.2 : Int)]
      cases s.chip.plan with
      | none => rfl
      | some t =>
        have q := CM.told_eq t s.chip.leaves.length
        show Lr71.int (Lr72.pairsOf s.chip.leaves.length t).length :: (Lr72.pairsOf s.chip.leaves.length t).map Lr71.int = _
        rw [q.2, q.1]
        rfl
  | sums =>
    refine te_of (f := fun b => [b.wire, b.power s.chip.needs, b.trunk]) (by decide) (by decide) (fun z => absurd z (by decide)) wb_snd fun b hb => ?_
    refine (show rSums _ _ [] _ from ⟨ok_bd I hb, wrs_low hN _, ?_⟩)
    have e1 : (bdOf s.chip.leaves.length b).all = b.wire := CM.wire_eq _ _
    have e2 : CM.pwr (CM.wrsAll (bdOf s.chip.leaves.length b) (pcOf s.chip).leaves (pcOf s.chip).src) = b.power s.chip.needs := CM.power_eq I.len (I.built b hb).2 _ I.need
    rw [e1, e2]
    rfl
  | ends =>
    refine te_of (f := fun b => [(b.times s.chip.leaves).foldl min ((b.times s.chip.leaves).headD 0), (b.times s.chip.leaves).foldl max ((b.times s.chip.leaves).headD 0)]) (by decide) (by decide) (fun z => absurd z (by decide)) wb_snd fun b hb => ?_
    have mm := CM.moms_mem I.len (I.built b hb).2
    exact (show rEnds _ _ [] _ from ⟨ok_bd I hb, _, _, fun m hm hx => (CM.min_is mm hm hx).symm, fun m hm hx => (CM.max_is mm hm hx).symm, rfl⟩)
  | when_ k =>
    refine te_of (f := fun b => match Lr74.whenAt s.chip.leaves k b.tree with | none => [-2] | some t => [b.trunk + t]) (by dsimp only; decide) (by dsimp only; decide) (fun z => absurd z (by dsimp only; decide)) ?_ fun b hb => ?_
    · show (match s.chip.built with | none => (s, [-16]) | some b => (match Lr74.whenAt s.chip.leaves k b.tree with | none => (s, [-2]) | some t => (s, [b.trunk + t])) : Lr74.State × List Int).2 = _
      cases s.chip.built with
      | none => rfl
      | some b =>
        dsimp only
        cases Lr74.whenAt s.chip.leaves k b.tree <;> rfl
    · refine (show rWhen _ _ _ _ from ⟨k, rfl, ok_bd I hb, ?_⟩)
      have q := CM.when_eq (k := k) I.len (I.built b hb).2
      rw [ll]
      cases e : Lr74.whenAt s.chip.leaves k b.tree with
      | none =>
        rw [e] at q
        exact .inl ⟨q, rfl⟩
      | some t =>
        rw [e] at q
        exact .inr ⟨b.trunk + t, q.1, q.2, rfl⟩
  | joint k =>
    refine te_of (f := fun b => match (laidJoints b.tree)[k]? with | none => [-2] | some (q, wx, wy) => [0, q.s, q.t, wx, wy]) (by dsimp only; decide) (by dsimp only; decide) (fun z => absurd z (by dsimp only; decide)) ?_ fun b hb => ?_
    · show (match s.chip.built with | none => (s, [-16]) | some b => (match (laidJoints b.tree)[k]? with | none => (s, [-2]) | some (q, wx, wy) => (s, [0, q.s, q.t, wx, wy])) : Lr74.State × List Int).2 = _
      cases s.chip.built with
      | none => rfl
      | some b =>
        dsimp only
        cases (laidJoints b.tree)[k]? <;> rfl
    · refine (show rJoint _ _ _ _ from ⟨k, rfl, ok_bd I hb, ?_⟩)
      have bl := bd_lens (I.built b hb).2
      have pl : (bdOf s.chip.leaves.length b).places = (laidJoints b.tree).map (·.1) := rfl
      have wl : (bdOf s.chip.leaves.length b).wires = (laidJoints b.tree).map (fun z => (z.2.1, z.2.2)) := rfl
      have ln := bl.2.1
      rw [pl, List.length_map] at ln
      cases e : (laidJoints b.tree)[k]? with
      | none =>
        refine .inl ⟨?_, rfl⟩
        have := List.getElem?_eq_none_iff.mp e
        omega
      | some z =>
        obtain ⟨q, wx, wy⟩ := z
        refine .inr ⟨q, (wx, wy), ?_, ?_, ?_, rfl⟩
        · have := (List.getElem?_eq_some_iff.mp e).1
          omega
        · rw [pl, List.getElem?_map, e]
          rfl
        · rw [wl, List.getElem?_map, e]
          rfl
  | short =>
    refine te_of (f := fun b => [Lr71.int (b.short s.chip.source)]) (by decide) (by decide) (fun z => absurd z (by decide)) wb_snd fun b hb => ?_
    refine (show rShort _ _ [] _ from ⟨ok_bd I hb, ?_⟩)
    have e2 : CM.shrt (CM.wrsAll (bdOf s.chip.leaves.length b) (pcOf s.chip).leaves (pcOf s.chip).src) = b.short s.chip.source := CM.short_eq I.len (I.built b hb).2 _
    rw [e2]
    rfl
  | anew =>
    refine te_of (f := fun b => match s.chip.plan with | none => [-2] | some t => [b.wire, (Lr74.build s.chip t).wire]) (by decide) (by decide) (fun z => absurd z (by decide)) ?_ fun b hb => ?_
    · show (match s.chip.built with | none => (s, [-16]) | some b => (match s.chip.plan with | none => (s, [-2]) | some t => (s, [b.wire, (Lr74.build s.chip t).wire])) : Lr74.State × List Int).2 = _
      cases s.chip.built with
      | none => rfl
      | some b =>
        dsimp only
        cases s.chip.plan <;> rfl
    · have ob := ok_bd I hb
      refine (show rAnew _ _ [] _ from ⟨by have := ob.1; have := ob.2.1; have := ob.2.2.2.2; omega, ?_⟩)
      cases hp : s.chip.plan with
      | none =>
        refine .inl ⟨?_, rfl⟩
        show s.chip.plan.map _ = none
        rw [hp]
        rfl
      | some t =>
        have q := I.plan t hp
        have hl := prs_le I q.2
        have lt : ∀ k ∈ leavesOf t, k < s.chip.leaves.length := fun k hk => List.mem_range.mp (q.2.mem_iff.mp hk)
        have hh := high_le I q.2
        have be : CM.buildBD (pcOf s.chip).leaves (prs t s.chip.leaves.length).1 (pcOf s.chip).src = bdOf s.chip.leaves.length (Lr74.build s.chip t) := CM.build_eq I.len q.1 q.2 s.chip rfl
        have si : CM.Sits s.chip.leaves (Lr74.build s.chip t).tree := CM.Sits.lay q.2 _
        have bl := bd_lens si
        have f8 := I.few
        refine .inr ⟨(prs t s.chip.leaves.length).1, ?_, ⟨by rw [ll]; omega, by rw [ll]; omega, by rw [ll]; exact CM.prs_ok lt, CM.ld_needs I.need, CM.ocs_areas I.len lt hh.1⟩, ?_, ?_⟩
        · show s.chip.plan.map _ = _
          rw [hp]
          rfl
        · rw [be]
          omega
        · rw [be, CM.wire_eq, CM.wire_eq]
  | ticking i =>
    by_cases c : 15 < i
    · refine .inr (.inl ⟨rfl, i, rfl, c, ?_⟩)
      show (if 15 < i then (s, [-22]) else _ : Lr74.State × List Int).2 = _
      rw [if_pos c]
    · refine te_of (f := fun b => [Lr74.tickingOf s.chip.needs b i]) (by dsimp only; decide) (by dsimp only; decide) (fun _ => ⟨i, rfl, by omega⟩) ?_ fun b hb => ?_
      · show (if 15 < i then (s, [-22]) else Lr74.withBuilt s fun b => (s, [Lr74.tickingOf s.chip.needs b i]) : Lr74.State × List Int).2 = _
        rw [if_neg c]
        exact wb_snd
      · refine (show rTick _ _ _ _ from ⟨i, rfl, ok_bd I hb, ?_⟩)
        have e2 : CM.tick i (CM.wrsAll (bdOf s.chip.leaves.length b) (pcOf s.chip).leaves (pcOf s.chip).src) = Lr74.tickingOf s.chip.needs b i := CM.ticking_eq I.len (I.built b hb).2 _ i
        rw [e2]
  | new => exact absurd h12 (by dsimp only; decide)
  | undo => exact absurd h12 (by dsimp only; decide)
  | redo => exact absurd h12 (by dsimp only; decide)
  | source a b => exact absurd h12 (by dsimp only; decide)
  | leaf a b w m => exact absurd h12 (by dsimp only; decide)
  | move k a b w m => exact absurd h12 (by dsimp only; decide)
  | drop k => exact absurd h12 (by dsimp only; decide)
  | shape l hl => exact absurd h12 (by dsimp only; decide)
  | plan b => exact absurd h12 (by dsimp only; decide)
  | build => exact absurd h12 (by dsimp only; decide)
  | mend => exact absurd h12 (by dsimp only; decide)
  | retie => exact absurd h12 (by dsimp only; decide)
/-! the changes, by their number -/
def rCh (p : Int) : Rl := if p = 1 then rSource else if p = 2 then rLeaf else if p = 3 then rMove else if p = 4 then rDrop else if p = 5 then rShape else if p = 6 then rPlan else if p = 7 then rBuild else if p = 8 then rMend else rRetie
theorem lk_ch (I : InvC s.chip) {c : Cl} {x : Lr74.Call} (h : CallIs c x) (h1 : 1 ≤ c.1) (h9 : c.1 ≤ 9) : rCh c.1 (pcOf s.chip) c.2 (pcOf (Lr74.act s x).1.chip) (Lr74.act s x).2 := by
  cases h with
  | source a b => exact lk_source a b
  | leaf a b w m => exact lk_leaf I a b w m
  | move k a b w m => exact lk_move I k a b w m
  | drop k => exact lk_drop I k
  | shape l hl => exact lk_shape I l (by omega)
  | plan b => exact lk_plan I b
  | build => exact lk_build I (ns := [])
  | mend => exact lk_mend I (ns := [])
  | retie => exact lk_retie I (ns := [])
  | new => exact absurd h1 (by dsimp only; decide)
  | undo => exact absurd h9 (by dsimp only; decide)
  | redo => exact absurd h9 (by dsimp only; decide)
  | told => exact absurd h9 (by dsimp only; decide)
  | sums => exact absurd h9 (by dsimp only; decide)
  | ends => exact absurd h9 (by dsimp only; decide)
  | when_ k => exact absurd h9 (by dsimp only; decide)
  | joint k => exact absurd h9 (by dsimp only; decide)
  | short => exact absurd h9 (by dsimp only; decide)
  | anew => exact absurd h9 (by dsimp only; decide)
  | ticking i => exact absurd h9 (by dsimp only; decide)
end
end Clk
set_option Elab.async false
set_option maxRecDepth 100000
set_option maxHeartbeats 4000000
set_option linter.all false
set_option autoImplicit false
namespace Clk
open PySem PySem.Spec PyProof.Rows L2
open CM (LD OD BD PC Cl encC rawC FormC CallIs InvS InvN pcOf)
/-! ### the list handed in: it is only read -/
def IsArg (K : PySem.W.Frag) (l : List Int) : Rp := fun v H => ∃ a, v = .ref a ∧ ((∃ o, H a = some (.frz o (.lst (l.map V.int)))) ∨ ∃ (o : Obj) (its : Array Value) (n : Nat), K.lookup a = some o ∧ o.cls = .type "list" ∧ o.dict = none ∧ o.data = .seq its n ∧ its.size ≤ sizeLine ∧ Vals (l.map V.int) its.toList)
theorem IsArg.sq {K : PySem.W.Frag} {l : List Int} {v : V} {H : Hp} (h : IsArg K l v H) : ∃ a, v = .ref a ∧ SqL K H a (l.map V.int) := let ⟨a, e, h⟩ := h; ⟨a, e, h.imp (fun z => .inr z) id⟩
instance {K : PySem.W.Frag} {l : List Int} : Mn (IsArg K l) := ⟨fun s ⟨a, e, h⟩ => ⟨a, e, h.imp (fun ⟨o, z⟩ => ⟨o, s _ _ z⟩) id⟩⟩
instance {K : PySem.W.Frag} {l : List Int} : Mc (IsArg K l) := ⟨fun k ⟨a, e, h⟩ => ⟨a, e, h.imp (fun ⟨o, z⟩ => ⟨o, k _ _ z trivial⟩) id⟩⟩
theorem IsArg.told {K : PySem.W.Frag} {l : List Int} {v : V} {H : Hp} {t : Addr} {xs ys : List V} (h : IsArg K l v H) (ht : H t = some (.lst xs)) : IsArg K l v (upd H t (.lst ys)) := by
  obtain ⟨a, e, h⟩ := h
  refine ⟨a, e, h.imp (fun ⟨o, z⟩ => ⟨o, ?_⟩) id⟩
  rw [upd_ne]
  · exact z
  · intro q
    rw [q, ht] at z
    cases z
section
variable {σ : L2.St} {H : Hp} {ta tb te : TE} {K : PySem.W.Frag} {l : List Int}
theorem er_ixA {i : Int} {j : Nat} {x : Int} (ha : EvR ta σ H (IsArg K l)) (hb : EvR tb σ H (IsI i)) (hi : i = (j : Int)) (hx : l[j]? = some x) : EvR (tOp (rIx K) ta tb) σ H (IsI x) :=
  er_two ha hb fun _ _ H1 _ r ey _ q => by
    obtain ⟨a, e, h⟩ := r.sq
    exact .inl ⟨a, _, i, .int x, e, ey, h, at_of hi (by rw [List.getElem?_map, hx]; rfl), q _ H1 (Same.refl _) rfl⟩
theorem er_lenA (ha : EvR ta σ H (IsArg K l)) : EvR (tCB (rLn K) (tCons ta tNil)) σ H (IsI l.length) := fun H1 s _ q =>
  ha H1 s _ fun x H2 s2 r => by
    obtain ⟨a, e, h⟩ := r.sq
    exact ⟨a, _, by rw [e], .inl h, q _ H2 s2 (by rw [List.length_map]; rfl)⟩
theorem er_slA {tl th : TO} {i j : Nat} (ha : EvR ta σ H (IsArg K l)) (hl : EvO tl σ H (some (i : Int))) (hh : EvO th σ H (some (j : Int))): EvR (tSl (rSlL K) ta tl th) σ H (IsNm ((l.take j).drop i)) := fun H1 s Q q =>
  ha H1 s _ fun x H2 s2 r => hl H2 (s.trans s2) _ fun H3 s3 => hh H3 ((s.trans s2).trans s3) _ fun H4 s4 => by
    obtain ⟨a, e, h⟩ := (Mn.mn (s3.trans s4) r : IsArg K l x H4).sq
    refine ⟨a, _, e, h, fun p hp => ?_⟩
    refine q _ _ ((s2.trans (s3.trans s4)).trans (same_new hp _)) ⟨p, _, rfl, upd_same, ?_⟩
    rw [cut_both, ← List.map_take, ← List.map_drop]
    exact Each.of_ints _
end
section
variable {P : Program} {w : World} {K : PySem.W.Frag} {mg : Str → Option Value} {base : Heap} {C CL CO CB CW DC DB : Addr}
abbrev s_numbers_begin : Stmt := top 110
abbrev N_numbers_begin : List Str := ["calls", "at"]
abbrev P_numbers_begin : List Str := ["calls", "at"]
theorem sc_numbers_begin : FnScope N_numbers_begin P_numbers_begin (defScope s_numbers_begin) := ⟨rfl, rfl, rfl, by decide +kernel, rfl, by decide +kernel, by decide +kernel⟩
abbrev s_numbers_end : Stmt := top 111
abbrev N_numbers_end : List Str := ["calls", "at", "count"]
abbrev P_numbers_end : List Str := ["calls", "at"]
theorem sc_numbers_end : FnScope N_numbers_end P_numbers_end (defScope s_numbers_end) := ⟨rfl, rfl, rfl, by decide +kernel, rfl, by decide +kernel, by decide +kernel⟩
def beg (at_ : Nat) (p : Int) : Nat := if p = 5 then at_ + 2 else at_ + 1
def sp_numbers_begin (K : PySem.W.Frag) : Sp := SpOf (ι := List Int × Nat × Int) (fun i => i.1[i.2.1]? = some i.2.2) (fun i => [IsArg K i.1, IsN i.2.1]) (fun i => IsN (beg i.2.1 i.2.2))
theorem ok_numbers_begin (F : DefAt K mg "numbers_begin" s_numbers_begin P_numbers_begin) (T : Gt mg) : Cal P w K mg base 1 "numbers_begin" P_numbers_begin (sp_numbers_begin K) := by
  refine F.ok sc_numbers_begin (spOf_len fun _ => rfl) (fun f cdv A outer s H vs Q E hr ⟨⟨l, at_, p⟩, hp, ha, k⟩ => ⟨_,
    (pss_one (ps_ret (pe_ifExp (pt_cmpR op_eq (pe_ix (ixK (K := K) rfl) (pv 0) (pv 1) (fun _ _ => rfl)) (pgl T.g_SHAPE) (nomark _)) (pe_op op_add (pv 1) pe_int) (pe_op op_add (pv 1) pe_int)))), ?_⟩)
  obtain ⟨v1, v2, rfl, h1, h2⟩ := alls2 (show Alls [IsArg K l, IsN at_] vs H from ha)
  obtain rfl : v2 = .int (at_ : Int) := h2
  have hp : l[at_]? = some p := hp
  refine sr_ret (R := IsN (beg at_ p)) (er_ifE (et_test (er_eqI (er_ixA (j := at_) (er_var rfl h1) (er_v rfl) rfl hp) er_c)) (fun d => er_i (er_I0 (er_v rfl) er_c) ?_) fun d => er_i (er_I0 (er_v rfl) er_c) ?_) fun v H1 s1 r => k v H1 s1 r
  · have d : p = 5 := of_decide_eq_true d
    unfold beg
    rw [if_pos d]
    rfl
  · have d : ¬ p = 5 := of_decide_eq_false d
    unfold beg
    rw [if_neg d]
    rfl
/-- the call c stands at at_ -/
def Here (l : List Int) (at_ : Nat) (c : Cl) : Prop := FormC c ∧ ∃ r, l.drop at_ = encC c ++ r
theorem Here.p {l : List Int} {at_ : Nat} {c : Cl} (h : Here l at_ c) : l[at_]? = some c.1 := by
  obtain ⟨_, r, e⟩ := h
  have : (l.drop at_)[0]? = some c.1 := by
    rw [e]
    unfold encC
    by_cases q : c.1 = 5
    · rw [if_pos q, q]
      rfl
    · rw [if_neg q]
      rfl
  rw [List.getElem?_drop] at this
  exact this
theorem Here.n {l : List Int} {at_ : Nat} {c : Cl} (h : Here l at_ c) (q : c.1 = 5) : l[at_ + 1]? = some (c.2.length : Int) := by
  obtain ⟨_, r, e⟩ := h
  have : (l.drop at_)[1]? = some (c.2.length : Int) := by
    rw [e]
    unfold encC
    rw [if_pos q]
    rfl
  rw [List.getElem?_drop] at this
  exact this
theorem Here.nums {l : List Int} {at_ : Nat} {c : Cl} (h : Here l at_ c) : (l.take (at_ + (encC c).length)).drop (beg at_ c.1) = c.2 := by
  obtain ⟨_, r, e⟩ := h
  unfold beg
  rw [List.drop_take]
  by_cases q : c.1 = 5
  · have e' : encC c = 5 :: (c.2.length : Int) :: c.2 := if_pos q
    rw [if_pos q, ← List.drop_drop, e, e']
    show List.take (at_ + (c.2.length + 1 + 1) - (at_ + 2)) (c.2 ++ r) = c.2
    rw [show at_ + (c.2.length + 1 + 1) - (at_ + 2) = c.2.length by omega, List.take_left' rfl]
  · have e' : encC c = c.1 :: c.2 := if_neg q
    rw [if_neg q, ← List.drop_drop, e, e']
    show List.take (at_ + (c.2.length + 1) - (at_ + 1)) (c.2 ++ r) = c.2
    rw [show at_ + (c.2.length + 1) - (at_ + 1) = c.2.length by omega, List.take_left' rfl]
def Counts (K : PySem.W.Frag) (DC : Addr) : Prop := ∀ (p : Int) (n : Nat), p ≠ 5 → PyLr74.shape p = some (n, 0) → KDci K DC p (.int (n : Int))
def sp_numbers_end (K : PySem.W.Frag) : Sp := SpOf (ι := List Int × Nat × Cl) (fun i => Here i.1 i.2.1 i.2.2) (fun i => [IsArg K i.1, IsN i.2.1]) (fun i => IsN (i.2.1 + (encC i.2.2).length))
theorem ok_numbers_end (F : DefAt K mg "numbers_end" s_numbers_end P_numbers_end) (T : Gt mg) (g_COUNTS : GV mg "COUNTS" (.ref DC)) (hC : Counts K DC) (c_numbers_begin : Cal P w K mg base 1 "numbers_begin" P_numbers_begin (sp_numbers_begin K)) : Cal P w K mg base 2 "numbers_end" P_numbers_end (sp_numbers_end K) := by
  refine F.ok sc_numbers_end (spOf_len fun _ => rfl) (fun f cdv A outer s H vs Q E hr ⟨⟨l, at_, c⟩, hp, ha, k⟩ => ⟨_,
    (pss_cons (ps_set (i := 2) sc_numbers_end.nd rfl (Or.inl rfl) (pe_ifExp (pt_cmpR op_eq (pe_ix (ixK (K := K) rfl) (pv 0) (pv 1) (fun _ _ => rfl)) (pgl T.g_SHAPE) (nomark _)) (pe_ix (ixK (K := K) rfl) (pv 0) (pe_op op_add (pv 1) pe_int) (fun _ _ => rfl)) (pe_ix (ixDiK (K := K) rfl) (pgl g_COUNTS) (pe_ix (ixK (K := K) rfl) (pv 0) (pv 1) (fun _ _ => rfl)) (fun _ _ => rfl))))
    (pss_one (ps_ret (pe_op op_add (pc c_numbers_begin hr (pa_cons (pv 0) (pa_cons (pv 1) pa_nil))) (pv 2))))), ?_⟩)
  obtain ⟨v1, v2, rfl, h1, h2⟩ := alls2 (show Alls [IsArg K l, IsN at_] vs H from ha)
  obtain rfl : v2 = .int (at_ : Int) := h2
  have hp : Here l at_ c := hp
  have p0 := hp.p
  refine sq_asg (R := IsN c.2.length) (er_ifE (et_test (er_eqI (er_ixA (j := at_) (er_var rfl h1) (er_v rfl) rfl p0) er_c)) (fun d => er_ixA (j := at_ + 1) (er_var rfl h1) (er_I0 (er_v rfl) er_c) rfl (hp.n (of_decide_eq_true d))) fun d => ?_) fun v3 H1 s1 e3 => ?_
  · have d : ¬ c.1 = 5 := of_decide_eq_false d
    rcases hp.1 with q | q
    · exact absurd q d
    · exact er_kdi er_c (er_ixA (j := at_) (er_var rfl h1) (er_v rfl) rfl p0) (hC c.1 c.2.length q.1 q.2)
  obtain rfl : v3 = .int (c.2.length : Int) := e3
  refine sr_ret (R := IsN (at_ + (encC c).length)) (er_i (er_I0 (er_call (l, at_, c.1) p0 (ea_cons (er_var rfl (Mn.mn s1 h1)) (ea_cons (er_v rfl) ea_nil))) (er_v rfl)) ?_) fun v H2 s2 r => k v H2 (s1.trans s2) r
  show ((beg at_ c.1 : Nat) : Int) + (c.2.length : Int) = ((at_ + (encC c).length : Nat) : Int)
  unfold beg encC
  by_cases q : c.1 = 5
  · rw [if_pos q, if_pos q]
    show _ = ((at_ + (c.2.length + 1 + 1) : Nat) : Int)
    omega
  · rw [if_neg q, if_neg q]
    show _ = ((at_ + (c.2.length + 1) : Nat) : Int)
    omega
/-! ### the calls, each as the specification's -/
def ChS (av : Addr → Prop) (C CL CB c : Addr) (s : Lr74.State) (H : Hp) : Prop := ChH av C CL CB c (pcOf s.chip) (bk s.back) (bk s.fore) H
theorem ChS.mn {av : Addr → Prop} {c : Addr} {s : Lr74.State} {H H' : Hp} (q : Same H H') (h : ChS av C CL CB c s H) : ChS av C CL CB c s H' := ChH.mn q h
def SpCl (C CL CB : Addr) (ok : Int → Prop) : Sp := fun vs H Q _ => ∃ av c s k x lv, vs = [.ref c, .int k.1, lv] ∧ InvS s ∧ InvN s ∧ CallIs k x ∧ ok k.1 ∧ ChS av C CL CB c s H ∧ IsNm k.2 lv H ∧ ∀ v H', Kp GC H H' → ChS av C CL CB c (Lr74.act s x).1 H' → IsLa av ((Lr74.act s x).2.map V.int) v H' → Q v H'
theorem spCl_len {ok : Int → Prop} : ∀ vs H Q E, SpCl C CL CB ok vs H Q E → vs.length = 3 := fun vs H Q E ⟨av, c, s, k, x, lv, e, _⟩ => by rw [e]; rfl
def isCh (p : Int) : Prop := 1 ≤ p ∧ p ≤ 9
abbrev s_answer_change : Stmt := top 80
abbrev N_answer_change : List Str := ["chip", "call", "numbers", "before", "answer"]
abbrev P_answer_change : List Str := ["chip", "call", "numbers"]
theorem sc_answer_change : FnScope N_answer_change P_answer_change (defScope s_answer_change) := ⟨rfl, rfl, rfl, by decide +kernel, rfl, by decide +kernel, by decide +kernel⟩
abbrev s_answer_call : Stmt := top 112
abbrev N_answer_call : List Str := ["chip", "call", "numbers"]
abbrev P_answer_call : List Str := ["chip", "call", "numbers"]
theorem sc_answer_call : FnScope N_answer_call P_answer_call (defScope s_answer_call) := ⟨rfl, rfl, rfl, by decide +kernel, rfl, by decide +kernel, by decide +kernel⟩
abbrev s_answers : Stmt := top 113
abbrev N_answers : List Str := ["calls", "chip", "told", "at", "end", "answer"]
abbrev P_answers : List Str := ["calls"]
theorem sc_answers : FnScope N_answers P_answers (defScope s_answers) := ⟨rfl, rfl, rfl, by decide +kernel, rfl, by decide +kernel, by decide +kernel⟩
theorem ok_answer_change (F : DefAt K mg "answer_change" s_answer_change P_answer_change) (T : Gt mg) (cc : ChipC K C) (g_CHANGES : GV mg "CHANGES" (.ref DB)) (tab : ∀ p : Int, 1 ≤ p → p ≤ 9 → ∃ f, KDci K DB p (.ref f) ∧ Held P w K mg base 23 f (SpAn C CL CB (rCh p))) (c_state_of : Cal P w K mg base 1 "state_of" P_state_of (sp_state_of C CL CB)) (c_remember : Cal P w K mg base 1 "remember" P_remember (sp_remember C CL CB)) : Cal P w K mg base 24 "answer_change" P_answer_change (SpCl C CL CB isCh) := by
  have A_CHANGES : ∀ f sp, Held P w K mg base 23 f sp → Held P w K mg base 23 f sp := fun _ _ h => h
  refine F.ok sc_answer_change spCl_len (fun f cdv A outer sh H vs Q E hr ⟨av, c, s, kc, x, lv, e, I, J, hcl, ⟨p1, p9⟩, ⟨ee, el, hc, he, hl⟩, hn, k⟩ => ⟨_,
    (pss_cons (ps_set (i := 3) sc_answer_change.nd rfl (Or.inl rfl) (pc c_state_of hr (pa_cons (pv 0) pa_nil)))
    (pss_cons (ps_set (i := 4) sc_answer_change.nd rfl (Or.inl rfl) (pe_callE A_CHANGES hr (pe_ix (ixDiK (K := K) rfl) (pgl g_CHANGES) (pv 1) (fun _ _ => rfl)) (pa_cons (pv 0) (pa_cons (pv 2) pa_nil))))
    (pss_cons (ps_if (pt_cmpR op_ge (pe_ix (ixK (K := K) rfl) (pv 4) pe_int (fun _ _ => rfl)) pe_int (nomark _)) (pss_one (ps_expr (pc c_remember hr (pa_cons (pv 0) (pa_cons (pv 3) pa_nil))))) pss_nil)
    (pss_one (ps_ret (pv 4)))))), ?_⟩)
  subst e
  refine sq_asg (R := IsSt av CL CB (pcOf s.chip)) (er_call ((⟨ee, el, av⟩ : Eh), c, pcOf s.chip) trivial (ea_cons (er_var rfl ⟨rfl, hc⟩) ea_nil)) fun v3 H1 s1 r3 => ?_
  obtain ⟨ff, t1, t2⟩ := tab kc.1 p1 p9
  refine sq_callE (Rs := [IsCh C CL CB c ⟨ee, el, av⟩ (pcOf s.chip), IsNm kc.2]) (er_kdi er_c (er_v rfl) t1) t2 (ea_cons (er_var rfl ⟨rfl, hc.mn s1⟩) (ea_cons (er_var rfl (Mn.mn s1 hn)) ea_nil)) fun vs H2 s2 ha => ?_
  obtain ⟨u1, u2, rfl, ⟨r1, rc⟩, r2⟩ := alls2 ha
  refine ⟨⟨ee, el, av⟩, c, pcOf s.chip, kc.2, u2, _, _, by rw [r1], rc, r2, lk_ch I.chip hcl p1 p9, fun v4 H3 k3 c3 r4 => ?_⟩
  have k03 : Kp GC H H3 := (Kp.of_same (s1.trans s2)).trans k3
  have k13 : Kp GC H1 H3 := (Kp.of_same s2).trans k3
  have he3 : Ks av CL CB (bk s.back) ee H3 := Mc.mc k03 he
  have hl3 : Ks av CL CB (bk s.fore) el H3 := Mc.mc k03 hl
  have b3 : IsSt av CL CB (pcOf s.chip) v3 H3 := Mc.mc k13 r3
  have kd := CM.act_kind (s := s) hcl p1 p9
  have r4' : LstOf (fun i : Int => IsI i) (Lr74.act s x).2 v4 H3 := let ⟨a, e, _, h⟩ := r4; ⟨a, _, e, h, Each.of_ints _⟩
  rcases kd with ⟨v, r, e2, hv, e1⟩ | ⟨v, r, c', e2, hv, e1⟩
  · refine sq_if (et_test (er_I0 (er_ixL (Q := fun i : Int => IsI i) (j := 0) (x := v) (er_var rfl r4') er_c rfl (by rw [e2]; rfl)) er_c)) (fun d => absurd (of_decide_eq_true d) (by show ¬ (0 : Int) ≤ v; omega)) fun _ H4 s4 => ?_
    refine sr_ret (er_var (R := IsLa av ((Lr74.act s x).2.map V.int)) rfl (Mn.mn s4 r4)) fun v5 H5 s5 r5 => k v5 H5 (k03.trans (Kp.of_same (s4.trans s5))) ?_ r5
    have c5 := c3.mn (s4.trans s5)
    rw [e1] at c5 ⊢
    exact ⟨ee, el, c5, Mn.mn (s4.trans s5) he3, Mn.mn (s4.trans s5) hl3⟩
  · refine sq_if (et_test (er_I0 (er_ixL (Q := fun i : Int => IsI i) (j := 0) (x := v) (er_var rfl r4') er_c rfl (by rw [e2]; rfl)) er_c)) (fun _ H4 s4 => ?_) fun d => absurd hv (of_decide_eq_false d)
    refine sr_dcall (Rs := [IsV (.ref c), IsSt av CL CB (pcOf s.chip)]) (ea_cons (er_v rfl) (ea_cons (er_var rfl (Mn.mn s4 b3)) ea_nil)) fun vs H5 s5 ha => ?_
    obtain ⟨w1, w2, rfl, q1, q2⟩ := alls2 ha
    have J' : s.back.length + s.fore.length ≤ 20 := J
    refine ⟨av, c, _, bk s.back, bk s.fore, pcOf s.chip, w2, by rw [show w1 = _ from q1], ⟨ee, el, c3.mn (s4.trans s5), Mn.mn (s4.trans s5) he3, Mn.mn (s4.trans s5) hl3⟩, q2, by rw [bk_len]; omega, fun _ H6 k6 c6 => ?_⟩
    have k46 : Kp GC H3 H6 := (Kp.of_same (s4.trans s5)).trans k6
    refine sr_ret (er_var (R := IsLa av ((Lr74.act s x).2.map V.int)) rfl (Mc.mc k46 r4)) fun v7 H7 s7 r7 => k v7 H7 (k03.trans (k46.trans (Kp.of_same s7))) ?_ r7
    have c7 := c6.mn s7
    rw [← bk_cons, ← bk_take] at c7
    rw [e1] at c7 ⊢
    exact c7
theorem ok_answer_call (F : DefAt K mg "answer_call" s_answer_call P_answer_call) (T : Gt mg) (c_answer_change : Cal P w K mg base 24 "answer_change" P_answer_change (SpCl C CL CB isCh)) (c_answer_telling : Cal P w K mg base 11 "answer_telling" P_answer_telling (SpTe C CL CB)) (c_answer_state : Cal P w K mg base 4 "answer_state" P_answer_state (SpSc C CL CB)) : Cal P w K mg base 25 "answer_call" P_answer_call (SpCl C CL CB fun _ => True) := by
  refine F.ok sc_answer_call spCl_len (fun f cdv A outer sh H vs Q E hr ⟨av, c, s, kc, x, lv, e, I, J, hcl, _, hc, hn, k⟩ => ⟨_,
    (pss_cons (ps_if (pt_chain op_le op_le (pgl T.g_FIRST_CHANGE) (pv 1) (pgl T.g_LAST_CHANGE)) (pss_one (ps_ret (pc c_answer_change hr (pa_cons (pv 0) (pa_cons (pv 1) (pa_cons (pv 2) pa_nil)))))) pss_nil)
    (pss_cons (ps_if (pt_cmpR op_ge (pv 1) (pgl T.g_FIRST_TELLING) (nomark _)) (pss_one (ps_ret (pc c_answer_telling hr (pa_cons (pv 0) (pa_cons (pv 1) (pa_cons (pv 2) pa_nil)))))) pss_nil)
    (pss_one (ps_ret (pc c_answer_state hr (pa_cons (pv 0) (pa_cons (pv 1) pa_nil))))))), ?_⟩)
  subst e
  refine sq_ifr (et_test (er_chain er_c (er_v rfl) er_c)) (fun d H1 s1 => ?_) fun d H1 s1 => ?_
  · have d : (decide (1 ≤ kc.1) && decide (kc.1 ≤ 9)) = true := d
    rw [Bool.and_eq_true, decide_eq_true_eq, decide_eq_true_eq] at d
    refine sr_rcall (Rs := [IsV (.ref c), IsV (.int kc.1), IsNm kc.2]) (ea_cons (er_v rfl) (ea_cons (er_v rfl) (ea_cons (er_var rfl (Mn.mn s1 hn)) ea_nil))) fun vs H2 s2 ha => ?_
    obtain ⟨w1, w2, w3, rfl, q1, q2, q3⟩ := alls3 ha
    exact ⟨av, c, s, kc, x, w3, by rw [show w1 = _ from q1, show w2 = _ from q2], I, J, hcl, d, hc.mn (s1.trans s2), q3, fun v H' k' => k v H' ((Kp.of_same (s1.trans s2)).trans k')⟩
  have d : (decide (1 ≤ kc.1) && decide (kc.1 ≤ 9)) = false := d
  have d : ¬ (1 ≤ kc.1 ∧ kc.1 ≤ 9) := fun z => by
    rw [decide_eq_true z.1, decide_eq_true z.2] at d
    cases d
  refine sq_ifr (et_test (er_I0 (er_v rfl) er_c)) (fun d2 H2 s2 => ?_) fun d2 H2 s2 => ?_
  · have d2 : (12 : Int) ≤ kc.1 := of_decide_eq_true d2
    have s12 := s1.trans s2
    obtain ⟨ee, el, hc', he, hl⟩ := hc
    refine sr_ret (er_call ((⟨ee, el, av⟩ : Eh), c, pcOf s.chip, kc.1, kc.2, (Lr74.act s x).2) (lk_te I hcl d2) (ea_cons (er_var rfl ⟨rfl, hc'.mn s12⟩) (ea_cons (er_v rfl) (ea_cons (er_var rfl (Mn.mn s12 hn)) ea_nil)))) fun v H3 s3 r => k v H3 (Kp.of_same (s12.trans s3)) ?_ r
    rw [CM.act_tells hcl d2]
    exact ⟨ee, el, hc'.mn (s12.trans s3), Mn.mn (s12.trans s3) he, Mn.mn (s12.trans s3) hl⟩
  · have d2 : ¬ (12 : Int) ≤ kc.1 := of_decide_eq_false d2
    have s12 := s1.trans s2
    refine sr_rcall (Rs := [IsV (.ref c), IsV (.int kc.1)]) (ea_cons (er_v rfl) (ea_cons (er_v rfl) ea_nil)) fun vs H3 s3 ha => ?_
    obtain ⟨w1, w2, rfl, q1, q2⟩ := alls2 ha
    exact ⟨av, c, kc.1, _, _, _, _, _, _, _, by rw [show w1 = _ from q1, show w2 = _ from q2], hc.mn (s12.trans s3), lk_st J hcl d d2, fun v H' k' => k v H' ((Kp.of_same (s12.trans s3)).trans k')⟩
end
end Clk
set_option Elab.async false
set_option maxRecDepth 100000
set_option maxHeartbeats 4000000
set_option linter.all false
set_option autoImplicit false
namespace Clk
open PySem PySem.Spec PyProof.Rows L2
open CM (LD OD BD PC Cl encC rawC FormC CallIs InvS InvN pcOf tell)
/-! ### the list that is told grows: the chip has no part in it -/
instance {α : Type} {R : α → Rp} {o : Option α} [∀ x, Mg (R x)] : Mg (IsO R o) := ⟨fun {G} _ {v H H'} k h => match o, h with
  | none, h => h
  | some x, h => ⟨h.1, Mg.mg k h.2⟩⟩
section
variable {t : Addr} {H : Hp} {xs ys : List V}
theorem LsA.told {α : Type} {R : α → Rp} {l : List α} {v : V} (ht : H t = some (.lst xs)) (hR : ∀ x v, R x v H → R x v (upd H t (.lst ys))) (h : LsA (fun a => a = t) R l v H) : LsA (fun a => a = t) R l v (upd H t (.lst ys)) := by
  obtain ⟨a, vs, e, n, h, r⟩ := h
  exact ⟨a, vs, e, n, by rw [upd_ne n]; exact h, r.to fun v x q => hR x v q⟩
theorem IsSt.told {CL CB : Addr} {X : PC} {v : V} (ht : H t = some (.lst xs)) (h : IsSt (fun a => a = t) CL CB X v H) : IsSt (fun a => a = t) CL CB X v (upd H t (.lst ys)) := by
  have kp : Kp GF H (upd H t (.lst ys)) := kp_lst ht
  obtain ⟨a, s, l, p, b, e, h, r1, r2, r3, r4⟩ := h
  exact ⟨a, s, l, p, b, e, kp _ _ h trivial, Mg.mg kp r1, r2.told ht fun x v q => Mg.mg kp q, Mg.mg kp r3, Mg.mg kp r4⟩
theorem ChAt.told {C CL CB c : Addr} {e l : V} {X : PC} (ht : H t = some (.lst xs)) (h : ChAt C CL CB c ⟨e, l, fun a => a = t⟩ X H) : ChAt C CL CB c ⟨e, l, fun a => a = t⟩ X (upd H t (.lst ys)) := by
  have kp : Kp GF H (upd H t (.lst ys)) := kp_lst ht
  obtain ⟨dx, fs, a, l', p, b, hh, z, l1, l2, l3, l4, l5, l6, r1, r2, r3, r4, ra⟩ := h
  have nc : c ≠ t := fun q => by
    rw [q, ht] at hh
    cases hh
  exact ⟨dx, fs, a, l', p, b, by rw [upd_ne nc]; exact hh, z, l1, l2, l3, l4, l5, l6, Mg.mg kp r1, r2.told ht fun x v q => Mg.mg kp q, Mg.mg kp r3, Mg.mg kp r4, ra.upd⟩
theorem ChS.told {C CL CB c : Addr} {s : Lr74.State} (ht : H t = some (.lst xs)) (h : ChS (fun a => a = t) C CL CB c s H) : ChS (fun a => a = t) C CL CB c s (upd H t (.lst ys)) := by
  obtain ⟨e, l, h1, h2, h3⟩ := h
  exact ⟨e, l, h1.told ht, h2.told ht fun _ _ q => q.told ht, h3.told ht fun _ _ q => q.told ht⟩
/-- a chip made ahead of the list -/
theorem ChS.start {C CL CB c : Addr} (ht : H t = none) (h : ChH (fun _ => False) C CL CB c emp [] [] H) : ChS (fun a => a = t) C CL CB c Lr74.start (upd H t (.lst [])) := by
  have sn := same_new ht (.lst [])
  have na : ∀ {a : Addr} {o : HO}, H a = some o → ¬ a = t := fun h q => by
    rw [q, ht] at h
    cases h
  obtain ⟨e, l, ⟨dx, fs, a, l', p, b, hh, z, l1, l2, l3, l4, l5, l6, r1, ⟨a2, v2, e2, _, h2, w2⟩, r3, r4, ra⟩, ⟨a5, v5, e5, _, h5, w5⟩, ⟨a6, v6, e6, _, h6, w6⟩⟩ := h
  obtain rfl : v5 = [] := by cases v5 with | nil => rfl | cons a b => exact w5.elim
  obtain rfl : v6 = [] := by cases v6 with | nil => rfl | cons a b => exact w6.elim
  obtain rfl : v2 = [] := by cases v2 with | nil => rfl | cons a b => exact w2.elim
  exact ⟨e, l, ⟨dx, fs, a, l', p, b, sn _ _ hh, z, l1, l2, l3, l4, l5, l6, Mn.mn sn r1, ⟨a2, [], e2, na h2, sn _ _ h2, trivial⟩, r3, r4, fun a z => ⟨.lst [], by rw [show a = t from z]; exact upd_same⟩⟩, ⟨a5, [], e5, na h5, sn _ _ h5, trivial⟩, ⟨a6, [], e6, na h6, sn _ _ h6, trivial⟩⟩
theorem kp_told {H0 : Hp} {o : HO} (k : Kp GC H0 H) (n : H0 t = none) : Kp GC H0 (upd H t o) := fun b u e g => by
  rw [upd_ne (ne_of_none e n)]
  exact k b u e g
end
section
variable {P : Program} {w : World} {K : PySem.W.Frag} {mg : Str → Option Value} {base : Heap} {C CL CO CB CW DC DB : Addr}
def sp_answers (K : PySem.W.Frag) : Sp := fun vs H Q _ => ∃ l hv, vs = [hv] ∧ IsArg K l hv H ∧ PyLr74.answers_asked l = true ∧ ∀ v H', Kp GC H H' → IsL ((PyLr74.answers l).map V.int) v H' → Q v H'
/-- what stands while the calls are answered -/
structure Loop (K : PySem.W.Frag) (C CL CB : Addr) (H : Hp) (hv : V) (l : List Int) (cs : List Cl) (c t : Addr) (m : Nat) (σ : L2.St) (H' : Hp) (pre post : List Cl) (s : Lr74.State) (out : List Int) : Prop where
  cut : cs = pre ++ post
  many : post.length = m
  inv : InvS s
  invN : InvN s
  tells : tell Lr74.start cs = out ++ tell s post
  few : out.length ≤ 21 * pre.length
  kp : Kp GC H H'
  arg : IsArg K l hv H'
  told : H' t = some (.lst (out.map V.int))
  chip : ChS (fun a => a = t) C CL CB c s H'
  st : ∃ x4 x5, σ = [some hv, some (.ref c), some (.ref t), some (.int (((pre.flatMap encC).length : Nat) : Int)), x4, x5]
theorem ok_answers {f0 : Addr} {fd0 : FuncData} (F : Fun K "answers" "answers" s_answers f0 fd0) (T : Gt mg) (m_Chip : MkC P w K mg base 1 "Chip" C P_Chip_init (sp_Chip C CL CB)) (c_numbers_begin : Cal P w K mg base 1 "numbers_begin" P_numbers_begin (sp_numbers_begin K)) (c_numbers_end : Cal P w K mg base 2 "numbers_end" P_numbers_end (sp_numbers_end K)) (c_answer_call : Cal P w K mg base 25 "answer_call" P_answer_call (SpCl C CL CB fun _ => True)) : FnOk P w K mg base CX0 26 f0 fd0 P_answers (sp_answers K) := by
  refine F.ok sc_answers (fun vs H Q E ⟨l, hv, e, _⟩ => by rw [e]; rfl) (fun cdv A outer sh H vs Q E hr ⟨l, hv, e, ha, hask, k⟩ => ⟨_,
    (pss_cons (ps_set (i := 1) sc_answers.nd rfl (Or.inl rfl) (pm0 m_Chip hr))
    (pss_cons (ps_set (i := 2) sc_answers.nd rfl (Or.inl rfl) (pe_lst pa_nil))
    (pss_cons (ps_set (i := 3) sc_answers.nd rfl (Or.inl rfl) pe_int)
    (pss_cons (ps_while PassesOwn.never (pt_cmpR op_lt (pv 3) (pe_callB (lenK (K := K) rfl) rfl T.z_len PySem.boot_len (pa_cons (pv 0) pa_nil)) (nomark _))
      (pss_cons (ps_set (i := 4) sc_answers.nd rfl (Or.inl rfl) (pc c_numbers_end hr (pa_cons (pv 0) (pa_cons (pv 3) pa_nil))))
    (pss_cons (ps_set (i := 5) sc_answers.nd rfl (Or.inl rfl) (pc c_answer_call hr (pa_cons (pv 1) (pa_cons (pe_ix (ixK (K := K) rfl) (pv 0) (pv 3) (fun _ _ => rfl)) (pa_cons (pe_slice (sllK (K := K) rfl) (pv 0) (po_some (pc c_numbers_begin hr (pa_cons (pv 0) (pa_cons (pv 3) pa_nil)))) (po_some (pv 4))) pa_nil)))))
    (pss_cons (ps_expr (pbm (K := K) (T := "list") rfl (pe_bm PySem.F.plainAttrs_list PySem.F.slot_list_append PySem.F.type_list_append mt_append (pv 2) (pa_cons (pe_callB (lenK (K := K) rfl) rfl T.z_len PySem.boot_len (pa_cons (pv 5) pa_nil)) pa_nil))))
    (pss_cons (ps_expr (pbm (K := K) (T := "list") rfl (pe_bm PySem.F.plainAttrs_list PySem.F.slot_list_extend PySem.F.type_list_extend mt_extend (pv 2) (pa_cons (pv 5) pa_nil))))
    (pss_one (ps_set (i := 3) sc_answers.nd rfl (Or.inl rfl) (pv 4))))))))
    (pss_one (ps_ret (pv 2))))))), ?_⟩)
  subst e
  obtain ⟨cs, el, et, hok, h150⟩ := CM.asked_calls hask
  refine sq_asg (R := IsNew (fun _ => False) C CL CB) (er_chip (fun a z => z.elim)) fun v1 H1 s1 ⟨c, e1, ch⟩ => ?_
  subst e1
  refine sq_new fun t ht => ?_
  have st := same_new ht (.lst [])
  have h0 : H t = none := s1.free ht
  refine sq_asg (R := IsI 0) er_c fun v3 H3 s3 e3 => ?_
  obtain rfl : v3 = .int 0 := e3
  have s03 : Same H H3 := s1.trans (st.trans s3)
  refine sq_while (fun m σ' H' => ∃ pre post s out, Loop K C CL CB H hv l cs c t m σ' H' pre post s out) cs.length ⟨[], cs, Lr74.start, [], ⟨rfl, rfl, CM.inv_start, CM.invN_start, rfl, Nat.le_refl _, Kp.of_same s03, Mn.mn s03 ha, s3 _ _ upd_same, (ChS.start ht ch).mn s3, _, _, rfl⟩⟩ ?_
  rintro m σ' H' ⟨pre, post, s, out, ⟨cut, many, inv, invN, tells, few, kp, arg, told, chip, x4, x5, rfl⟩⟩
  have elen : l.length = (pre.flatMap encC).length + (post.flatMap encC).length := by
    rw [el, cut, List.flatMap_append, List.length_append]
  refine ⟨decide (((pre.flatMap encC).length : Int) < (l.length : Int)), et_test (er_I0 (er_v rfl) (er_lenA (er_var rfl arg))), fun d H4 s4 => ?_, fun d H4 s4 => ?_⟩
  · have d : ((pre.flatMap encC).length : Int) < (l.length : Int) := of_decide_eq_true d
    cases post with
    | nil => exact absurd d (by show ¬ _; have : (([] : List Cl).flatMap encC).length = 0 := rfl; omega)
    | cons kc post =>
      have mm : m = post.length + 1 := many.symm
      have kin : kc ∈ cs := by rw [cut]; exact List.mem_append_right _ List.mem_cons_self
      have ok := hok kc kin
      obtain ⟨x, hcl, hcall⟩ := CM.okc_is ok
      have here : Here l (pre.flatMap encC).length kc := ⟨ok.form, post.flatMap encC, by rw [el, cut, List.flatMap_append, List.drop_left' rfl, List.flatMap_cons]⟩
      have estep : Lr74Neutral.step s (rawC kc) = Lr74.act s x := by
        unfold Lr74Neutral.step
        rw [hcall]
      have tells' : tell Lr74.start cs = (out ++ (((Lr74.act s x).2.length : Int) :: (Lr74.act s x).2)) ++ tell (Lr74.act s x).1 post := by
        rw [tells]
        show out ++ (((Lr74Neutral.step s (rawC kc)).2.length : Int) :: (Lr74Neutral.step s (rawC kc)).2 ++ tell (Lr74Neutral.step s (rawC kc)).1 post) = _
        rw [estep, List.append_assoc]
      have al : (Lr74.act s x).2.length ≤ 20 := CM.act_len inv x
      have pl : pre.length ≤ 150 := by
        have : cs.length = pre.length + (kc :: post).length := by rw [cut, List.length_append]
        omega
      refine ⟨fun σ2 H2 => ∃ pre post s out, Loop K C CL CB H hv l cs c t (m - 1) σ2 H2 pre post s out, fun σ2 H2 h => ⟨m - 1, by omega, h⟩, ?_⟩
      have arg4 : IsArg K l hv H4 := Mn.mn s4 arg
      refine sq_asg (R := IsN ((pre.flatMap encC).length + (encC kc).length)) (er_call (l, (pre.flatMap encC).length, kc) here (ea_cons (er_var rfl arg4) (ea_cons (er_v rfl) ea_nil))) fun v4 H5 s5 e4 => ?_
      obtain rfl : v4 = .int ((((pre.flatMap encC).length + (encC kc).length : Nat)) : Int) := e4
      have arg5 : IsArg K l hv H5 := Mn.mn s5 arg4
      refine sq_call (Rs := [IsV (.ref c), IsI kc.1, IsNm kc.2]) (ea_cons (er_v rfl) (ea_cons (er_ixA (j := (pre.flatMap encC).length) (er_var rfl arg5) (er_v rfl) rfl here.p) (ea_cons ((er_slA (i := beg (pre.flatMap encC).length kc.1) (j := (pre.flatMap encC).length + (encC kc).length) (er_var rfl arg5) (eo_some (er_call (l, (pre.flatMap encC).length, kc.1) here.p (ea_cons (er_var rfl arg5) (ea_cons (er_v rfl) ea_nil)))) (eo_some (er_v rfl))).to fun v H' _ r => by rw [here.nums] at r; exact r) ea_nil))) fun vs H6 s6 hA => ?_
      obtain ⟨u1, u2, u3, rfl, q1, q2, q3⟩ := alls3 hA
      have s46 : Same H' H6 := s4.trans (s5.trans s6)
      refine ⟨fun a => a = t, c, s, kc, x, u3, by rw [show u1 = _ from q1, show u2 = _ from q2], inv, invN, hcl, trivial, chip.mn s46, q3, fun v5 H7 k7 c7 ⟨a5, e5, n5, h5⟩ => ?_⟩
      subst e5
      have told7 : H7 t = some (.lst (out.map V.int)) := k7 _ _ (s46 _ _ told) trivial
      have arg7 : IsArg K l hv H7 := Mc.mc k7 (Mn.mn s46 arg)
      have kp7 : Kp GC H H7 := kp.trans ((Kp.of_same s46).trans k7)
      have r5 : LstOf (fun i : Int => IsI i) (Lr74.act s x).2 (.ref a5) H7 := ⟨a5, _, rfl, h5, Each.of_ints _⟩
      have oL : (out.map V.int).length ≤ 21 * 150 := by rw [List.length_map]; omega
      refine sq_app (R := IsI (((Lr74.act s x).2.length : Nat) : Int)) (er_lenL (er_var rfl r5)) (er_v rfl) told7 (by omega) fun v8 H8 s8 e8 => ?_
      obtain rfl : v8 = .int (((Lr74.act s x).2.length : Nat) : Int) := e8
      have h9 : (upd H8 t (.lst (out.map V.int ++ [.int (((Lr74.act s x).2.length : Nat) : Int)]))) a5 = some (.lst ((Lr74.act s x).2.map V.int)) := by
        rw [upd_ne n5]
        exact s8 _ _ h5
      refine sq_ext (l := t) (zs := (Lr74.act s x).2.map V.int) (er_var (R := IsL ((Lr74.act s x).2.map V.int)) rfl ⟨a5, rfl, h9⟩) (er_v rfl) upd_same (by rw [List.length_append, List.length_map (as := (Lr74.act s x).2)]; show (out.map V.int).length + 1 + _ ≤ _; omega) fun H10 s10 => ?_
      refine sr_asg (R := IsI ((((pre.flatMap encC).length + (encC kc).length : Nat)) : Int)) (er_v rfl) fun v11 H11 s11 e11 => ?_
      obtain rfl : v11 = .int ((((pre.flatMap encC).length + (encC kc).length : Nat)) : Int) := e11
      have told8 : H8 t = some (.lst (out.map V.int)) := s8 _ _ told7
      have told10 : H10 t = some (.lst (out.map V.int ++ [.int (((Lr74.act s x).2.length : Nat) : Int)])) := s10 _ _ upd_same
      refine ⟨pre ++ [kc], post, (Lr74.act s x).1, out ++ (((Lr74.act s x).2.length : Int) :: (Lr74.act s x).2), ⟨by rw [cut, List.append_assoc]; rfl, by omega, CM.inv_act inv hcl, CM.invN_act invN hcl, tells', ?_, ?_, ?_, ?_, ?_, some (.int ((((pre.flatMap encC).length + (encC kc).length : Nat)) : Int)), some (.ref a5), ?_⟩⟩
      · rw [List.length_append, List.length_append]
        show out.length + ((Lr74.act s x).2.length + 1) ≤ 21 * (pre.length + 1)
        omega
      · exact (kp_told ((kp_told (kp7.trans (Kp.of_same s8)) h0).trans (Kp.of_same s10)) h0).trans (Kp.of_same s11)
      · exact Mn.mn s11 ((Mn.mn s10 ((Mn.mn s8 arg7 : IsArg K l hv H8).told told8) : IsArg K l hv H10).told told10)
      · refine s11 _ _ ?_
        rw [upd_same, List.map_append, List.append_assoc]
        rfl
      · exact ((((c7.mn s8).told told8).mn s10).told told10).mn s11
      · rw [List.flatMap_append, List.length_append, show [kc].flatMap encC = encC kc by simp]
        rfl
  · have d : ¬ ((pre.flatMap encC).length : Int) < (l.length : Int) := of_decide_eq_false d
    cases post with
    | cons kc post =>
      have := CM.enc_pos kc
      rw [List.flatMap_cons, List.length_append] at elen
      exact absurd d (by omega)
    | nil =>
      have e : PyLr74.answers l = out := by
        rw [et, tells]
        show out ++ [] = out
        rw [List.append_nil]
      exact sr_ret (er_v rfl) fun v H5 s5 ev => k v H5 (kp.trans (Kp.of_same (s4.trans s5))) ⟨t, ev, by rw [e]; exact s5 _ _ (s4 _ _ told)⟩
end
end Clk
set_option Elab.async false
set_option maxRecDepth 100000
set_option maxHeartbeats 4000000
set_option linter.all false
set_option autoImplicit false
namespace Clk
open PySem PySem.Spec PyProof.Rows L2
section
variable {P : Program} {w : World} {K : PySem.W.Frag} {h : Heap} {mg : Str → Option Value} {base : Heap}
/-- one row of a written table of defs -/
theorem tab_one {x : Str} {ps : List Str} {sp : Sp} {i : Int} {j k n : Nat} {p : Addr} {es : Array DictEntry} (X : K.In h) (G : h.Ns mainGlobals mg) (l : K.lookup p = some ⟨.type "dict", none, .dict es n, #[]⟩) (hk : KeysI es.toList) (e : PySem.W.nsIn K mainGlobals x = some (findBy Value.isInt es i)) (c : Cal P w K mg base j x ps sp) (hj : j ≤ k) : ∃ f, KDci K p i (.ref f) ∧ Held P w K mg base k f sp := by
  obtain ⟨f, fd, F, m, kp, b⟩ := c
  refine ⟨f, ?_, ⟨fd, ps, F.mono hj, kp, b⟩⟩
  cases q : findBy Value.isInt es i with
  | none =>
    rw [q] at e
    rw [PySem.W.mg_none_of X G e] at m
    cases m
  | some u =>
    rw [q] at e
    have m2 := PySem.W.mg_of X G e
    rw [m] at m2
    cases m2
    exact kdi_mk l hk q rfl
theorem isArg_of {H : Hp} {l : List Int} {a : Addr} (hO : OnlyF H) (hs : SqL K H a (l.map V.int)) : IsArg K l (.ref a) H := by
  refine ⟨a, rfl, ?_⟩
  rcases hs with (hs | hs) | hs
  · rcases hO a with z | ⟨o, u, z⟩
    · rw [z] at hs
      cases hs
    · rw [z] at hs
      cases hs
  · exact .inl hs
  · exact .inr hs
theorem int_one {i v : Int} {n : Nat} {p : Addr} {es : Array DictEntry} (l : K.lookup p = some ⟨.type "dict", none, .dict es n, #[]⟩) (hk : KeysI es.toList) (e : ∃ t, findBy Value.isInt es i = some (.int v t)) : KDci K p i (.int v) := let ⟨t, e⟩ := e; kdi_mk l hk e ⟨t, rfl⟩
end
theorem con_mk {K : PySem.W.Frag} {x : Str} {i : Int} {t : Tok} (a : PySem.W.nsIn K mainGlobals x = some (some (.int i t))) : ∃ t, PySem.W.nsIn K mainGlobals x = some (some (.int i t)) := ⟨t, a⟩
theorem tCHANGES_mk {K : PySem.W.Frag} {p : Addr} {es : Array DictEntry} {n : Nat} (a : PySem.W.nsIn K PySem.mainGlobals "CHANGES" = some (some (.ref p))) (l : K.lookup p = some ⟨.type "dict", none, .dict es n, #[]⟩) (hk : Clk.KeysI es.toList) (f1 : PySem.W.nsIn K PySem.mainGlobals "answer_source" = some (PySem.findBy PySem.Value.isInt es 1)) (f2 : PySem.W.nsIn K PySem.mainGlobals "answer_leaf" = some (PySem.findBy PySem.Value.isInt es 2)) (f3 : PySem.W.nsIn K PySem.mainGlobals "answer_move" = some (PySem.findBy PySem.Value.isInt es 3)) (f4 : PySem.W.nsIn K PySem.mainGlobals "answer_drop" = some (PySem.findBy PySem.Value.isInt es 4)) (f5 : PySem.W.nsIn K PySem.mainGlobals "answer_shape" = some (PySem.findBy PySem.Value.isInt es 5)) (f6 : PySem.W.nsIn K PySem.mainGlobals "answer_plan" = some (PySem.findBy PySem.Value.isInt es 6)) (f7 : PySem.W.nsIn K PySem.mainGlobals "answer_build" = some (PySem.findBy PySem.Value.isInt es 7)) (f8 : PySem.W.nsIn K PySem.mainGlobals "answer_mend" = some (PySem.findBy PySem.Value.isInt es 8)) (f9 : PySem.W.nsIn K PySem.mainGlobals "answer_retie" = some (PySem.findBy PySem.Value.isInt es 9)) : ∃ (p : PySem.Addr) (es : Array PySem.DictEntry) (n : Nat), PySem.W.nsIn K PySem.mainGlobals "CHANGES" = some (some (.ref p)) ∧ K.lookup p = some ⟨.type "dict", none, .dict es n, #[]⟩ ∧ Clk.KeysI es.toList ∧ PySem.W.nsIn K PySem.mainGlobals "answer_source" = some (PySem.findBy PySem.Value.isInt es 1) ∧ PySem.W.nsIn K PySem.mainGlobals "answer_leaf" = some (PySem.findBy PySem.Value.isInt es 2) ∧ PySem.W.nsIn K PySem.mainGlobals "answer_move" = some (PySem.findBy PySem.Value.isInt es 3) ∧ PySem.W.nsIn K PySem.mainGlobals "answer_drop" = some (PySem.findBy PySem.Value.isInt es 4) ∧ PySem.W.nsIn K PySem.mainGlobals "answer_shape" = some (PySem.findBy PySem.Value.isInt es 5) ∧ PySem.W.nsIn K PySem.mainGlobals "answer_plan" = some (PySem.findBy PySem.Value.isInt es 6) ∧ PySem.W.nsIn K PySem.mainGlobals "answer_build" = some (PySem.findBy PySem.Value.isInt es 7) ∧ PySem.W.nsIn K PySem.mainGlobals "answer_mend" = some (PySem.findBy PySem.Value.isInt es 8) ∧ PySem.W.nsIn K PySem.mainGlobals "answer_retie" = some (PySem.findBy PySem.Value.isInt es 9) := ⟨p, es, n, a, l, hk, f1, f2, f3, f4, f5, f6, f7, f8, f9⟩
theorem tOF_BUILT_mk {K : PySem.W.Frag} {p : Addr} {es : Array DictEntry} {n : Nat} (a : PySem.W.nsIn K PySem.mainGlobals "OF_BUILT" = some (some (.ref p))) (l : K.lookup p = some ⟨.type "dict", none, .dict es n, #[]⟩) (hk : Clk.KeysI es.toList) (f13 : PySem.W.nsIn K PySem.mainGlobals "answer_sums" = some (PySem.findBy PySem.Value.isInt es 13)) (f14 : PySem.W.nsIn K PySem.mainGlobals "answer_ends" = some (PySem.findBy PySem.Value.isInt es 14)) (f15 : PySem.W.nsIn K PySem.mainGlobals "answer_when" = some (PySem.findBy PySem.Value.isInt es 15)) (f16 : PySem.W.nsIn K PySem.mainGlobals "answer_joint" = some (PySem.findBy PySem.Value.isInt es 16)) (f17 : PySem.W.nsIn K PySem.mainGlobals "answer_short" = some (PySem.findBy PySem.Value.isInt es 17)) (f18 : PySem.W.nsIn K PySem.mainGlobals "answer_anew" = some (PySem.findBy PySem.Value.isInt es 18)) (f19 : PySem.W.nsIn K PySem.mainGlobals "answer_ticking" = some (PySem.findBy PySem.Value.isInt es 19)) : ∃ (p : PySem.Addr) (es : Array PySem.DictEntry) (n : Nat), PySem.W.nsIn K PySem.mainGlobals "OF_BUILT" = some (some (.ref p)) ∧ K.lookup p = some ⟨.type "dict", none, .dict es n, #[]⟩ ∧ Clk.KeysI es.toList ∧ PySem.W.nsIn K PySem.mainGlobals "answer_sums" = some (PySem.findBy PySem.Value.isInt es 13) ∧ PySem.W.nsIn K PySem.mainGlobals "answer_ends" = some (PySem.findBy PySem.Value.isInt es 14) ∧ PySem.W.nsIn K PySem.mainGlobals "answer_when" = some (PySem.findBy PySem.Value.isInt es 15) ∧ PySem.W.nsIn K PySem.mainGlobals "answer_joint" = some (PySem.findBy PySem.Value.isInt es 16) ∧ PySem.W.nsIn K PySem.mainGlobals "answer_short" = some (PySem.findBy PySem.Value.isInt es 17) ∧ PySem.W.nsIn K PySem.mainGlobals "answer_anew" = some (PySem.findBy PySem.Value.isInt es 18) ∧ PySem.W.nsIn K PySem.mainGlobals "answer_ticking" = some (PySem.findBy PySem.Value.isInt es 19) := ⟨p, es, n, a, l, hk, f13, f14, f15, f16, f17, f18, f19⟩
theorem tCOUNTS_mk {K : PySem.W.Frag} {p : Addr} {es : Array DictEntry} {n : Nat} (a : PySem.W.nsIn K PySem.mainGlobals "COUNTS" = some (some (.ref p))) (l : K.lookup p = some ⟨.type "dict", none, .dict es n, #[]⟩) (hk : Clk.KeysI es.toList) (f0 : (∃ t, PySem.findBy PySem.Value.isInt es 0 = some (.int 0 t))) (f1 : (∃ t, PySem.findBy PySem.Value.isInt es 1 = some (.int 2 t))) (f2 : (∃ t, PySem.findBy PySem.Value.isInt es 2 = some (.int 4 t))) (f3 : (∃ t, PySem.findBy PySem.Value.isInt es 3 = some (.int 5 t))) (f4 : (∃ t, PySem.findBy PySem.Value.isInt es 4 = some (.int 1 t))) (f6 : (∃ t, PySem.findBy PySem.Value.isInt es 6 = some (.int 1 t))) (f7 : (∃ t, PySem.findBy PySem.Value.isInt es 7 = some (.int 0 t))) (f8 : (∃ t, PySem.findBy PySem.Value.isInt es 8 = some (.int 0 t))) (f9 : (∃ t, PySem.findBy PySem.Value.isInt es 9 = some (.int 0 t))) (f10 : (∃ t, PySem.findBy PySem.Value.isInt es 10 = some (.int 0 t))) (f11 : (∃ t, PySem.findBy PySem.Value.isInt es 11 = some (.int 0 t))) (f12 : (∃ t, PySem.findBy PySem.Value.isInt es 12 = some (.int 0 t))) (f13 : (∃ t, PySem.findBy PySem.Value.isInt es 13 = some (.int 0 t))) (f14 : (∃ t, PySem.findBy PySem.Value.isInt es 14 = some (.int 0 t))) (f15 : (∃ t, PySem.findBy PySem.Value.isInt es 15 = some (.int 1 t))) (f16 : (∃ t, PySem.findBy PySem.Value.isInt es 16 = some (.int 1 t))) (f17 : (∃ t, PySem.findBy PySem.Value.isInt es 17 = some (.int 0 t))) (f18 : (∃ t, PySem.findBy PySem.Value.isInt es 18 = some (.int 0 t))) (f19 : (∃ t, PySem.findBy PySem.Value.isInt es 19 = some (.int 1 t))) : ∃ (p : PySem.Addr) (es : Array PySem.DictEntry) (n : Nat), PySem.W.nsIn K PySem.mainGlobals "COUNTS" = some (some (.ref p)) ∧ K.lookup p = some ⟨.type "dict", none, .dict es n, #[]⟩ ∧ Clk.KeysI es.toList ∧ (∃ t, PySem.findBy PySem.Value.isInt es 0 = some (.int 0 t)) ∧ (∃ t, PySem.findBy PySem.Value.isInt es 1 = some (.int 2 t)) ∧ (∃ t, PySem.findBy PySem.Value.isInt es 2 = some (.int 4 t)) ∧ (∃ t, PySem.findBy PySem.Value.isInt es 3 = some (.int 5 t)) ∧ (∃ t, PySem.findBy PySem.Value.isInt es 4 = some (.int 1 t)) ∧ (∃ t, PySem.findBy PySem.Value.isInt es 6 = some (.int 1 t)) ∧ (∃ t, PySem.findBy PySem.Value.isInt es 7 = some (.int 0 t)) ∧ (∃ t, PySem.findBy PySem.Value.isInt es 8 = some (.int 0 t)) ∧ (∃ t, PySem.findBy PySem.Value.isInt es 9 = some (.int 0 t)) ∧ (∃ t, PySem.findBy PySem.Value.isInt es 10 = some (.int 0 t)) ∧ (∃ t, PySem.findBy PySem.Value.isInt es 11 = some (.int 0 t)) ∧ (∃ t, PySem.findBy PySem.Value.isInt es 12 = some (.int 0 t)) ∧ (∃ t, PySem.findBy PySem.Value.isInt es 13 = some (.int 0 t)) ∧ (∃ t, PySem.findBy PySem.Value.isInt es 14 = some (.int 0 t)) ∧ (∃ t, PySem.findBy PySem.Value.isInt es 15 = some (.int 1 t)) ∧ (∃ t, PySem.findBy PySem.Value.isInt es 16 = some (.int 1 t)) ∧ (∃ t, PySem.findBy PySem.Value.isInt es 17 = some (.int 0 t)) ∧ (∃ t, PySem.findBy PySem.Value.isInt es 18 = some (.int 0 t)) ∧ (∃ t, PySem.findBy PySem.Value.isInt es 19 = some (.int 1 t)) := ⟨p, es, n, a, l, hk, f0, f1, f2, f3, f4, f6, f7, f8, f9, f10, f11, f12, f13, f14, f15, f16, f17, f18, f19⟩
theorem all_mk {P : Program} {w : World} {K : PySem.W.Frag} {h : Heap} {mg : Str → Option Value} {fa : Addr} (X : K.In h) (G : h.Ns mainGlobals mg) (hfa : mg "answers" = some (.ref fa))
    (d_in_parts : Clk.DefIn K "in_parts" Clk.s_in_parts)
    (d_apart : Clk.DefIn K "apart" Clk.s_apart)
    (d_area_of_place : Clk.DefIn K "area_of_place" Clk.s_area_of_place)
    (d_gap : Clk.DefIn K "gap" Clk.s_gap)
    (d_areas_apart : Clk.DefIn K "areas_apart" Clk.s_areas_apart)
    (d_area_within : Clk.DefIn K "area_within" Clk.s_area_within)
    (d_clamped : Clk.DefIn K "clamped" Clk.s_clamped)
    (d_nearest_place : Clk.DefIn K "nearest_place" Clk.s_nearest_place)
    (d_is_shape : Clk.DefIn K "is_shape" Clk.s_is_shape)
    (d_tree_of_numbers : Clk.DefIn K "tree_of_numbers" Clk.s_tree_of_numbers)
    (d_add_pairs : Clk.DefIn K "add_pairs" Clk.s_add_pairs)
    (d_pairs_of_tree : Clk.DefIn K "pairs_of_tree" Clk.s_pairs_of_tree)
    (d_splits : Clk.DefIn K "splits" Clk.s_splits)
    (d_joint_above : Clk.DefIn K "joint_above" Clk.s_joint_above)
    (d_other_side : Clk.DefIn K "other_side" Clk.s_other_side)
    (d_number_without : Clk.DefIn K "number_without" Clk.s_number_without)
    (d_pairs_without : Clk.DefIn K "pairs_without" Clk.s_pairs_without)
    (d_steps_in : Clk.DefIn K "steps_in" Clk.s_steps_in)
    (d_leaf_outcome : Clk.DefIn K "leaf_outcome" Clk.s_leaf_outcome)
    (d_joint_outcome : Clk.DefIn K "joint_outcome" Clk.s_joint_outcome)
    (d_outcomes_of_pairs : Clk.DefIn K "outcomes_of_pairs" Clk.s_outcomes_of_pairs)
    (d_joined_outcomes : Clk.DefIn K "joined_outcomes" Clk.s_joined_outcomes)
    (d_all_outcomes : Clk.DefIn K "all_outcomes" Clk.s_all_outcomes)
    (d_wire_then_time : Clk.DefIn K "wire_then_time" Clk.s_wire_then_time)
    (d_power_then_wire : Clk.DefIn K "power_then_wire" Clk.s_power_then_wire)
    (d_best_outcome : Clk.DefIn K "best_outcome" Clk.s_best_outcome)
    (d_all_wire : Clk.DefIn K "all_wire" Clk.s_all_wire)
    (d_places_from : Clk.DefIn K "places_from" Clk.s_places_from)
    (d_built_from : Clk.DefIn K "built_from" Clk.s_built_from)
    (d_places_of_all : Clk.DefIn K "places_of_all" Clk.s_places_of_all)
    (d_mended : Clk.DefIn K "mended" Clk.s_mended)
    (d_tied_anew : Clk.DefIn K "tied_anew" Clk.s_tied_anew)
    (d_longer_to : Clk.DefIn K "longer_to" Clk.s_longer_to)
    (d_built_without : Clk.DefIn K "built_without" Clk.s_built_without)
    (d_state_of : Clk.DefIn K "state_of" Clk.s_state_of)
    (d_put_back : Clk.DefIn K "put_back" Clk.s_put_back)
    (d_remember : Clk.DefIn K "remember" Clk.s_remember)
    (d_answer_new : Clk.DefIn K "answer_new" Clk.s_answer_new)
    (d_answer_undo : Clk.DefIn K "answer_undo" Clk.s_answer_undo)
    (d_answer_redo : Clk.DefIn K "answer_redo" Clk.s_answer_redo)
    (d_answer_state : Clk.DefIn K "answer_state" Clk.s_answer_state)
    (d_is_in_reach : Clk.DefIn K "is_in_reach" Clk.s_is_in_reach)
    (d_is_leaf : Clk.DefIn K "is_leaf" Clk.s_is_leaf)
    (d_place_at : Clk.DefIn K "place_at" Clk.s_place_at)
    (d_leaf_at : Clk.DefIn K "leaf_at" Clk.s_leaf_at)
    (d_answer_source : Clk.DefIn K "answer_source" Clk.s_answer_source)
    (d_answer_leaf : Clk.DefIn K "answer_leaf" Clk.s_answer_leaf)
    (d_answer_move : Clk.DefIn K "answer_move" Clk.s_answer_move)
    (d_answer_drop : Clk.DefIn K "answer_drop" Clk.s_answer_drop)
    (d_answer_shape : Clk.DefIn K "answer_shape" Clk.s_answer_shape)
    (d_answer_plan : Clk.DefIn K "answer_plan" Clk.s_answer_plan)
    (d_answer_build : Clk.DefIn K "answer_build" Clk.s_answer_build)
    (d_answer_mend : Clk.DefIn K "answer_mend" Clk.s_answer_mend)
    (d_answer_retie : Clk.DefIn K "answer_retie" Clk.s_answer_retie)
    (d_answer_change : Clk.DefIn K "answer_change" Clk.s_answer_change)
    (d_needs_of_all : Clk.DefIn K "needs_of_all" Clk.s_needs_of_all)
    (d_wires_of : Clk.DefIn K "wires_of" Clk.s_wires_of)
    (d_power_of : Clk.DefIn K "power_of" Clk.s_power_of)
    (d_wire_ticking : Clk.DefIn K "wire_ticking" Clk.s_wire_ticking)
    (d_count_short : Clk.DefIn K "count_short" Clk.s_count_short)
    (d_moments_of : Clk.DefIn K "moments_of" Clk.s_moments_of)
    (d_wires_now : Clk.DefIn K "wires_now" Clk.s_wires_now)
    (d_answer_told : Clk.DefIn K "answer_told" Clk.s_answer_told)
    (d_answer_sums : Clk.DefIn K "answer_sums" Clk.s_answer_sums)
    (d_answer_ends : Clk.DefIn K "answer_ends" Clk.s_answer_ends)
    (d_answer_when : Clk.DefIn K "answer_when" Clk.s_answer_when)
    (d_answer_joint : Clk.DefIn K "answer_joint" Clk.s_answer_joint)
    (d_answer_short : Clk.DefIn K "answer_short" Clk.s_answer_short)
    (d_answer_anew : Clk.DefIn K "answer_anew" Clk.s_answer_anew)
    (d_answer_ticking : Clk.DefIn K "answer_ticking" Clk.s_answer_ticking)
    (d_answer_telling : Clk.DefIn K "answer_telling" Clk.s_answer_telling)
    (d_numbers_begin : Clk.DefIn K "numbers_begin" Clk.s_numbers_begin)
    (d_numbers_end : Clk.DefIn K "numbers_end" Clk.s_numbers_end)
    (d_answer_call : Clk.DefIn K "answer_call" Clk.s_answer_call)
    (d_answers : Clk.DefIn K "answers" Clk.s_answers)
    (k_Leaf : ∃ C, Clk.ClsIn K "Leaf" "Leaf.__init__" C Clk.s_Leaf_init ∧ Clk.LeafC K C)
    (k_Outcome : ∃ C, Clk.ClsIn K "Outcome" "Outcome.__init__" C Clk.s_Outcome_init ∧ Clk.OutC K C)
    (k_Built : ∃ C, Clk.ClsIn K "Built" "Built.__init__" C Clk.s_Built_init ∧ Clk.BuiltC K C)
    (k_Chip : ∃ C, Clk.ClsIn K "Chip" "Chip.__init__" C Clk.s_Chip_init ∧ Clk.ChipC K C)
    (k_Wire : ∃ C, Clk.ClsIn K "Wire" "Wire.__init__" C Clk.s_Wire_init ∧ Clk.WireC K C)
    (g_PARTS : ∃ t, PySem.W.nsIn K PySem.mainGlobals "PARTS" = some (some (.int 256 t)))
    (g_NO_SUCH_ONE : ∃ t, PySem.W.nsIn K PySem.mainGlobals "NO_SUCH_ONE" = some (some (.int (-2) t)))
    (g_NO_CHANGE : ∃ t, PySem.W.nsIn K PySem.mainGlobals "NO_CHANGE" = some (some (.int (-6) t)))
    (g_TOO_MANY_SHAPES : ∃ t, PySem.W.nsIn K PySem.mainGlobals "TOO_MANY_SHAPES" = some (some (.int (-7) t)))
    (g_NOT_THERE : ∃ t, PySem.W.nsIn K PySem.mainGlobals "NOT_THERE" = some (some (.int (-16) t)))
    (g_OUT_OF_BOUNDS : ∃ t, PySem.W.nsIn K PySem.mainGlobals "OUT_OF_BOUNDS" = some (some (.int (-22) t)))
    (g_NO_ROOM : ∃ t, PySem.W.nsIn K PySem.mainGlobals "NO_ROOM" = some (some (.int (-28) t)))
    (g_FARTHEST : ∃ t, PySem.W.nsIn K PySem.mainGlobals "FARTHEST" = some (some (.int 100000 t)))
    (g_LATEST : ∃ t, PySem.W.nsIn K PySem.mainGlobals "LATEST" = some (some (.int 100000 t)))
    (g_ALL_STEPS : ∃ t, PySem.W.nsIn K PySem.mainGlobals "ALL_STEPS" = some (some (.int 65535 t)))
    (g_MOST_LEAVES : ∃ t, PySem.W.nsIn K PySem.mainGlobals "MOST_LEAVES" = some (some (.int 8 t)))
    (g_MOST_PLANNED : ∃ t, PySem.W.nsIn K PySem.mainGlobals "MOST_PLANNED" = some (some (.int 6 t)))
    (g_SHAPE : ∃ t, PySem.W.nsIn K PySem.mainGlobals "SHAPE" = some (some (.int 5 t)))
    (g_FIRST_CHANGE : ∃ t, PySem.W.nsIn K PySem.mainGlobals "FIRST_CHANGE" = some (some (.int 1 t)))
    (g_LAST_CHANGE : ∃ t, PySem.W.nsIn K PySem.mainGlobals "LAST_CHANGE" = some (some (.int 9 t)))
    (g_FIRST_TELLING : ∃ t, PySem.W.nsIn K PySem.mainGlobals "FIRST_TELLING" = some (some (.int 12 t)))
    (g_NEW : ∃ t, PySem.W.nsIn K PySem.mainGlobals "NEW" = some (some (.int 0 t)))
    (g_UNDO : ∃ t, PySem.W.nsIn K PySem.mainGlobals "UNDO" = some (some (.int 10 t)))
    (g_MOST_TAKEN_BACK : ∃ t, PySem.W.nsIn K PySem.mainGlobals "MOST_TAKEN_BACK" = some (some (.int 20 t)))
    (g_TOLD : ∃ t, PySem.W.nsIn K PySem.mainGlobals "TOLD" = some (some (.int 12 t)))
    (g_TICKING : ∃ t, PySem.W.nsIn K PySem.mainGlobals "TICKING" = some (some (.int 19 t)))
    (g_LAST_STEP : ∃ t, PySem.W.nsIn K PySem.mainGlobals "LAST_STEP" = some (some (.int 15 t)))
    (z_len : PySem.W.nsIn K PySem.mainGlobals "len" = some none)
    (z_max : PySem.W.nsIn K PySem.mainGlobals "max" = some none)
    (z_min : PySem.W.nsIn K PySem.mainGlobals "min" = some none)
    (z_abs : PySem.W.nsIn K PySem.mainGlobals "abs" = some none)
    (z_sum : PySem.W.nsIn K PySem.mainGlobals "sum" = some none)
    (z_tuple : PySem.W.nsIn K PySem.mainGlobals "tuple" = some none)
    (z_list : PySem.W.nsIn K PySem.mainGlobals "list" = some none)
    (z_range : PySem.W.nsIn K PySem.mainGlobals "range" = some none)
    (z_enumerate : PySem.W.nsIn K PySem.mainGlobals "enumerate" = some none)
    (z_zip : PySem.W.nsIn K PySem.mainGlobals "zip" = some none)
    (z_isinstance : PySem.W.nsIn K PySem.mainGlobals "isinstance" = some none)
    (z_int : PySem.W.nsIn K PySem.mainGlobals "int" = some none)
    (t_CHANGES : ∃ (p : PySem.Addr) (es : Array PySem.DictEntry) (n : Nat), PySem.W.nsIn K PySem.mainGlobals "CHANGES" = some (some (.ref p)) ∧ K.lookup p = some ⟨.type "dict", none, .dict es n, #[]⟩ ∧ Clk.KeysI es.toList ∧ PySem.W.nsIn K PySem.mainGlobals "answer_source" = some (PySem.findBy PySem.Value.isInt es 1) ∧ PySem.W.nsIn K PySem.mainGlobals "answer_leaf" = some (PySem.findBy PySem.Value.isInt es 2) ∧ PySem.W.nsIn K PySem.mainGlobals "answer_move" = some (PySem.findBy PySem.Value.isInt es 3) ∧ PySem.W.nsIn K PySem.mainGlobals "answer_drop" = some (PySem.findBy PySem.Value.isInt es 4) ∧ PySem.W.nsIn K PySem.mainGlobals "answer_shape" = some (PySem.findBy PySem.Value.isInt es 5) ∧ PySem.W.nsIn K PySem.mainGlobals "answer_plan" = some (PySem.findBy PySem.Value.isInt es 6) ∧ PySem.W.nsIn K PySem.mainGlobals "answer_build" = some (PySem.findBy PySem.Value.isInt es 7) ∧ PySem.W.nsIn K PySem.mainGlobals "answer_mend" = some (PySem.findBy PySem.Value.isInt es 8) ∧ PySem.W.nsIn K PySem.mainGlobals "answer_retie" = some (PySem.findBy PySem.Value.isInt es 9))
    (t_OF_BUILT : ∃ (p : PySem.Addr) (es : Array PySem.DictEntry) (n : Nat), PySem.W.nsIn K PySem.mainGlobals "OF_BUILT" = some (some (.ref p)) ∧ K.lookup p = some ⟨.type "dict", none, .dict es n, #[]⟩ ∧ Clk.KeysI es.toList ∧ PySem.W.nsIn K PySem.mainGlobals "answer_sums" = some (PySem.findBy PySem.Value.isInt es 13) ∧ PySem.W.nsIn K PySem.mainGlobals "answer_ends" = some (PySem.findBy PySem.Value.isInt es 14) ∧ PySem.W.nsIn K PySem.mainGlobals "answer_when" = some (PySem.findBy PySem.Value.isInt es 15) ∧ PySem.W.nsIn K PySem.mainGlobals "answer_joint" = some (PySem.findBy PySem.Value.isInt es 16) ∧ PySem.W.nsIn K PySem.mainGlobals "answer_short" = some (PySem.findBy PySem.Value.isInt es 17) ∧ PySem.W.nsIn K PySem.mainGlobals "answer_anew" = some (PySem.findBy PySem.Value.isInt es 18) ∧ PySem.W.nsIn K PySem.mainGlobals "answer_ticking" = some (PySem.findBy PySem.Value.isInt es 19))
    (t_COUNTS : ∃ (p : PySem.Addr) (es : Array PySem.DictEntry) (n : Nat), PySem.W.nsIn K PySem.mainGlobals "COUNTS" = some (some (.ref p)) ∧ K.lookup p = some ⟨.type "dict", none, .dict es n, #[]⟩ ∧ Clk.KeysI es.toList ∧ (∃ t, PySem.findBy PySem.Value.isInt es 0 = some (.int 0 t)) ∧ (∃ t, PySem.findBy PySem.Value.isInt es 1 = some (.int 2 t)) ∧ (∃ t, PySem.findBy PySem.Value.isInt es 2 = some (.int 4 t)) ∧ (∃ t, PySem.findBy PySem.Value.isInt es 3 = some (.int 5 t)) ∧ (∃ t, PySem.findBy PySem.Value.isInt es 4 = some (.int 1 t)) ∧ (∃ t, PySem.findBy PySem.Value.isInt es 6 = some (.int 1 t)) ∧ (∃ t, PySem.findBy PySem.Value.isInt es 7 = some (.int 0 t)) ∧ (∃ t, PySem.findBy PySem.Value.isInt es 8 = some (.int 0 t)) ∧ (∃ t, PySem.findBy PySem.Value.isInt es 9 = some (.int 0 t)) ∧ (∃ t, PySem.findBy PySem.Value.isInt es 10 = some (.int 0 t)) ∧ (∃ t, PySem.findBy PySem.Value.isInt es 11 = some (.int 0 t)) ∧ (∃ t, PySem.findBy PySem.Value.isInt es 12 = some (.int 0 t)) ∧ (∃ t, PySem.findBy PySem.Value.isInt es 13 = some (.int 0 t)) ∧ (∃ t, PySem.findBy PySem.Value.isInt es 14 = some (.int 0 t)) ∧ (∃ t, PySem.findBy PySem.Value.isInt es 15 = some (.int 1 t)) ∧ (∃ t, PySem.findBy PySem.Value.isInt es 16 = some (.int 1 t)) ∧ (∃ t, PySem.findBy PySem.Value.isInt es 17 = some (.int 0 t)) ∧ (∃ t, PySem.findBy PySem.Value.isInt es 18 = some (.int 0 t)) ∧ (∃ t, PySem.findBy PySem.Value.isInt es 19 = some (.int 1 t)))
    : ∃ fd : FuncData, (∀ (s : Shared) (us : List Value), us.length = P_answers.length → BindsTo s fd ⟨us, []⟩ (P_answers.zip us)) ∧ ∀ base : Heap, K.In base → base.Ns mainGlobals mg → FnOk P w K mg base CX0 26 fa fd P_answers (sp_answers K) := by
  obtain ⟨CL, i_Leaf, y_Leaf⟩ := k_Leaf
  obtain ⟨CO, i_Outcome, y_Outcome⟩ := k_Outcome
  obtain ⟨CB, i_Built, y_Built⟩ := k_Built
  obtain ⟨C, i_Chip, y_Chip⟩ := k_Chip
  obtain ⟨CW, i_Wire, y_Wire⟩ := k_Wire
  have T0 : Gs mg := ⟨PySem.W.mg_none_of X G z_len, PySem.W.mg_none_of X G z_max, PySem.W.mg_none_of X G z_min, PySem.W.mg_none_of X G z_abs, PySem.W.mg_none_of X G z_sum, PySem.W.mg_none_of X G z_tuple, PySem.W.mg_none_of X G z_list, PySem.W.mg_none_of X G z_range, PySem.W.mg_none_of X G z_enumerate, PySem.W.mg_none_of X G z_zip, PySem.W.mg_none_of X G z_isinstance, PySem.W.mg_none_of X G z_int, (let ⟨_, e⟩ := g_PARTS; gv_mk X G e)⟩
  have T : Gt mg := ⟨T0, (let ⟨_, e⟩ := g_NO_SUCH_ONE; gv_mk X G e), (let ⟨_, e⟩ := g_NO_CHANGE; gv_mk X G e), (let ⟨_, e⟩ := g_TOO_MANY_SHAPES; gv_mk X G e), (let ⟨_, e⟩ := g_NOT_THERE; gv_mk X G e), (let ⟨_, e⟩ := g_OUT_OF_BOUNDS; gv_mk X G e), (let ⟨_, e⟩ := g_NO_ROOM; gv_mk X G e), (let ⟨_, e⟩ := g_FARTHEST; gv_mk X G e), (let ⟨_, e⟩ := g_LATEST; gv_mk X G e), (let ⟨_, e⟩ := g_ALL_STEPS; gv_mk X G e), (let ⟨_, e⟩ := g_MOST_LEAVES; gv_mk X G e), (let ⟨_, e⟩ := g_MOST_PLANNED; gv_mk X G e), (let ⟨_, e⟩ := g_SHAPE; gv_mk X G e), (let ⟨_, e⟩ := g_FIRST_CHANGE; gv_mk X G e), (let ⟨_, e⟩ := g_LAST_CHANGE; gv_mk X G e), (let ⟨_, e⟩ := g_FIRST_TELLING; gv_mk X G e), (let ⟨_, e⟩ := g_NEW; gv_mk X G e), (let ⟨_, e⟩ := g_UNDO; gv_mk X G e), (let ⟨_, e⟩ := g_MOST_TAKEN_BACK; gv_mk X G e), (let ⟨_, e⟩ := g_TOLD; gv_mk X G e), (let ⟨_, e⟩ := g_TICKING; gv_mk X G e), (let ⟨_, e⟩ := g_LAST_STEP; gv_mk X G e)⟩
  have F_in_parts : DefAt K mg "in_parts" s_in_parts P_in_parts := d_in_parts.at_ X G fun _ _ _ _ _ _ us hl => match us, hl with | [_], _ => rfl
  have F_apart : DefAt K mg "apart" s_apart P_apart := d_apart.at_ X G fun _ _ _ _ _ _ us hl => match us, hl with | [_, _], _ => rfl
  have F_area_of_place : DefAt K mg "area_of_place" s_area_of_place P_area_of_place := d_area_of_place.at_ X G fun _ _ _ _ _ _ us hl => match us, hl with | [_], _ => rfl
  have F_gap : DefAt K mg "gap" s_gap P_gap := d_gap.at_ X G fun _ _ _ _ _ _ us hl => match us, hl with | [_, _, _, _], _ => rfl
  have F_areas_apart : DefAt K mg "areas_apart" s_areas_apart P_areas_apart := d_areas_apart.at_ X G fun _ _ _ _ _ _ us hl => match us, hl with | [_, _], _ => rfl
  have F_area_within : DefAt K mg "area_within" s_area_within P_area_within := d_area_within.at_ X G fun _ _ _ _ _ _ us hl => match us, hl with | [_, _, _, _], _ => rfl
  have F_clamped : DefAt K mg "clamped" s_clamped P_clamped := d_clamped.at_ X G fun _ _ _ _ _ _ us hl => match us, hl with | [_, _, _], _ => rfl
  have F_nearest_place : DefAt K mg "nearest_place" s_nearest_place P_nearest_place := d_nearest_place.at_ X G fun _ _ _ _ _ _ us hl => match us, hl with | [_, _], _ => rfl
  have F_is_shape : DefAt K mg "is_shape" s_is_shape P_is_shape := d_is_shape.at_ X G fun _ _ _ _ _ _ us hl => match us, hl with | [_, _], _ => rfl
  have F_tree_of_numbers : DefAt K mg "tree_of_numbers" s_tree_of_numbers P_tree_of_numbers := d_tree_of_numbers.at_ X G fun _ _ _ _ _ _ us hl => match us, hl with | [_, _], _ => rfl
  have F_add_pairs : DefAt K mg "add_pairs" s_add_pairs P_add_pairs := d_add_pairs.at_ X G fun _ _ _ _ _ _ us hl => match us, hl with | [_, _, _], _ => rfl
  have F_pairs_of_tree : DefAt K mg "pairs_of_tree" s_pairs_of_tree P_pairs_of_tree := d_pairs_of_tree.at_ X G fun _ _ _ _ _ _ us hl => match us, hl with | [_, _], _ => rfl
  have F_splits : DefAt K mg "splits" s_splits P_splits := d_splits.at_ X G fun _ _ _ _ _ _ us hl => match us, hl with | [_], _ => rfl
  have F_joint_above : DefAt K mg "joint_above" s_joint_above P_joint_above := d_joint_above.at_ X G fun _ _ _ _ _ _ us hl => match us, hl with | [_, _], _ => rfl
  have F_other_side : DefAt K mg "other_side" s_other_side P_other_side := d_other_side.at_ X G fun _ _ _ _ _ _ us hl => match us, hl with | [_, _], _ => rfl
  have F_number_without : DefAt K mg "number_without" s_number_without P_number_without := d_number_without.at_ X G fun _ _ _ _ _ _ us hl => match us, hl with | [_, _, _, _], _ => rfl
  have F_pairs_without : DefAt K mg "pairs_without" s_pairs_without P_pairs_without := d_pairs_without.at_ X G fun _ _ _ _ _ _ us hl => match us, hl with | [_, _], _ => rfl
  have F_steps_in : DefAt K mg "steps_in" s_steps_in P_steps_in := d_steps_in.at_ X G fun _ _ _ _ _ _ us hl => match us, hl with | [_], _ => rfl
  have F_leaf_outcome : DefAt K mg "leaf_outcome" s_leaf_outcome P_leaf_outcome := d_leaf_outcome.at_ X G fun _ _ _ _ _ _ us hl => match us, hl with | [_, _], _ => rfl
  have F_joint_outcome : DefAt K mg "joint_outcome" s_joint_outcome P_joint_outcome := d_joint_outcome.at_ X G fun _ _ _ _ _ _ us hl => match us, hl with | [_, _], _ => rfl
  have F_outcomes_of_pairs : DefAt K mg "outcomes_of_pairs" s_outcomes_of_pairs P_outcomes_of_pairs := d_outcomes_of_pairs.at_ X G fun _ _ _ _ _ _ us hl => match us, hl with | [_, _], _ => rfl
  have F_joined_outcomes : DefAt K mg "joined_outcomes" s_joined_outcomes P_joined_outcomes := d_joined_outcomes.at_ X G fun _ _ _ _ _ _ us hl => match us, hl with | [_, _, _], _ => rfl
  have F_all_outcomes : DefAt K mg "all_outcomes" s_all_outcomes P_all_outcomes := d_all_outcomes.at_ X G fun _ _ _ _ _ _ us hl => match us, hl with | [_, _, _], _ => rfl
  have F_wire_then_time : DefAt K mg "wire_then_time" s_wire_then_time P_wire_then_time := d_wire_then_time.at_ X G fun _ _ _ _ _ _ us hl => match us, hl with | [_], _ => rfl
  have F_power_then_wire : DefAt K mg "power_then_wire" s_power_then_wire P_power_then_wire := d_power_then_wire.at_ X G fun _ _ _ _ _ _ us hl => match us, hl with | [_], _ => rfl
  have F_best_outcome : DefAt K mg "best_outcome" s_best_outcome P_best_outcome := d_best_outcome.at_ X G fun _ _ _ _ _ _ us hl => match us, hl with | [_, _], _ => rfl
  have F_all_wire : DefAt K mg "all_wire" s_all_wire P_all_wire := d_all_wire.at_ X G fun _ _ _ _ _ _ us hl => match us, hl with | [_], _ => rfl
  have F_places_from : DefAt K mg "places_from" s_places_from P_places_from := d_places_from.at_ X G fun _ _ _ _ _ _ us hl => match us, hl with | [_, _, _], _ => rfl
  have F_built_from : DefAt K mg "built_from" s_built_from P_built_from := d_built_from.at_ X G fun _ _ _ _ _ _ us hl => match us, hl with | [_, _, _], _ => rfl
  have F_places_of_all : DefAt K mg "places_of_all" s_places_of_all P_places_of_all := d_places_of_all.at_ X G fun _ _ _ _ _ _ us hl => match us, hl with | [_, _], _ => rfl
  have F_mended : DefAt K mg "mended" s_mended P_mended := d_mended.at_ X G fun _ _ _ _ _ _ us hl => match us, hl with | [_, _, _], _ => rfl
  have F_tied_anew : DefAt K mg "tied_anew" s_tied_anew P_tied_anew := d_tied_anew.at_ X G fun _ _ _ _ _ _ us hl => match us, hl with | [_, _, _], _ => rfl
  have F_longer_to : DefAt K mg "longer_to" s_longer_to P_longer_to := d_longer_to.at_ X G fun _ _ _ _ _ _ us hl => match us, hl with | [_, _, _, _], _ => rfl
  have F_built_without : DefAt K mg "built_without" s_built_without P_built_without := d_built_without.at_ X G fun _ _ _ _ _ _ us hl => match us, hl with | [_, _], _ => rfl
  have F_state_of : DefAt K mg "state_of" s_state_of P_state_of := d_state_of.at_ X G fun _ _ _ _ _ _ us hl => match us, hl with | [_], _ => rfl
  have F_put_back : DefAt K mg "put_back" s_put_back P_put_back := d_put_back.at_ X G fun _ _ _ _ _ _ us hl => match us, hl with | [_, _], _ => rfl
  have F_remember : DefAt K mg "remember" s_remember P_remember := d_remember.at_ X G fun _ _ _ _ _ _ us hl => match us, hl with | [_, _], _ => rfl
  have F_answer_new : DefAt K mg "answer_new" s_answer_new P_answer_new := d_answer_new.at_ X G fun _ _ _ _ _ _ us hl => match us, hl with | [_], _ => rfl
  have F_answer_undo : DefAt K mg "answer_undo" s_answer_undo P_answer_undo := d_answer_undo.at_ X G fun _ _ _ _ _ _ us hl => match us, hl with | [_], _ => rfl
  have F_answer_redo : DefAt K mg "answer_redo" s_answer_redo P_answer_redo := d_answer_redo.at_ X G fun _ _ _ _ _ _ us hl => match us, hl with | [_], _ => rfl
  have F_answer_state : DefAt K mg "answer_state" s_answer_state P_answer_state := d_answer_state.at_ X G fun _ _ _ _ _ _ us hl => match us, hl with | [_, _], _ => rfl
  have F_is_in_reach : DefAt K mg "is_in_reach" s_is_in_reach P_is_in_reach := d_is_in_reach.at_ X G fun _ _ _ _ _ _ us hl => match us, hl with | [_, _], _ => rfl
  have F_is_leaf : DefAt K mg "is_leaf" s_is_leaf P_is_leaf := d_is_leaf.at_ X G fun _ _ _ _ _ _ us hl => match us, hl with | [_, _, _, _], _ => rfl
  have F_place_at : DefAt K mg "place_at" s_place_at P_place_at := d_place_at.at_ X G fun _ _ _ _ _ _ us hl => match us, hl with | [_, _], _ => rfl
  have F_leaf_at : DefAt K mg "leaf_at" s_leaf_at P_leaf_at := d_leaf_at.at_ X G fun _ _ _ _ _ _ us hl => match us, hl with | [_, _, _, _], _ => rfl
  have F_answer_source : DefAt K mg "answer_source" s_answer_source P_answer_source := d_answer_source.at_ X G fun _ _ _ _ _ _ us hl => match us, hl with | [_, _], _ => rfl
  have F_answer_leaf : DefAt K mg "answer_leaf" s_answer_leaf P_answer_leaf := d_answer_leaf.at_ X G fun _ _ _ _ _ _ us hl => match us, hl with | [_, _], _ => rfl
  have F_answer_move : DefAt K mg "answer_move" s_answer_move P_answer_move := d_answer_move.at_ X G fun _ _ _ _ _ _ us hl => match us, hl with | [_, _], _ => rfl
  have F_answer_drop : DefAt K mg "answer_drop" s_answer_drop P_answer_drop := d_answer_drop.at_ X G fun _ _ _ _ _ _ us hl => match us, hl with | [_, _], _ => rfl
  have F_answer_shape : DefAt K mg "answer_shape" s_answer_shape P_answer_shape := d_answer_shape.at_ X G fun _ _ _ _ _ _ us hl => match us, hl with | [_, _], _ => rfl
  have F_answer_plan : DefAt K mg "answer_plan" s_answer_plan P_answer_plan := d_answer_plan.at_ X G fun _ _ _ _ _ _ us hl => match us, hl with | [_, _], _ => rfl
  have F_answer_build : DefAt K mg "answer_build" s_answer_build P_answer_build := d_answer_build.at_ X G fun _ _ _ _ _ _ us hl => match us, hl with | [_, _], _ => rfl
  have F_answer_mend : DefAt K mg "answer_mend" s_answer_mend P_answer_mend := d_answer_mend.at_ X G fun _ _ _ _ _ _ us hl => match us, hl with | [_, _], _ => rfl
  have F_answer_retie : DefAt K mg "answer_retie" s_answer_retie P_answer_retie := d_answer_retie.at_ X G fun _ _ _ _ _ _ us hl => match us, hl with | [_, _], _ => rfl
  have F_answer_change : DefAt K mg "answer_change" s_answer_change P_answer_change := d_answer_change.at_ X G fun _ _ _ _ _ _ us hl => match us, hl with | [_, _, _], _ => rfl
  have F_needs_of_all : DefAt K mg "needs_of_all" s_needs_of_all P_needs_of_all := d_needs_of_all.at_ X G fun _ _ _ _ _ _ us hl => match us, hl with | [_, _], _ => rfl
  have F_wires_of : DefAt K mg "wires_of" s_wires_of P_wires_of := d_wires_of.at_ X G fun _ _ _ _ _ _ us hl => match us, hl with | [_, _, _], _ => rfl
  have F_power_of : DefAt K mg "power_of" s_power_of P_power_of := d_power_of.at_ X G fun _ _ _ _ _ _ us hl => match us, hl with | [_], _ => rfl
  have F_wire_ticking : DefAt K mg "wire_ticking" s_wire_ticking P_wire_ticking := d_wire_ticking.at_ X G fun _ _ _ _ _ _ us hl => match us, hl with | [_, _], _ => rfl
  have F_count_short : DefAt K mg "count_short" s_count_short P_count_short := d_count_short.at_ X G fun _ _ _ _ _ _ us hl => match us, hl with | [_], _ => rfl
  have F_moments_of : DefAt K mg "moments_of" s_moments_of P_moments_of := d_moments_of.at_ X G fun _ _ _ _ _ _ us hl => match us, hl with | [_, _], _ => rfl
  have F_wires_now : DefAt K mg "wires_now" s_wires_now P_wires_now := d_wires_now.at_ X G fun _ _ _ _ _ _ us hl => match us, hl with | [_], _ => rfl
  have F_answer_told : DefAt K mg "answer_told" s_answer_told P_answer_told := d_answer_told.at_ X G fun _ _ _ _ _ _ us hl => match us, hl with | [_], _ => rfl
  have F_answer_sums : DefAt K mg "answer_sums" s_answer_sums P_answer_sums := d_answer_sums.at_ X G fun _ _ _ _ _ _ us hl => match us, hl with | [_, _], _ => rfl
  have F_answer_ends : DefAt K mg "answer_ends" s_answer_ends P_answer_ends := d_answer_ends.at_ X G fun _ _ _ _ _ _ us hl => match us, hl with | [_, _], _ => rfl
  have F_answer_when : DefAt K mg "answer_when" s_answer_when P_answer_when := d_answer_when.at_ X G fun _ _ _ _ _ _ us hl => match us, hl with | [_, _], _ => rfl
  have F_answer_joint : DefAt K mg "answer_joint" s_answer_joint P_answer_joint := d_answer_joint.at_ X G fun _ _ _ _ _ _ us hl => match us, hl with | [_, _], _ => rfl
  have F_answer_short : DefAt K mg "answer_short" s_answer_short P_answer_short := d_answer_short.at_ X G fun _ _ _ _ _ _ us hl => match us, hl with | [_, _], _ => rfl
  have F_answer_anew : DefAt K mg "answer_anew" s_answer_anew P_answer_anew := d_answer_anew.at_ X G fun _ _ _ _ _ _ us hl => match us, hl with | [_, _], _ => rfl
  have F_answer_ticking : DefAt K mg "answer_ticking" s_answer_ticking P_answer_ticking := d_answer_ticking.at_ X G fun _ _ _ _ _ _ us hl => match us, hl with | [_, _], _ => rfl
  have F_answer_telling : DefAt K mg "answer_telling" s_answer_telling P_answer_telling := d_answer_telling.at_ X G fun _ _ _ _ _ _ us hl => match us, hl with | [_, _, _], _ => rfl
  have F_numbers_begin : DefAt K mg "numbers_begin" s_numbers_begin P_numbers_begin := d_numbers_begin.at_ X G fun _ _ _ _ _ _ us hl => match us, hl with | [_, _], _ => rfl
  have F_numbers_end : DefAt K mg "numbers_end" s_numbers_end P_numbers_end := d_numbers_end.at_ X G fun _ _ _ _ _ _ us hl => match us, hl with | [_, _], _ => rfl
  have F_answer_call : DefAt K mg "answer_call" s_answer_call P_answer_call := d_answer_call.at_ X G fun _ _ _ _ _ _ us hl => match us, hl with | [_, _, _], _ => rfl
  have F_Leaf : ClsAt K mg "Leaf" "Leaf.__init__" CL s_Leaf_init P_Leaf_init := i_Leaf.at_ X G fun _ _ _ _ _ _ us hl => match us, hl with | [_, _, _, _], _ => rfl
  have F_Outcome : ClsAt K mg "Outcome" "Outcome.__init__" CO s_Outcome_init P_Outcome_init := i_Outcome.at_ X G fun _ _ _ _ _ _ us hl => match us, hl with | [_, _, _, _, _, _, _], _ => rfl
  have F_Built : ClsAt K mg "Built" "Built.__init__" CB s_Built_init P_Built_init := i_Built.at_ X G fun _ _ _ _ _ _ us hl => match us, hl with | [_, _, _, _, _], _ => rfl
  have F_Chip : ClsAt K mg "Chip" "Chip.__init__" C s_Chip_init P_Chip_init := i_Chip.at_ X G fun _ _ _ _ _ _ us hl => match us, hl with | [_], _ => rfl
  have F_Wire : ClsAt K mg "Wire" "Wire.__init__" CW s_Wire_init P_Wire_init := i_Wire.at_ X G fun _ _ _ _ _ _ us hl => match us, hl with | [_, _, _, _], _ => rfl
  obtain ⟨pH, esH, nH, aH, lH, kH, h1, h2, h3, h4, h5, h6, h7, h8, h9⟩ := t_CHANGES
  obtain ⟨pB, esB, nB, aB, lB, kB, b13, b14, b15, b16, b17, b18, b19⟩ := t_OF_BUILT
  obtain ⟨pC, esC, nC, aC, lC, kC, n0, n1, n2, n3, n4, n6, n7, n8, n9, n10, n11, n12, n13, n14, n15, n16, n17, n18, n19⟩ := t_COUNTS
  have g_CHANGES : GV mg "CHANGES" (.ref pH) := ⟨_, PySem.W.mg_of X G aH, rfl⟩
  have g_OF_BUILT : GV mg "OF_BUILT" (.ref pB) := ⟨_, PySem.W.mg_of X G aB, rfl⟩
  have g_COUNTS : GV mg "COUNTS" (.ref pC) := ⟨_, PySem.W.mg_of X G aC, rfl⟩
  have hC : Counts K pC := by
    intro p n h5 e
    unfold PyLr74.shape at e
    rcases CM.ite_get e with ⟨rfl, rfl⟩ | ⟨_, e⟩
    · exact int_one lC kC n0
    rcases CM.ite_get e with ⟨rfl, rfl⟩ | ⟨_, e⟩
    · exact int_one lC kC n1
    rcases CM.ite_get e with ⟨rfl, rfl⟩ | ⟨_, e⟩
    · exact int_one lC kC n2
    rcases CM.ite_get e with ⟨rfl, rfl⟩ | ⟨_, e⟩
    · exact int_one lC kC n3
    rcases CM.ite_get e with ⟨rfl, rfl⟩ | ⟨_, e⟩
    · exact int_one lC kC n4
    rcases CM.ite_get e with ⟨q, _⟩ | ⟨_, e⟩
    · exact absurd q h5
    rcases CM.ite_get e with ⟨rfl, rfl⟩ | ⟨_, e⟩
    · exact int_one lC kC n6
    rcases CM.ite_get e with ⟨rfl, rfl⟩ | ⟨_, e⟩
    · exact int_one lC kC n7
    rcases CM.ite_get e with ⟨rfl, rfl⟩ | ⟨_, e⟩
    · exact int_one lC kC n8
    rcases CM.ite_get e with ⟨rfl, rfl⟩ | ⟨_, e⟩
    · exact int_one lC kC n9
    rcases CM.ite_get e with ⟨rfl, rfl⟩ | ⟨_, e⟩
    · exact int_one lC kC n10
    rcases CM.ite_get e with ⟨rfl, rfl⟩ | ⟨_, e⟩
    · exact int_one lC kC n11
    rcases CM.ite_get e with ⟨rfl, rfl⟩ | ⟨_, e⟩
    · exact int_one lC kC n12
    rcases CM.ite_get e with ⟨rfl, rfl⟩ | ⟨_, e⟩
    · exact int_one lC kC n13
    rcases CM.ite_get e with ⟨rfl, rfl⟩ | ⟨_, e⟩
    · exact int_one lC kC n14
    rcases CM.ite_get e with ⟨rfl, rfl⟩ | ⟨_, e⟩
    · exact int_one lC kC n15
    rcases CM.ite_get e with ⟨rfl, rfl⟩ | ⟨_, e⟩
    · exact int_one lC kC n16
    rcases CM.ite_get e with ⟨rfl, rfl⟩ | ⟨_, e⟩
    · exact int_one lC kC n17
    rcases CM.ite_get e with ⟨rfl, rfl⟩ | ⟨_, e⟩
    · exact int_one lC kC n18
    rcases CM.ite_get e with ⟨rfl, rfl⟩ | ⟨_, e⟩
    · exact int_one lC kC n19
    cases e
  obtain ⟨f0, oc, od, an, sl, kV, dc, pm, cd, ct, a0, l0, c0, k0⟩ := d_answers
  have e0 := hfa.symm.trans (PySem.W.mg_of X G a0)
  cases e0
  have F0 := fun_mk (st := s_answers) l0 c0 k0
  refine ⟨PySem.W.fnOf "answers" "answers" (defArgs s_answers) (defBody s_answers) (defScope s_answers) .none kV dc pm an cd ct, fun s us hu => match us, hu with | [_], _ => .of_eq rfl, fun base _ _ => ?_⟩
  have c_in_parts := ok_in_parts (P := P) (w := w) (base := base) F_in_parts T0
  have c_apart := ok_apart (P := P) (w := w) (base := base) F_apart T0
  have c_area_of_place := ok_area_of_place (P := P) (w := w) (base := base) F_area_of_place T0
  have c_gap := ok_gap (P := P) (w := w) (base := base) F_gap T0
  have c_areas_apart := ok_areas_apart (P := P) (w := w) (base := base) F_areas_apart T0 c_gap
  have c_area_within := ok_area_within (P := P) (w := w) (base := base) F_area_within T0
  have c_clamped := ok_clamped (P := P) (w := w) (base := base) F_clamped T0
  have c_nearest_place := ok_nearest_place (P := P) (w := w) (base := base) F_nearest_place T0 c_clamped
  have c_joint_above := ok_joint_above (P := P) (w := w) (base := base) F_joint_above T0
  have c_other_side := ok_other_side (P := P) (w := w) (base := base) F_other_side T0
  have c_number_without := ok_number_without (P := P) (w := w) (base := base) F_number_without T0
  have c_pairs_without := ok_pairs_without (P := P) (w := w) (base := base) F_pairs_without T0 c_joint_above c_other_side c_number_without
  have c_splits := ok_splits (P := P) (w := w) (base := base) F_splits T0
  have c_pairs_of_tree := ok_pairs_of_tree (P := P) (w := w) (base := base) F_pairs_of_tree T0 (ok_add_pairs (P := P) (w := w) (base := base) F_add_pairs T0 21)
  have c_tree_of_numbers := ok_tree_of_numbers (P := P) (w := w) (base := base) F_tree_of_numbers T0
  have c_is_shape := ok_is_shape (P := P) (w := w) (base := base) F_is_shape T0
  have m_Leaf := ok_Leaf (P := P) (w := w) (base := base) F_Leaf y_Leaf
  have c_steps_in := ok_steps_in (P := P) (w := w) (base := base) F_steps_in T0
  have m_Outcome := ok_Outcome (P := P) (w := w) (base := base) F_Outcome y_Outcome c_steps_in
  have c_leaf_outcome := ok_leaf_outcome (P := P) (w := w) (base := base) F_leaf_outcome T0 y_Leaf m_Outcome c_area_of_place
  have c_joint_outcome := ok_joint_outcome (P := P) (w := w) (base := base) F_joint_outcome T0 y_Outcome m_Outcome c_areas_apart c_area_within
  have c_outcomes_of_pairs := ok_outcomes_of_pairs (P := P) (w := w) (base := base) F_outcomes_of_pairs T0 c_leaf_outcome c_joint_outcome
  have c_all_outcomes := ok_both (P := P) (w := w) (base := base) (CL := CL) (CO := CO) F_all_outcomes F_joined_outcomes T0 c_leaf_outcome c_joint_outcome c_splits 6
  have c_wire_then_time := ok_wire_then_time (P := P) (w := w) (base := base) F_wire_then_time y_Outcome
  have c_power_then_wire := ok_power_then_wire (P := P) (w := w) (base := base) F_power_then_wire y_Outcome
  have c_best_outcome := ok_best_outcome (P := P) (w := w) (base := base) F_best_outcome T0 c_all_outcomes c_wire_then_time c_power_then_wire
  have m_Built := ok_Built (P := P) (w := w) (base := base) F_Built y_Built
  have c_all_wire := ok_all_wire (P := P) (w := w) (base := base) F_all_wire T0 y_Built
  have c_places_of_all := ok_places_of_all (P := P) (w := w) (base := base) F_places_of_all T0 y_Leaf y_Built
  have c_places_from := ok_places_from (P := P) (w := w) (base := base) F_places_from T0 y_Outcome c_nearest_place
  have c_built_from := ok_built_from (P := P) (w := w) (base := base) F_built_from T0 y_Outcome c_outcomes_of_pairs c_places_from c_apart m_Built
  have c_mended := ok_mended (P := P) (w := w) (base := base) F_mended T0 y_Leaf y_Built c_places_of_all c_apart m_Built
  have c_tied_anew := ok_tied_anew (P := P) (w := w) (base := base) F_tied_anew T0 y_Built c_mended m_Built
  have c_longer_to := ok_longer_to (P := P) (w := w) (base := base) F_longer_to T0
  have c_built_without := ok_built_without (P := P) (w := w) (base := base) F_built_without T0 y_Built c_joint_above c_longer_to c_pairs_without m_Built
  have c_is_in_reach := ok_is_in_reach (P := P) (w := w) (base := base) F_is_in_reach T
  have c_is_leaf := ok_is_leaf (P := P) (w := w) (base := base) F_is_leaf T c_is_in_reach
  have c_place_at := ok_place_at (P := P) (w := w) (base := base) F_place_at T c_in_parts
  have c_leaf_at := ok_leaf_at (P := P) (w := w) (base := base) F_leaf_at T c_in_parts c_place_at m_Leaf
  have c_answer_source := ok_answer_source (P := P) (w := w) (base := base) (C := C) (CL := CL) (CB := CB) F_answer_source T y_Chip c_is_in_reach c_place_at
  have c_answer_leaf := ok_answer_leaf (P := P) (w := w) (base := base) (C := C) (CL := CL) (CB := CB) F_answer_leaf T y_Chip c_is_leaf c_leaf_at
  have c_answer_move := ok_answer_move (P := P) (w := w) (base := base) (C := C) (CL := CL) (CB := CB) F_answer_move T y_Chip c_is_leaf c_leaf_at
  have c_answer_drop := ok_answer_drop (P := P) (w := w) (base := base) (C := C) (CL := CL) (CB := CB) F_answer_drop T y_Chip c_pairs_without c_built_without
  have c_answer_shape := ok_answer_shape (P := P) (w := w) (base := base) (C := C) (CL := CL) (CB := CB) F_answer_shape T y_Chip c_is_shape c_tree_of_numbers c_pairs_of_tree
  have c_answer_plan := ok_answer_plan (P := P) (w := w) (base := base) (C := C) (CL := CL) (CB := CB) F_answer_plan T y_Chip y_Outcome c_best_outcome c_pairs_of_tree
  have c_answer_build := ok_answer_build (P := P) (w := w) (base := base) (C := C) (CL := CL) (CB := CB) F_answer_build T y_Chip c_built_from c_all_wire
  have c_answer_mend := ok_answer_mend (P := P) (w := w) (base := base) (C := C) (CL := CL) (CB := CB) F_answer_mend T y_Chip c_mended c_all_wire
  have c_answer_retie := ok_answer_retie (P := P) (w := w) (base := base) (C := C) (CL := CL) (CB := CB) F_answer_retie T y_Chip c_tied_anew c_all_wire
  have c_state_of := ok_state_of (P := P) (w := w) (base := base) (C := C) (CL := CL) (CB := CB) F_state_of T y_Chip
  have c_put_back := ok_put_back (P := P) (w := w) (base := base) (C := C) (CL := CL) (CB := CB) F_put_back T y_Chip
  have c_remember := ok_remember (P := P) (w := w) (base := base) (C := C) (CL := CL) (CB := CB) F_remember T y_Chip
  have m_Chip := ok_Chip (P := P) (w := w) (base := base) (C := C) (CL := CL) (CB := CB) F_Chip y_Chip
  have c_answer_new := ok_answer_new (P := P) (w := w) (base := base) (C := C) (CL := CL) (CB := CB) F_answer_new T y_Chip c_state_of c_put_back m_Chip
  have c_answer_undo := ok_answer_undo (P := P) (w := w) (base := base) (C := C) (CL := CL) (CB := CB) F_answer_undo T y_Chip c_state_of c_put_back
  have c_answer_redo := ok_answer_redo (P := P) (w := w) (base := base) (C := C) (CL := CL) (CB := CB) F_answer_redo T y_Chip c_state_of c_put_back
  have c_answer_state := ok_answer_state (P := P) (w := w) (base := base) F_answer_state T c_answer_new c_answer_undo c_answer_redo
  have m_Wire := ok_Wire (P := P) (w := w) (base := base) F_Wire y_Wire
  have c_needs_of_all := ok_needs_of_all (P := P) (w := w) (base := base) F_needs_of_all T0 y_Leaf y_Built
  have c_wires_of := ok_wires_of (P := P) (w := w) (base := base) F_wires_of T0 y_Built c_places_of_all c_needs_of_all c_apart m_Wire
  have c_power_of := ok_power_of (P := P) (w := w) (base := base) F_power_of T0 y_Wire c_steps_in
  have c_wire_ticking := ok_wire_ticking (P := P) (w := w) (base := base) F_wire_ticking T0 y_Wire
  have c_count_short := ok_count_short (P := P) (w := w) (base := base) F_count_short T0 y_Wire
  have c_moments_of := ok_moments_of (P := P) (w := w) (base := base) F_moments_of T0 y_Leaf y_Built
  have c_wires_now := ok_wires_now (P := P) (w := w) (base := base) (CL := CL) (CB := CB) F_wires_now T y_Chip c_wires_of
  have c_answer_told := ok_answer_told (P := P) (w := w) (base := base) (C := C) (CL := CL) (CB := CB) F_answer_told T y_Chip
  have c_answer_sums := ok_answer_sums (P := P) (w := w) (base := base) (C := C) (CL := CL) (CB := CB) F_answer_sums T y_Chip y_Built c_all_wire c_wires_now c_power_of
  have c_answer_ends := ok_answer_ends (P := P) (w := w) (base := base) (C := C) (CL := CL) (CB := CB) F_answer_ends T y_Chip c_moments_of
  have c_answer_when := ok_answer_when (P := P) (w := w) (base := base) (C := C) (CL := CL) (CB := CB) F_answer_when T y_Chip c_moments_of
  have c_answer_joint := ok_answer_joint (P := P) (w := w) (base := base) (C := C) (CL := CL) (CB := CB) F_answer_joint T y_Chip y_Built
  have c_answer_short := ok_answer_short (P := P) (w := w) (base := base) (C := C) (CL := CL) (CB := CB) F_answer_short T y_Chip c_wires_now c_count_short
  have c_answer_anew := ok_answer_anew (P := P) (w := w) (base := base) (C := C) (CL := CL) (CB := CB) F_answer_anew T y_Chip c_all_wire c_built_from
  have c_answer_ticking := ok_answer_ticking (P := P) (w := w) (base := base) (C := C) (CL := CL) (CB := CB) F_answer_ticking T y_Chip c_wires_now c_wire_ticking
  have tab_answer_telling : ∀ p : Int, 13 ≤ p → p ≤ 19 → ∃ f, KDci K pB p (.ref f) ∧ Held P w K mg base 10 f (SpTl C CL CB (rOf p)) := by
    intro p q1 q2
    obtain rfl | rfl | rfl | rfl | rfl | rfl | rfl : p = 13 ∨ p = 14 ∨ p = 15 ∨ p = 16 ∨ p = 17 ∨ p = 18 ∨ p = 19 := by omega
    · exact tab_one X G lB kB b13 c_answer_sums (by decide)
    · exact tab_one X G lB kB b14 c_answer_ends (by decide)
    · exact tab_one X G lB kB b15 c_answer_when (by decide)
    · exact tab_one X G lB kB b16 c_answer_joint (by decide)
    · exact tab_one X G lB kB b17 c_answer_short (by decide)
    · exact tab_one X G lB kB b18 c_answer_anew (by decide)
    · exact tab_one X G lB kB b19 c_answer_ticking (by decide)
  have c_answer_telling := ok_answer_telling (P := P) (w := w) (base := base) F_answer_telling T y_Chip g_OF_BUILT tab_answer_telling c_answer_told
  have c_numbers_begin := ok_numbers_begin (P := P) (w := w) (base := base) F_numbers_begin T
  have c_numbers_end := ok_numbers_end (P := P) (w := w) (base := base) F_numbers_end T g_COUNTS hC c_numbers_begin
  have tab_answer_change : ∀ p : Int, 1 ≤ p → p ≤ 9 → ∃ f, KDci K pH p (.ref f) ∧ Held P w K mg base 23 f (SpAn C CL CB (rCh p)) := by
    intro p q1 q2
    obtain rfl | rfl | rfl | rfl | rfl | rfl | rfl | rfl | rfl : p = 1 ∨ p = 2 ∨ p = 3 ∨ p = 4 ∨ p = 5 ∨ p = 6 ∨ p = 7 ∨ p = 8 ∨ p = 9 := by omega
    · exact tab_one X G lH kH h1 c_answer_source (by decide)
    · exact tab_one X G lH kH h2 c_answer_leaf (by decide)
    · exact tab_one X G lH kH h3 c_answer_move (by decide)
    · exact tab_one X G lH kH h4 c_answer_drop (by decide)
    · exact tab_one X G lH kH h5 c_answer_shape (by decide)
    · exact tab_one X G lH kH h6 c_answer_plan (by decide)
    · exact tab_one X G lH kH h7 c_answer_build (by decide)
    · exact tab_one X G lH kH h8 c_answer_mend (by decide)
    · exact tab_one X G lH kH h9 c_answer_retie (by decide)
  have c_answer_change := ok_answer_change (P := P) (w := w) (base := base) F_answer_change T y_Chip g_CHANGES tab_answer_change c_state_of c_remember
  have c_answer_call := ok_answer_call (P := P) (w := w) (base := base) F_answer_call T c_answer_change c_answer_telling c_answer_state
  exact ok_answers (P := P) (w := w) (base := base) F0 T m_Chip c_numbers_begin c_numbers_end c_answer_call
end Clk
set_option Elab.async false
open PySem PySem.W PyProof.Rows
set_option maxRecDepth 100000 in
set_option maxHeartbeats 0 in
theorem PySem.Challenge.cw_clocktree_s01_answers_holds : PySem.Challenge.rw_clocktree_s01_answers.Holds := by
  w_on; k_headS; (case hw => exact ⟨[.list [.int 0]], by decide +kernel, by decide +kernel⟩)
  k_fillS
  refine L2.walk_specK (r := PySem.Challenge.rw_clocktree_s01_answers) (k := 26) (CX := L2.CX0) (ps := Clk.P_answers) (sp := Clk.sp_answers) (by decide +kernel) rfl rfl ⟨rfl, by decide, by decide⟩ (fun w h Y => PySem.W.kIn_of Y) ?F ?S (fun _ _ _ _ z => z)
  case F =>
    intro w mg fa h Y KX G hmg
    have d_in_parts : Clk.DefIn (PySem.Challenge.cw_clocktree_s01_answers_holds.heap_1 w.params) "in_parts" Clk.s_in_parts := by
      refine' Clk.defIn_mk ?a ?l ?c ?k
      (case a => k_is); (case l => k_is); (case c => k_is); (case k => k_is)
    have d_apart : Clk.DefIn (PySem.Challenge.cw_clocktree_s01_answers_holds.heap_1 w.params) "apart" Clk.s_apart := by
      refine' Clk.defIn_mk ?a ?l ?c ?k
      (case a => k_is); (case l => k_is); (case c => k_is); (case k => k_is)
    have d_area_of_place : Clk.DefIn (PySem.Challenge.cw_clocktree_s01_answers_holds.heap_1 w.params) "area_of_place" Clk.s_area_of_place := by
      refine' Clk.defIn_mk ?a ?l ?c ?k
      (case a => k_is); (case l => k_is); (case c => k_is); (case k => k_is)
    have d_gap : Clk.DefIn (PySem.Challenge.cw_clocktree_s01_answers_holds.heap_1 w.params) "gap" Clk.s_gap := by
      refine' Clk.defIn_mk ?a ?l ?c ?k
      (case a => k_is); (case l => k_is); (case c => k_is); (case k => k_is)
    have d_areas_apart : Clk.DefIn (PySem.Challenge.cw_clocktree_s01_answers_holds.heap_1 w.params) "areas_apart" Clk.s_areas_apart := by
      refine' Clk.defIn_mk ?a ?l ?c ?k
      (case a => k_is); (case l => k_is); (case c => k_is); (case k => k_is)
    have d_area_within : Clk.DefIn (PySem.Challenge.cw_clocktree_s01_answers_holds.heap_1 w.params) "area_within" Clk.s_area_within := by
      refine' Clk.defIn_mk ?a ?l ?c ?k
      (case a => k_is); (case l => k_is); (case c => k_is); (case k => k_is)
    have d_clamped : Clk.DefIn (PySem.Challenge.cw_clocktree_s01_answers_holds.heap_1 w.params) "clamped" Clk.s_clamped := by
      refine' Clk.defIn_mk ?a ?l ?c ?k
      (case a => k_is); (case l => k_is); (case c => k_is); (case k => k_is)
    have d_nearest_place : Clk.DefIn (PySem.Challenge.cw_clocktree_s01_answers_holds.heap_1 w.params) "nearest_place" Clk.s_nearest_place := by
      refine' Clk.defIn_mk ?a ?l ?c ?k
      (case a => k_is); (case l => k_is); (case c => k_is); (case k => k_is)
    have d_is_shape : Clk.DefIn (PySem.Challenge.cw_clocktree_s01_answers_holds.heap_1 w.params) "is_shape" Clk.s_is_shape := by
      refine' Clk.defIn_mk ?a ?l ?c ?k
      (case a => k_is); (case l => k_is); (case c => k_is); (case k => k_is)
    have d_tree_of_numbers : Clk.DefIn (PySem.Challenge.cw_clocktree_s01_answers_holds.heap_1 w.params) "tree_of_numbers" Clk.s_tree_of_numbers := by
      refine' Clk.defIn_mk ?a ?l ?c ?k
      (case a => k_is); (case l => k_is); (case c => k_is); (case k => k_is)
    have d_add_pairs : Clk.DefIn (PySem.Challenge.cw_clocktree_s01_answers_holds.heap_1 w.params) "add_pairs" Clk.s_add_pairs := by
      refine' Clk.defIn_mk ?a ?l ?c ?k
      (case a => k_is); (case l => k_is); (case c => k_is); (case k => k_is)
    have d_pairs_of_tree : Clk.DefIn (PySem.Challenge.cw_clocktree_s01_answers_holds.heap_1 w.params) "pairs_of_tree" Clk.s_pairs_of_tree := by
      refine' Clk.defIn_mk ?a ?l ?c ?k
      (case a => k_is); (case l => k_is); (case c => k_is); (case k => k_is)
    have d_splits : Clk.DefIn (PySem.Challenge.cw_clocktree_s01_answers_holds.heap_1 w.params) "splits" Clk.s_splits := by
      refine' Clk.defIn_mk ?a ?l ?c ?k
      (case a => k_is); (case l => k_is); (case c => k_is); (case k => k_is)
    have d_joint_above : Clk.DefIn (PySem.Challenge.cw_clocktree_s01_answers_holds.heap_1 w.params) "joint_above" Clk.s_joint_above := by
      refine' Clk.defIn_mk ?a ?l ?c ?k
      (case a => k_is); (case l => k_is); (case c => k_is); (case k => k_is)
    have d_other_side : Clk.DefIn (PySem.Challenge.cw_clocktree_s01_answers_holds.heap_1 w.params) "other_side" Clk.s_other_side := by
      refine' Clk.defIn_mk ?a ?l ?c ?k
      (case a => k_is); (case l => k_is); (case c => k_is); (case k => k_is)
    have d_number_without : Clk.DefIn (PySem.Challenge.cw_clocktree_s01_answers_holds.heap_1 w.params) "number_without" Clk.s_number_without := by
      refine' Clk.defIn_mk ?a ?l ?c ?k
      (case a => k_is); (case l => k_is); (case c => k_is); (case k => k_is)
    have d_pairs_without : Clk.DefIn (PySem.Challenge.cw_clocktree_s01_answers_holds.heap_1 w.params) "pairs_without" Clk.s_pairs_without := by
      refine' Clk.defIn_mk ?a ?l ?c ?k
      (case a => k_is); (case l => k_is); (case c => k_is); (case k => k_is)
    have d_steps_in : Clk.DefIn (PySem.Challenge.cw_clocktree_s01_answers_holds.heap_1 w.params) "steps_in" Clk.s_steps_in := by
      refine' Clk.defIn_mk ?a ?l ?c ?k
      (case a => k_is); (case l => k_is); (case c => k_is); (case k => k_is)
    have d_leaf_outcome : Clk.DefIn (PySem.Challenge.cw_clocktree_s01_answers_holds.heap_1 w.params) "leaf_outcome" Clk.s_leaf_outcome := by
      refine' Clk.defIn_mk ?a ?l ?c ?k
      (case a => k_is); (case l => k_is); (case c => k_is); (case k => k_is)
    have d_joint_outcome : Clk.DefIn (PySem.Challenge.cw_clocktree_s01_answers_holds.heap_1 w.params) "joint_outcome" Clk.s_joint_outcome := by
      refine' Clk.defIn_mk ?a ?l ?c ?k
      (case a => k_is); (case l => k_is); (case c => k_is); (case k => k_is)
    have d_outcomes_of_pairs : Clk.DefIn (PySem.Challenge.cw_clocktree_s01_answers_holds.heap_1 w.params) "outcomes_of_pairs" Clk.s_outcomes_of_pairs := by
      refine' Clk.defIn_mk ?a ?l ?c ?k
      (case a => k_is); (case l => k_is); (case c => k_is); (case k => k_is)
    have d_joined_outcomes : Clk.DefIn (PySem.Challenge.cw_clocktree_s01_answers_holds.heap_1 w.params) "joined_outcomes" Clk.s_joined_outcomes := by
      refine' Clk.defIn_mk ?a ?l ?c ?k
      (case a => k_is); (case l => k_is); (case c => k_is); (case k => k_is)
    have d_all_outcomes : Clk.DefIn (PySem.Challenge.cw_clocktree_s01_answers_holds.heap_1 w.params) "all_outcomes" Clk.s_all_outcomes := by
      refine' Clk.defIn_mk ?a ?l ?c ?k
      (case a => k_is); (case l => k_is); (case c => k_is); (case k => k_is)
    have d_wire_then_time : Clk.DefIn (PySem.Challenge.cw_clocktree_s01_answers_holds.heap_1 w.params) "wire_then_time" Clk.s_wire_then_time := by
      refine' Clk.defIn_mk ?a ?l ?c ?k
      (case a => k_is); (case l => k_is); (case c => k_is); (case k => k_is)
    have d_power_then_wire : Clk.DefIn (PySem.Challenge.cw_clocktree_s01_answers_holds.heap_1 w.params) "power_then_wire" Clk.s_power_then_wire := by
      refine' Clk.defIn_mk ?a ?l ?c ?k
      (case a => k_is); (case l => k_is); (case c => k_is); (case k => k_is)
    have d_best_outcome : Clk.DefIn (PySem.Challenge.cw_clocktree_s01_answers_holds.heap_1 w.params) "best_outcome" Clk.s_best_outcome := by
      refine' Clk.defIn_mk ?a ?l ?c ?k
      (case a => k_is); (case l => k_is); (case c => k_is); (case k => k_is)
    have d_all_wire : Clk.DefIn (PySem.Challenge.cw_clocktree_s01_answers_holds.heap_1 w.params) "all_wire" Clk.s_all_wire := by
      refine' Clk.defIn_mk ?a ?l ?c ?k
      (case a => k_is); (case l => k_is); (case c => k_is); (case k => k_is)
    have d_places_from : Clk.DefIn (PySem.Challenge.cw_clocktree_s01_answers_holds.heap_1 w.params) "places_from" Clk.s_places_from := by
      refine' Clk.defIn_mk ?a ?l ?c ?k
      (case a => k_is); (case l => k_is); (case c => k_is); (case k => k_is)
    have d_built_from : Clk.DefIn (PySem.Challenge.cw_clocktree_s01_answers_holds.heap_1 w.params) "built_from" Clk.s_built_from := by
      refine' Clk.defIn_mk ?a ?l ?c ?k
      (case a => k_is); (case l => k_is); (case c => k_is); (case k => k_is)
    have d_places_of_all : Clk.DefIn (PySem.Challenge.cw_clocktree_s01_answers_holds.heap_1 w.params) "places_of_all" Clk.s_places_of_all := by
      refine' Clk.defIn_mk ?a ?l ?c ?k
      (case a => k_is); (case l => k_is); (case c => k_is); (case k => k_is)
    have d_mended : Clk.DefIn (PySem.Challenge.cw_clocktree_s01_answers_holds.heap_1 w.params) "mended" Clk.s_mended := by
      refine' Clk.defIn_mk ?a ?l ?c ?k
      (case a => k_is); (case l => k_is); (case c => k_is); (case k => k_is)
    have d_tied_anew : Clk.DefIn (PySem.Challenge.cw_clocktree_s01_answers_holds.heap_1 w.params) "tied_anew" Clk.s_tied_anew := by
      refine' Clk.defIn_mk ?a ?l ?c ?k
      (case a => k_is); (case l => k_is); (case c => k_is); (case k => k_is)
    have d_longer_to : Clk.DefIn (PySem.Challenge.cw_clocktree_s01_answers_holds.heap_1 w.params) "longer_to" Clk.s_longer_to := by
      refine' Clk.defIn_mk ?a ?l ?c ?k
      (case a => k_is); (case l => k_is); (case c => k_is); (case k => k_is)
    have d_built_without : Clk.DefIn (PySem.Challenge.cw_clocktree_s01_answers_holds.heap_1 w.params) "built_without" Clk.s_built_without := by
      refine' Clk.defIn_mk ?a ?l ?c ?k
      (case a => k_is); (case l => k_is); (case c => k_is); (case k => k_is)
    have d_state_of : Clk.DefIn (PySem.Challenge.cw_clocktree_s01_answers_holds.heap_1 w.params) "state_of" Clk.s_state_of := by
      refine' Clk.defIn_mk ?a ?l ?c ?k
      (case a => k_is); (case l => k_is); (case c => k_is); (case k => k_is)
    have d_put_back : Clk.DefIn (PySem.Challenge.cw_clocktree_s01_answers_holds.heap_1 w.params) "put_back" Clk.s_put_back := by
      refine' Clk.defIn_mk ?a ?l ?c ?k
      (case a => k_is); (case l => k_is); (case c => k_is); (case k => k_is)
    have d_remember : Clk.DefIn (PySem.Challenge.cw_clocktree_s01_answers_holds.heap_1 w.params) "remember" Clk.s_remember := by
      refine' Clk.defIn_mk ?a ?l ?c ?k
      (case a => k_is); (case l => k_is); (case c => k_is); (case k => k_is)
    have d_answer_new : Clk.DefIn (PySem.Challenge.cw_clocktree_s01_answers_holds.heap_1 w.params) "answer_new" Clk.s_answer_new := by
      refine' Clk.defIn_mk ?a ?l ?c ?k
      (case a => k_is); (case l => k_is); (case c => k_is); (case k => k_is)
    have d_answer_undo : Clk.DefIn (PySem.Challenge.cw_clocktree_s01_answers_holds.heap_1 w.params) "answer_undo" Clk.s_answer_undo := by
      refine' Clk.defIn_mk ?a ?l ?c ?k
      (case a => k_is); (case l => k_is); (case c => k_is); (case k => k_is)
    have d_answer_redo : Clk.DefIn (PySem.Challenge.cw_clocktree_s01_answers_holds.heap_1 w.params) "answer_redo" Clk.s_answer_redo := by
      refine' Clk.defIn_mk ?a ?l ?c ?k
      (case a => k_is); (case l => k_is); (case c => k_is); (case k => k_is)
    have d_answer_state : Clk.DefIn (PySem.Challenge.cw_clocktree_s01_answers_holds.heap_1 w.params) "answer_state" Clk.s_answer_state := by
      refine' Clk.defIn_mk ?a ?l ?c ?k
      (case a => k_is); (case l => k_is); (case c => k_is); (case k => k_is)
    have d_is_in_reach : Clk.DefIn (PySem.Challenge.cw_clocktree_s01_answers_holds.heap_1 w.params) "is_in_reach" Clk.s_is_in_reach := by
      refine' Clk.defIn_mk ?a ?l ?c ?k
      (case a => k_is); (case l => k_is); (case c => k_is); (case k => k_is)
    have d_is_leaf : Clk.DefIn (PySem.Challenge.cw_clocktree_s01_answers_holds.heap_1 w.params) "is_leaf" Clk.s_is_leaf := by
      refine' Clk.defIn_mk ?a ?l ?c ?k
      (case a => k_is); (case l => k_is); (case c => k_is); (case k => k_is)
    have d_place_at : Clk.DefIn (PySem.Challenge.cw_clocktree_s01_answers_holds.heap_1 w.params) "place_at" Clk.s_place_at := by
      refine' Clk.defIn_mk ?a ?l ?c ?k
      (case a => k_is); (case l => k_is); (case c => k_is); (case k => k_is)
    have d_leaf_at : Clk.DefIn (PySem.Challenge.cw_clocktree_s01_answers_holds.heap_1 w.params) "leaf_at" Clk.s_leaf_at := by
      refine' Clk.defIn_mk ?a ?l ?c ?k
      (case a => k_is); (case l => k_is); (case c => k_is); (case k => k_is)
    have d_answer_source : Clk.DefIn (PySem.Challenge.cw_clocktree_s01_answers_holds.heap_1 w.params) "answer_source" Clk.s_answer_source := by
      refine' Clk.defIn_mk ?a ?l ?c ?k
      (case a => k_is); (case l => k_is); (case c => k_is); (case k => k_is)
    have d_answer_leaf : Clk.DefIn (PySem.Challenge.cw_clocktree_s01_answers_holds.heap_1 w.params) "answer_leaf" Clk.s_answer_leaf := by
      refine' Clk.defIn_mk ?a ?l ?c ?k
      (case a => k_is); (case l => k_is); (case c => k_is); (case k => k_is)
    have d_answer_move : Clk.DefIn (PySem.Challenge.cw_clocktree_s01_answers_holds.heap_1 w.params) "answer_move" Clk.s_answer_move := by
      refine' Clk.defIn_mk ?a ?l ?c ?k
      (case a => k_is); (case l => k_is); (case c => k_is); (case k => k_is)
    have d_answer_drop : Clk.DefIn (PySem.Challenge.cw_clocktree_s01_answers_holds.heap_1 w.params) "answer_drop" Clk.s_answer_drop := by
      refine' Clk.defIn_mk ?a ?l ?c ?k
      (case a => k_is); (case l => k_is); (case c => k_is); (case k => k_is)
    have d_answer_shape : Clk.DefIn (PySem.Challenge.cw_clocktree_s01_answers_holds.heap_1 w.params) "answer_shape" Clk.s_answer_shape := by
      refine' Clk.defIn_mk ?a ?l ?c ?k
      (case a => k_is); (case l => k_is); (case c => k_is); (case k => k_is)
    have d_answer_plan : Clk.DefIn (PySem.Challenge.cw_clocktree_s01_answers_holds.heap_1 w.params) "answer_plan" Clk.s_answer_plan := by
      refine' Clk.defIn_mk ?a ?l ?c ?k
      (case a => k_is); (case l => k_is); (case c => k_is); (case k => k_is)
    have d_answer_build : Clk.DefIn (PySem.Challenge.cw_clocktree_s01_answers_holds.heap_1 w.params) "answer_build" Clk.s_answer_build := by
      refine' Clk.defIn_mk ?a ?l ?c ?k
      (case a => k_is); (case l => k_is); (case c => k_is); (case k => k_is)
    have d_answer_mend : Clk.DefIn (PySem.Challenge.cw_clocktree_s01_answers_holds.heap_1 w.params) "answer_mend" Clk.s_answer_mend := by
      refine' Clk.defIn_mk ?a ?l ?c ?k
      (case a => k_is); (case l => k_is); (case c => k_is); (case k => k_is)
    have d_answer_retie : Clk.DefIn (PySem.Challenge.cw_clocktree_s01_answers_holds.heap_1 w.params) "answer_retie" Clk.s_answer_retie := by
      refine' Clk.defIn_mk ?a ?l ?c ?k
      (case a => k_is); (case l => k_is); (case c => k_is); (case k => k_is)
    have d_answer_change : Clk.DefIn (PySem.Challenge.cw_clocktree_s01_answers_holds.heap_1 w.params) "answer_change" Clk.s_answer_change := by
      refine' Clk.defIn_mk ?a ?l ?c ?k
      (case a => k_is); (case l => k_is); (case c => k_is); (case k => k_is)
    have d_needs_of_all : Clk.DefIn (PySem.Challenge.cw_clocktree_s01_answers_holds.heap_1 w.params) "needs_of_all" Clk.s_needs_of_all := by
      refine' Clk.defIn_mk ?a ?l ?c ?k
      (case a => k_is); (case l => k_is); (case c => k_is); (case k => k_is)
    have d_wires_of : Clk.DefIn (PySem.Challenge.cw_clocktree_s01_answers_holds.heap_1 w.params) "wires_of" Clk.s_wires_of := by
      refine' Clk.defIn_mk ?a ?l ?c ?k
      (case a => k_is); (case l => k_is); (case c => k_is); (case k => k_is)
    have d_power_of : Clk.DefIn (PySem.Challenge.cw_clocktree_s01_answers_holds.heap_1 w.params) "power_of" Clk.s_power_of := by
      refine' Clk.defIn_mk ?a ?l ?c ?k
      (case a => k_is); (case l => k_is); (case c => k_is); (case k => k_is)
    have d_wire_ticking : Clk.DefIn (PySem.Challenge.cw_clocktree_s01_answers_holds.heap_1 w.params) "wire_ticking" Clk.s_wire_ticking := by
      refine' Clk.defIn_mk ?a ?l ?c ?k
      (case a => k_is); (case l => k_is); (case c => k_is); (case k => k_is)
    have d_count_short : Clk.DefIn (PySem.Challenge.cw_clocktree_s01_answers_holds.heap_1 w.params) "count_short" Clk.s_count_short := by
      refine' Clk.defIn_mk ?a ?l ?c ?k
      (case a => k_is); (case l => k_is); (case c => k_is); (case k => k_is)
    have d_moments_of : Clk.DefIn (PySem.Challenge.cw_clocktree_s01_answers_holds.heap_1 w.params) "moments_of" Clk.s_moments_of := by
      refine' Clk.defIn_mk ?a ?l ?c ?k
      (case a => k_is); (case l => k_is); (case c => k_is); (case k => k_is)
    have d_wires_now : Clk.DefIn (PySem.Challenge.cw_clocktree_s01_answers_holds.heap_1 w.params) "wires_now" Clk.s_wires_now := by
      refine' Clk.defIn_mk ?a ?l ?c ?k
      (case a => k_is); (case l => k_is); (case c => k_is); (case k => k_is)
    have d_answer_told : Clk.DefIn (PySem.Challenge.cw_clocktree_s01_answers_holds.heap_1 w.params) "answer_told" Clk.s_answer_told := by
      refine' Clk.defIn_mk ?a ?l ?c ?k
      (case a => k_is); (case l => k_is); (case c => k_is); (case k => k_is)
    have d_answer_sums : Clk.DefIn (PySem.Challenge.cw_clocktree_s01_answers_holds.heap_1 w.params) "answer_sums" Clk.s_answer_sums := by
      refine' Clk.defIn_mk ?a ?l ?c ?k
      (case a => k_is); (case l => k_is); (case c => k_is); (case k => k_is)
    have d_answer_ends : Clk.DefIn (PySem.Challenge.cw_clocktree_s01_answers_holds.heap_1 w.params) "answer_ends" Clk.s_answer_ends := by
      refine' Clk.defIn_mk ?a ?l ?c ?k
      (case a => k_is); (case l => k_is); (case c => k_is); (case k => k_is)
    have d_answer_when : Clk.DefIn (PySem.Challenge.cw_clocktree_s01_answers_holds.heap_1 w.params) "answer_when" Clk.s_answer_when := by
      refine' Clk.defIn_mk ?a ?l ?c ?k
      (case a => k_is); (case l => k_is); (case c => k_is); (case k => k_is)
    have d_answer_joint : Clk.DefIn (PySem.Challenge.cw_clocktree_s01_answers_holds.heap_1 w.params) "answer_joint" Clk.s_answer_joint := by
      refine' Clk.defIn_mk ?a ?l ?c ?k
      (case a => k_is); (case l => k_is); (case c => k_is); (case k => k_is)
    have d_answer_short : Clk.DefIn (PySem.Challenge.cw_clocktree_s01_answers_holds.heap_1 w.params) "answer_short" Clk.s_answer_short := by
      refine' Clk.defIn_mk ?a ?l ?c ?k
      (case a => k_is); (case l => k_is); (case c => k_is); (case k => k_is)
    have d_answer_anew : Clk.DefIn (PySem.Challenge.cw_clocktree_s01_answers_holds.heap_1 w.params) "answer_anew" Clk.s_answer_anew := by
      refine' Clk.defIn_mk ?a ?l ?c ?k
      (case a => k_is); (case l => k_is); (case c => k_is); (case k => k_is)
    have d_answer_ticking : Clk.DefIn (PySem.Challenge.cw_clocktree_s01_answers_holds.heap_1 w.params) "answer_ticking" Clk.s_answer_ticking := by
      refine' Clk.defIn_mk ?a ?l ?c ?k
      (case a => k_is); (case l => k_is); (case c => k_is); (case k => k_is)
    have d_answer_telling : Clk.DefIn (PySem.Challenge.cw_clocktree_s01_answers_holds.heap_1 w.params) "answer_telling" Clk.s_answer_telling := by
      refine' Clk.defIn_mk ?a ?l ?c ?k
      (case a => k_is); (case l => k_is); (case c => k_is); (case k => k_is)
    have d_numbers_begin : Clk.DefIn (PySem.Challenge.cw_clocktree_s01_answers_holds.heap_1 w.params) "numbers_begin" Clk.s_numbers_begin := by
      refine' Clk.defIn_mk ?a ?l ?c ?k
      (case a => k_is); (case l => k_is); (case c => k_is); (case k => k_is)
    have d_numbers_end : Clk.DefIn (PySem.Challenge.cw_clocktree_s01_answers_holds.heap_1 w.params) "numbers_end" Clk.s_numbers_end := by
      refine' Clk.defIn_mk ?a ?l ?c ?k
      (case a => k_is); (case l => k_is); (case c => k_is); (case k => k_is)
    have d_answer_call : Clk.DefIn (PySem.Challenge.cw_clocktree_s01_answers_holds.heap_1 w.params) "answer_call" Clk.s_answer_call := by
      refine' Clk.defIn_mk ?a ?l ?c ?k
      (case a => k_is); (case l => k_is); (case c => k_is); (case k => k_is)
    have d_answers : Clk.DefIn (PySem.Challenge.cw_clocktree_s01_answers_holds.heap_1 w.params) "answers" Clk.s_answers := by
      refine' Clk.defIn_mk ?a ?l ?c ?k
      (case a => k_is); (case l => k_is); (case c => k_is); (case k => k_is)
    have k_Leaf : ∃ C, Clk.ClsIn (PySem.Challenge.cw_clocktree_s01_answers_holds.heap_1 w.params) "Leaf" "Leaf.__init__" C Clk.s_Leaf_init ∧ Clk.LeafC (PySem.Challenge.cw_clocktree_s01_answers_holds.heap_1 w.params) C := by
      refine' ⟨_, Clk.clsIn_mk ?a ?i ?n ?l ?c ?k ?m ?kc, ⟨⟨?pg, ?hd, ?po, ?sa⟩, ?n0, ?n1, ?n2⟩⟩
      (case a => k_is); (case i => k_is); (case n => k_is); (case l => k_is); (case c => k_is); (case k => k_is); (case m => k_is); (case kc => k_is)
      (case pg => k_is); (case hd => k_is); (case po => k_is); (case sa => k_is)
      (case n0 => unfold L2.NoAttr; k_is); (case n1 => unfold L2.NoAttr; k_is); (case n2 => unfold L2.NoAttr; k_is)
    have k_Outcome : ∃ C, Clk.ClsIn (PySem.Challenge.cw_clocktree_s01_answers_holds.heap_1 w.params) "Outcome" "Outcome.__init__" C Clk.s_Outcome_init ∧ Clk.OutC (PySem.Challenge.cw_clocktree_s01_answers_holds.heap_1 w.params) C := by
      refine' ⟨_, Clk.clsIn_mk ?a ?i ?n ?l ?c ?k ?m ?kc, ⟨⟨?pg, ?hd, ?po, ?sa⟩, ?n0, ?n1, ?n2, ?n3, ?n4, ?n5, ?n6⟩⟩
      (case a => k_is); (case i => k_is); (case n => k_is); (case l => k_is); (case c => k_is); (case k => k_is); (case m => k_is); (case kc => k_is)
      (case pg => k_is); (case hd => k_is); (case po => k_is); (case sa => k_is)
      (case n0 => unfold L2.NoAttr; k_is); (case n1 => unfold L2.NoAttr; k_is); (case n2 => unfold L2.NoAttr; k_is); (case n3 => unfold L2.NoAttr; k_is); (case n4 => unfold L2.NoAttr; k_is); (case n5 => unfold L2.NoAttr; k_is); (case n6 => unfold L2.NoAttr; k_is)
    have k_Built : ∃ C, Clk.ClsIn (PySem.Challenge.cw_clocktree_s01_answers_holds.heap_1 w.params) "Built" "Built.__init__" C Clk.s_Built_init ∧ Clk.BuiltC (PySem.Challenge.cw_clocktree_s01_answers_holds.heap_1 w.params) C := by
      refine' ⟨_, Clk.clsIn_mk ?a ?i ?n ?l ?c ?k ?m ?kc, ⟨⟨?pg, ?hd, ?po, ?sa⟩, ?n0, ?n1, ?n2, ?n3⟩⟩
      (case a => k_is); (case i => k_is); (case n => k_is); (case l => k_is); (case c => k_is); (case k => k_is); (case m => k_is); (case kc => k_is)
      (case pg => k_is); (case hd => k_is); (case po => k_is); (case sa => k_is)
      (case n0 => unfold L2.NoAttr; k_is); (case n1 => unfold L2.NoAttr; k_is); (case n2 => unfold L2.NoAttr; k_is); (case n3 => unfold L2.NoAttr; k_is)
    have k_Chip : ∃ C, Clk.ClsIn (PySem.Challenge.cw_clocktree_s01_answers_holds.heap_1 w.params) "Chip" "Chip.__init__" C Clk.s_Chip_init ∧ Clk.ChipC (PySem.Challenge.cw_clocktree_s01_answers_holds.heap_1 w.params) C := by
      refine' ⟨_, Clk.clsIn_mk ?a ?i ?n ?l ?c ?k ?m ?kc, ⟨⟨?pg, ?hd, ?po, ?sa⟩, ?n0, ?n1, ?n2, ?n3, ?n4, ?n5⟩⟩
      (case a => k_is); (case i => k_is); (case n => k_is); (case l => k_is); (case c => k_is); (case k => k_is); (case m => k_is); (case kc => k_is)
      (case pg => k_is); (case hd => k_is); (case po => k_is); (case sa => k_is)
      (case n0 => unfold L2.NoAttr; k_is); (case n1 => unfold L2.NoAttr; k_is); (case n2 => unfold L2.NoAttr; k_is); (case n3 => unfold L2.NoAttr; k_is); (case n4 => unfold L2.NoAttr; k_is); (case n5 => unfold L2.NoAttr; k_is)
    have k_Wire : ∃ C, Clk.ClsIn (PySem.Challenge.cw_clocktree_s01_answers_holds.heap_1 w.params) "Wire" "Wire.__init__" C Clk.s_Wire_init ∧ Clk.WireC (PySem.Challenge.cw_clocktree_s01_answers_holds.heap_1 w.params) C := by
      refine' ⟨_, Clk.clsIn_mk ?a ?i ?n ?l ?c ?k ?m ?kc, ⟨⟨?pg, ?hd, ?po, ?sa⟩, ?n0, ?n1, ?n2⟩⟩
      (case a => k_is); (case i => k_is); (case n => k_is); (case l => k_is); (case c => k_is); (case k => k_is); (case m => k_is); (case kc => k_is)
      (case pg => k_is); (case hd => k_is); (case po => k_is); (case sa => k_is)
      (case n0 => unfold L2.NoAttr; k_is); (case n1 => unfold L2.NoAttr; k_is); (case n2 => unfold L2.NoAttr; k_is)
    have g_PARTS : ∃ t, PySem.W.nsIn (PySem.Challenge.cw_clocktree_s01_answers_holds.heap_1 w.params) PySem.mainGlobals "PARTS" = some (some (.int 256 t)) := by
      refine' Clk.con_mk ?a
      (case a => k_is)
    have g_NO_SUCH_ONE : ∃ t, PySem.W.nsIn (PySem.Challenge.cw_clocktree_s01_answers_holds.heap_1 w.params) PySem.mainGlobals "NO_SUCH_ONE" = some (some (.int (-2) t)) := by
      refine' Clk.con_mk ?a
      (case a => k_is)
    have g_NO_CHANGE : ∃ t, PySem.W.nsIn (PySem.Challenge.cw_clocktree_s01_answers_holds.heap_1 w.params) PySem.mainGlobals "NO_CHANGE" = some (some (.int (-6) t)) := by
      refine' Clk.con_mk ?a
      (case a => k_is)
    have g_TOO_MANY_SHAPES : ∃ t, PySem.W.nsIn (PySem.Challenge.cw_clocktree_s01_answers_holds.heap_1 w.params) PySem.mainGlobals "TOO_MANY_SHAPES" = some (some (.int (-7) t)) := by
      refine' Clk.con_mk ?a
      (case a => k_is)
    have g_NOT_THERE : ∃ t, PySem.W.nsIn (PySem.Challenge.cw_clocktree_s01_answers_holds.heap_1 w.params) PySem.mainGlobals "NOT_THERE" = some (some (.int (-16) t)) := by
      refine' Clk.con_mk ?a
      (case a => k_is)
    have g_OUT_OF_BOUNDS : ∃ t, PySem.W.nsIn (PySem.Challenge.cw_clocktree_s01_answers_holds.heap_1 w.params) PySem.mainGlobals "OUT_OF_BOUNDS" = some (some (.int (-22) t)) := by
      refine' Clk.con_mk ?a
      (case a => k_is)
    have g_NO_ROOM : ∃ t, PySem.W.nsIn (PySem.Challenge.cw_clocktree_s01_answers_holds.heap_1 w.params) PySem.mainGlobals "NO_ROOM" = some (some (.int (-28) t)) := by
      refine' Clk.con_mk ?a
      (case a => k_is)
    have g_FARTHEST : ∃ t, PySem.W.nsIn (PySem.Challenge.cw_clocktree_s01_answers_holds.heap_1 w.params) PySem.mainGlobals "FARTHEST" = some (some (.int 100000 t)) := by
      refine' Clk.con_mk ?a
      (case a => k_is)
    have g_LATEST : ∃ t, PySem.W.nsIn (PySem.Challenge.cw_clocktree_s01_answers_holds.heap_1 w.params) PySem.mainGlobals "LATEST" = some (some (.int 100000 t)) := by
      refine' Clk.con_mk ?a
      (case a => k_is)
    have g_ALL_STEPS : ∃ t, PySem.W.nsIn (PySem.Challenge.cw_clocktree_s01_answers_holds.heap_1 w.params) PySem.mainGlobals "ALL_STEPS" = some (some (.int 65535 t)) := by
      refine' Clk.con_mk ?a
      (case a => k_is)
    have g_MOST_LEAVES : ∃ t, PySem.W.nsIn (PySem.Challenge.cw_clocktree_s01_answers_holds.heap_1 w.params) PySem.mainGlobals "MOST_LEAVES" = some (some (.int 8 t)) := by
      refine' Clk.con_mk ?a
      (case a => k_is)
    have g_MOST_PLANNED : ∃ t, PySem.W.nsIn (PySem.Challenge.cw_clocktree_s01_answers_holds.heap_1 w.params) PySem.mainGlobals "MOST_PLANNED" = some (some (.int 6 t)) := by
      refine' Clk.con_mk ?a
      (case a => k_is)
    have g_SHAPE : ∃ t, PySem.W.nsIn (PySem.Challenge.cw_clocktree_s01_answers_holds.heap_1 w.params) PySem.mainGlobals "SHAPE" = some (some (.int 5 t)) := by
      refine' Clk.con_mk ?a
      (case a => k_is)
    have g_FIRST_CHANGE : ∃ t, PySem.W.nsIn (PySem.Challenge.cw_clocktree_s01_answers_holds.heap_1 w.params) PySem.mainGlobals "FIRST_CHANGE" = some (some (.int 1 t)) := by
      refine' Clk.con_mk ?a
      (case a => k_is)
    have g_LAST_CHANGE : ∃ t, PySem.W.nsIn (PySem.Challenge.cw_clocktree_s01_answers_holds.heap_1 w.params) PySem.mainGlobals "LAST_CHANGE" = some (some (.int 9 t)) := by
      refine' Clk.con_mk ?a
      (case a => k_is)
    have g_FIRST_TELLING : ∃ t, PySem.W.nsIn (PySem.Challenge.cw_clocktree_s01_answers_holds.heap_1 w.params) PySem.mainGlobals "FIRST_TELLING" = some (some (.int 12 t)) := by
      refine' Clk.con_mk ?a
      (case a => k_is)
    have g_NEW : ∃ t, PySem.W.nsIn (PySem.Challenge.cw_clocktree_s01_answers_holds.heap_1 w.params) PySem.mainGlobals "NEW" = some (some (.int 0 t)) := by
      refine' Clk.con_mk ?a
      (case a => k_is)
    have g_UNDO : ∃ t, PySem.W.nsIn (PySem.Challenge.cw_clocktree_s01_answers_holds.heap_1 w.params) PySem.mainGlobals "UNDO" = some (some (.int 10 t)) := by
      refine' Clk.con_mk ?a
      (case a => k_is)
    have g_MOST_TAKEN_BACK : ∃ t, PySem.W.nsIn (PySem.Challenge.cw_clocktree_s01_answers_holds.heap_1 w.params) PySem.mainGlobals "MOST_TAKEN_BACK" = some (some (.int 20 t)) := by
      refine' Clk.con_mk ?a
      (case a => k_is)
    have g_TOLD : ∃ t, PySem.W.nsIn (PySem.Challenge.cw_clocktree_s01_answers_holds.heap_1 w.params) PySem.mainGlobals "TOLD" = some (some (.int 12 t)) := by
      refine' Clk.con_mk ?a
      (case a => k_is)
    have g_TICKING : ∃ t, PySem.W.nsIn (PySem.Challenge.cw_clocktree_s01_answers_holds.heap_1 w.params) PySem.mainGlobals "TICKING" = some (some (.int 19 t)) := by
      refine' Clk.con_mk ?a
      (case a => k_is)
    have g_LAST_STEP : ∃ t, PySem.W.nsIn (PySem.Challenge.cw_clocktree_s01_answers_holds.heap_1 w.params) PySem.mainGlobals "LAST_STEP" = some (some (.int 15 t)) := by
      refine' Clk.con_mk ?a
      (case a => k_is)
    have z_len : PySem.W.nsIn (PySem.Challenge.cw_clocktree_s01_answers_holds.heap_1 w.params) PySem.mainGlobals "len" = some none := by k_is
    have z_max : PySem.W.nsIn (PySem.Challenge.cw_clocktree_s01_answers_holds.heap_1 w.params) PySem.mainGlobals "max" = some none := by k_is
    have z_min : PySem.W.nsIn (PySem.Challenge.cw_clocktree_s01_answers_holds.heap_1 w.params) PySem.mainGlobals "min" = some none := by k_is
    have z_abs : PySem.W.nsIn (PySem.Challenge.cw_clocktree_s01_answers_holds.heap_1 w.params) PySem.mainGlobals "abs" = some none := by k_is
    have z_sum : PySem.W.nsIn (PySem.Challenge.cw_clocktree_s01_answers_holds.heap_1 w.params) PySem.mainGlobals "sum" = some none := by k_is
    have z_tuple : PySem.W.nsIn (PySem.Challenge.cw_clocktree_s01_answers_holds.heap_1 w.params) PySem.mainGlobals "tuple" = some none := by k_is
    have z_list : PySem.W.nsIn (PySem.Challenge.cw_clocktree_s01_answers_holds.heap_1 w.params) PySem.mainGlobals "list" = some none := by k_is
    have z_range : PySem.W.nsIn (PySem.Challenge.cw_clocktree_s01_answers_holds.heap_1 w.params) PySem.mainGlobals "range" = some none := by k_is
    have z_enumerate : PySem.W.nsIn (PySem.Challenge.cw_clocktree_s01_answers_holds.heap_1 w.params) PySem.mainGlobals "enumerate" = some none := by k_is
    have z_zip : PySem.W.nsIn (PySem.Challenge.cw_clocktree_s01_answers_holds.heap_1 w.params) PySem.mainGlobals "zip" = some none := by k_is
    have z_isinstance : PySem.W.nsIn (PySem.Challenge.cw_clocktree_s01_answers_holds.heap_1 w.params) PySem.mainGlobals "isinstance" = some none := by k_is
    have z_int : PySem.W.nsIn (PySem.Challenge.cw_clocktree_s01_answers_holds.heap_1 w.params) PySem.mainGlobals "int" = some none := by k_is
    have t_CHANGES : ∃ (p : PySem.Addr) (es : Array PySem.DictEntry) (n : Nat), PySem.W.nsIn (PySem.Challenge.cw_clocktree_s01_answers_holds.heap_1 w.params) PySem.mainGlobals "CHANGES" = some (some (.ref p)) ∧ (PySem.Challenge.cw_clocktree_s01_answers_holds.heap_1 w.params).lookup p = some ⟨.type "dict", none, .dict es n, #[]⟩ ∧ Clk.KeysI es.toList ∧ PySem.W.nsIn (PySem.Challenge.cw_clocktree_s01_answers_holds.heap_1 w.params) PySem.mainGlobals "answer_source" = some (PySem.findBy PySem.Value.isInt es 1) ∧ PySem.W.nsIn (PySem.Challenge.cw_clocktree_s01_answers_holds.heap_1 w.params) PySem.mainGlobals "answer_leaf" = some (PySem.findBy PySem.Value.isInt es 2) ∧ PySem.W.nsIn (PySem.Challenge.cw_clocktree_s01_answers_holds.heap_1 w.params) PySem.mainGlobals "answer_move" = some (PySem.findBy PySem.Value.isInt es 3) ∧ PySem.W.nsIn (PySem.Challenge.cw_clocktree_s01_answers_holds.heap_1 w.params) PySem.mainGlobals "answer_drop" = some (PySem.findBy PySem.Value.isInt es 4) ∧ PySem.W.nsIn (PySem.Challenge.cw_clocktree_s01_answers_holds.heap_1 w.params) PySem.mainGlobals "answer_shape" = some (PySem.findBy PySem.Value.isInt es 5) ∧ PySem.W.nsIn (PySem.Challenge.cw_clocktree_s01_answers_holds.heap_1 w.params) PySem.mainGlobals "answer_plan" = some (PySem.findBy PySem.Value.isInt es 6) ∧ PySem.W.nsIn (PySem.Challenge.cw_clocktree_s01_answers_holds.heap_1 w.params) PySem.mainGlobals "answer_build" = some (PySem.findBy PySem.Value.isInt es 7) ∧ PySem.W.nsIn (PySem.Challenge.cw_clocktree_s01_answers_holds.heap_1 w.params) PySem.mainGlobals "answer_mend" = some (PySem.findBy PySem.Value.isInt es 8) ∧ PySem.W.nsIn (PySem.Challenge.cw_clocktree_s01_answers_holds.heap_1 w.params) PySem.mainGlobals "answer_retie" = some (PySem.findBy PySem.Value.isInt es 9) := by
      refine' Clk.tCHANGES_mk ?a ?l ?hk ?f1 ?f2 ?f3 ?f4 ?f5 ?f6 ?f7 ?f8 ?f9
      (case a => k_is); (case l => k_is)
      (case hk => exact ⟨⟨_, _, rfl, rfl⟩, ⟨_, _, rfl, rfl⟩, ⟨_, _, rfl, rfl⟩, ⟨_, _, rfl, rfl⟩, ⟨_, _, rfl, rfl⟩, ⟨_, _, rfl, rfl⟩, ⟨_, _, rfl, rfl⟩, ⟨_, _, rfl, rfl⟩, ⟨_, _, rfl, rfl⟩, trivial⟩)
      (case f1 => k_is)
      (case f2 => k_is)
      (case f3 => k_is)
      (case f4 => k_is)
      (case f5 => k_is)
      (case f6 => k_is)
      (case f7 => k_is)
      (case f8 => k_is)
      (case f9 => k_is)
    have t_OF_BUILT : ∃ (p : PySem.Addr) (es : Array PySem.DictEntry) (n : Nat), PySem.W.nsIn (PySem.Challenge.cw_clocktree_s01_answers_holds.heap_1 w.params) PySem.mainGlobals "OF_BUILT" = some (some (.ref p)) ∧ (PySem.Challenge.cw_clocktree_s01_answers_holds.heap_1 w.params).lookup p = some ⟨.type "dict", none, .dict es n, #[]⟩ ∧ Clk.KeysI es.toList ∧ PySem.W.nsIn (PySem.Challenge.cw_clocktree_s01_answers_holds.heap_1 w.params) PySem.mainGlobals "answer_sums" = some (PySem.findBy PySem.Value.isInt es 13) ∧ PySem.W.nsIn (PySem.Challenge.cw_clocktree_s01_answers_holds.heap_1 w.params) PySem.mainGlobals "answer_ends" = some (PySem.findBy PySem.Value.isInt es 14) ∧ PySem.W.nsIn (PySem.Challenge.cw_clocktree_s01_answers_holds.heap_1 w.params) PySem.mainGlobals "answer_when" = some (PySem.findBy PySem.Value.isInt es 15) ∧ PySem.W.nsIn (PySem.Challenge.cw_clocktree_s01_answers_holds.heap_1 w.params) PySem.mainGlobals "answer_joint" = some (PySem.findBy PySem.Value.isInt es 16) ∧ PySem.W.nsIn (PySem.Challenge.cw_clocktree_s01_answers_holds.heap_1 w.params) PySem.mainGlobals "answer_short" = some (PySem.findBy PySem.Value.isInt es 17) ∧ PySem.W.nsIn (PySem.Challenge.cw_clocktree_s01_answers_holds.heap_1 w.params) PySem.mainGlobals "answer_anew" = some (PySem.findBy PySem.Value.isInt es 18) ∧ PySem.W.nsIn (PySem.Challenge.cw_clocktree_s01_answers_holds.heap_1 w.params) PySem.mainGlobals "answer_ticking" = some (PySem.findBy PySem.Value.isInt es 19) := by
      refine' Clk.tOF_BUILT_mk ?a ?l ?hk ?f13 ?f14 ?f15 ?f16 ?f17 ?f18 ?f19
      (case a => k_is); (case l => k_is)
      (case hk => exact ⟨⟨_, _, rfl, rfl⟩, ⟨_, _, rfl, rfl⟩, ⟨_, _, rfl, rfl⟩, ⟨_, _, rfl, rfl⟩, ⟨_, _, rfl, rfl⟩, ⟨_, _, rfl, rfl⟩, ⟨_, _, rfl, rfl⟩, trivial⟩)
      (case f13 => k_is)
      (case f14 => k_is)
      (case f15 => k_is)
      (case f16 => k_is)
      (case f17 => k_is)
      (case f18 => k_is)
      (case f19 => k_is)
    have t_COUNTS : ∃ (p : PySem.Addr) (es : Array PySem.DictEntry) (n : Nat), PySem.W.nsIn (PySem.Challenge.cw_clocktree_s01_answers_holds.heap_1 w.params) PySem.mainGlobals "COUNTS" = some (some (.ref p)) ∧ (PySem.Challenge.cw_clocktree_s01_answers_holds.heap_1 w.params).lookup p = some ⟨.type "dict", none, .dict es n, #[]⟩ ∧ Clk.KeysI es.toList ∧ (∃ t, PySem.findBy PySem.Value.isInt es 0 = some (.int 0 t)) ∧ (∃ t, PySem.findBy PySem.Value.isInt es 1 = some (.int 2 t)) ∧ (∃ t, PySem.findBy PySem.Value.isInt es 2 = some (.int 4 t)) ∧ (∃ t, PySem.findBy PySem.Value.isInt es 3 = some (.int 5 t)) ∧ (∃ t, PySem.findBy PySem.Value.isInt es 4 = some (.int 1 t)) ∧ (∃ t, PySem.findBy PySem.Value.isInt es 6 = some (.int 1 t)) ∧ (∃ t, PySem.findBy PySem.Value.isInt es 7 = some (.int 0 t)) ∧ (∃ t, PySem.findBy PySem.Value.isInt es 8 = some (.int 0 t)) ∧ (∃ t, PySem.findBy PySem.Value.isInt es 9 = some (.int 0 t)) ∧ (∃ t, PySem.findBy PySem.Value.isInt es 10 = some (.int 0 t)) ∧ (∃ t, PySem.findBy PySem.Value.isInt es 11 = some (.int 0 t)) ∧ (∃ t, PySem.findBy PySem.Value.isInt es 12 = some (.int 0 t)) ∧ (∃ t, PySem.findBy PySem.Value.isInt es 13 = some (.int 0 t)) ∧ (∃ t, PySem.findBy PySem.Value.isInt es 14 = some (.int 0 t)) ∧ (∃ t, PySem.findBy PySem.Value.isInt es 15 = some (.int 1 t)) ∧ (∃ t, PySem.findBy PySem.Value.isInt es 16 = some (.int 1 t)) ∧ (∃ t, PySem.findBy PySem.Value.isInt es 17 = some (.int 0 t)) ∧ (∃ t, PySem.findBy PySem.Value.isInt es 18 = some (.int 0 t)) ∧ (∃ t, PySem.findBy PySem.Value.isInt es 19 = some (.int 1 t)) := by
      refine' Clk.tCOUNTS_mk ?a ?l ?hk ?f0 ?f1 ?f2 ?f3 ?f4 ?f6 ?f7 ?f8 ?f9 ?f10 ?f11 ?f12 ?f13 ?f14 ?f15 ?f16 ?f17 ?f18 ?f19
      (case a => k_is); (case l => k_is)
      (case hk => exact ⟨⟨_, _, rfl, rfl⟩, ⟨_, _, rfl, rfl⟩, ⟨_, _, rfl, rfl⟩, ⟨_, _, rfl, rfl⟩, ⟨_, _, rfl, rfl⟩, ⟨_, _, rfl, rfl⟩, ⟨_, _, rfl, rfl⟩, ⟨_, _, rfl, rfl⟩, ⟨_, _, rfl, rfl⟩, ⟨_, _, rfl, rfl⟩, ⟨_, _, rfl, rfl⟩, ⟨_, _, rfl, rfl⟩, ⟨_, _, rfl, rfl⟩, ⟨_, _, rfl, rfl⟩, ⟨_, _, rfl, rfl⟩, ⟨_, _, rfl, rfl⟩, ⟨_, _, rfl, rfl⟩, ⟨_, _, rfl, rfl⟩, ⟨_, _, rfl, rfl⟩, trivial⟩)
      (case f0 => exact ⟨_, rfl⟩)
      (case f1 => exact ⟨_, rfl⟩)
      (case f2 => exact ⟨_, rfl⟩)
      (case f3 => exact ⟨_, rfl⟩)
      (case f4 => exact ⟨_, rfl⟩)
      (case f6 => exact ⟨_, rfl⟩)
      (case f7 => exact ⟨_, rfl⟩)
      (case f8 => exact ⟨_, rfl⟩)
      (case f9 => exact ⟨_, rfl⟩)
      (case f10 => exact ⟨_, rfl⟩)
      (case f11 => exact ⟨_, rfl⟩)
      (case f12 => exact ⟨_, rfl⟩)
      (case f13 => exact ⟨_, rfl⟩)
      (case f14 => exact ⟨_, rfl⟩)
      (case f15 => exact ⟨_, rfl⟩)
      (case f16 => exact ⟨_, rfl⟩)
      (case f17 => exact ⟨_, rfl⟩)
      (case f18 => exact ⟨_, rfl⟩)
      (case f19 => exact ⟨_, rfl⟩)
    exact Clk.all_mk KX G hmg d_in_parts d_apart d_area_of_place d_gap d_areas_apart d_area_within d_clamped d_nearest_place d_is_shape d_tree_of_numbers d_add_pairs d_pairs_of_tree d_splits d_joint_above d_other_side d_number_without d_pairs_without d_steps_in d_leaf_outcome d_joint_outcome d_outcomes_of_pairs d_joined_outcomes d_all_outcomes d_wire_then_time d_power_then_wire d_best_outcome d_all_wire d_places_from d_built_from d_places_of_all d_mended d_tied_anew d_longer_to d_built_without d_state_of d_put_back d_remember d_answer_new d_answer_undo d_answer_redo d_answer_state d_is_in_reach d_is_leaf d_place_at d_leaf_at d_answer_source d_answer_leaf d_answer_move d_answer_drop d_answer_shape d_answer_plan d_answer_build d_answer_mend d_answer_retie d_answer_change d_needs_of_all d_wires_of d_power_of d_wire_ticking d_count_short d_moments_of d_wires_now d_answer_told d_answer_sums d_answer_ends d_answer_when d_answer_joint d_answer_short d_answer_anew d_answer_ticking d_answer_telling d_numbers_begin d_numbers_end d_answer_call d_answers k_Leaf k_Outcome k_Built k_Chip k_Wire g_PARTS g_NO_SUCH_ONE g_NO_CHANGE g_TOO_MANY_SHAPES g_NOT_THERE g_OUT_OF_BOUNDS g_NO_ROOM g_FARTHEST g_LATEST g_ALL_STEPS g_MOST_LEAVES g_MOST_PLANNED g_SHAPE g_FIRST_CHANGE g_LAST_CHANGE g_FIRST_TELLING g_NEW g_UNDO g_MOST_TAKEN_BACK g_TOLD g_TICKING g_LAST_STEP z_len z_max z_min z_abs z_sum z_tuple z_list z_range z_enumerate z_zip z_isinstance z_int t_CHANGES t_OF_BUILT t_COUNTS
  case S =>
    intro K H xs a hO hwi hask hx
    cases hx with
    | cons h1 h2 =>
      cases h2
      cases h1 with
      | lst hs ha =>
        have e := L2.ints_dw a.1 _ ha
        subst e
        exact ⟨a.1, _, rfl, Clk.isArg_of hO hs, hask, fun v H' _ ⟨p, ep, hp⟩ => by
          subst ep
          exact .lst (L2.SqL.of hp) (L2.dw_ints _)⟩

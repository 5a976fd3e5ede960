import PyProof.Rows.All
import Wide.All
import OpenK.AllK
import Wide.FinOn
import Open.SpecLaws
import KE.OsHead
import KE.OsGo
import KE.DatumOrd
import HandS.Base
import HandS.Call
import HandS.List
import HandS.Ends
import HandS.Spec
import HandS.Words
import HandS.WordsList
import HandS.Comp
import HandS.SortKw
import PySem.Challenge.RW_circles_s05_envies
set_option Elab.async false
set_option maxRecDepth 100000
set_option maxHeartbeats 4000000
namespace Cir
section
open Ks565
/-! ### the mathematics -/
/-- numbers told as ints -/
abbrev zs (l : List Nat) : List Int := l.map Int.ofNat
def cnt (g : List Nat) : Nat := (g.map (· + 1)).foldl max 0
theorem fmax : ∀ (l : List Nat) (a : Nat), a ≤ l.foldl max a ∧ (∀ x ∈ l, x ≤ l.foldl max a) ∧ (l.foldl max a = a ∨ l.foldl max a ∈ l)
  | [], a => ⟨Nat.le_refl _, by simp, .inl rfl⟩
  | x :: r, a => by
    obtain ⟨h1, h2, h3⟩ := fmax r (max a x)
    rw [List.foldl_cons]
    refine ⟨by omega, fun y hy => ?_, ?_⟩
    · rcases List.mem_cons.mp hy with rfl | hy
      · omega
      · exact h2 y hy
    · rcases h3 with h3 | h3
      · rw [h3]
        by_cases hx : x ≤ a
        · left; omega
        · right; rw [show max a x = x by omega]; exact List.mem_cons_self ..
      · exact .inr (List.mem_cons_of_mem _ h3)
theorem cnt_of_max {g : List Nat} {m : Nat} (h1 : m ∈ g) (h2 : ∀ x ∈ g, x ≤ m) : cnt g = m + 1 := by
  obtain ⟨q1, q2, q3⟩ := fmax (g.map (· + 1)) 0
  unfold cnt
  have a1 := q2 (m + 1) (List.mem_map.mpr ⟨m, h1, rfl⟩)
  rcases q3 with q3 | q3
  · omega
  · obtain ⟨y, hy, e⟩ := List.mem_map.mp q3
    have := h2 y hy
    omega
theorem cnt_nil : cnt [] = 0 := rfl
theorem groups_cnt {g : List Nat} (h : g ≠ []) : groups g = cnt g := by
  obtain ⟨q1, q2, q3⟩ := fmax g 0
  have hm : g.foldl max 0 ∈ g := by
    rcases q3 with q3 | q3
    · cases g with
      | nil => exact absurd rfl h
      | cons x r =>
        have := q2 x (List.mem_cons_self ..)
        rw [q3]
        rw [q3] at this
        rw [show x = 0 by omega]
        exact List.mem_cons_self ..
    · exact q3
  unfold groups
  rw [cnt_of_max hm q2]
theorem cnt_le {g : List Nat} {n : Nat} (h : ∀ x ∈ g, x < n) : cnt g ≤ n := by
  obtain ⟨q1, q2, q3⟩ := fmax (g.map (· + 1)) 0
  unfold cnt
  rcases q3 with q3 | q3
  · omega
  · obtain ⟨y, hy, e⟩ := List.mem_map.mp q3
    have := h y hy
    omega
/-- the ways with one more -/
def more (g : List Nat) : List (List Nat) := (List.range (cnt g + 1)).map fun x => g ++ [x]
theorem all_succ (k : Nat) : all (k + 1) = (all k).flatMap more := rfl
theorem all_len : ∀ (k : Nat) (g : List Nat), g ∈ all k → g.length = k
  | 0, g, h => by
    have : g = [] := by simpa [all] using h
    rw [this]; rfl
  | k + 1, g, h => by
    rw [all_succ] at h
    obtain ⟨g', h1, h2⟩ := List.mem_flatMap.mp h
    obtain ⟨x, _, rfl⟩ := List.mem_map.mp h2
    rw [List.length_append, all_len k g' h1]
    rfl
theorem cnt_snoc (g : List Nat) (x : Nat) : cnt (g ++ [x]) = max (cnt g) (x + 1) := by
  unfold cnt
  rw [List.map_append, List.foldl_append]
  rfl
theorem all_cnt : ∀ (k : Nat) (g : List Nat), g ∈ all k → cnt g ≤ k
  | 0, g, h => by
    have : g = [] := by simpa [all] using h
    rw [this]
    exact Nat.le_refl _
  | k + 1, g, h => by
    rw [all_succ] at h
    obtain ⟨g', h1, h2⟩ := List.mem_flatMap.mp h
    obtain ⟨x, hx, rfl⟩ := List.mem_map.mp h2
    have := all_cnt k g' h1
    have := List.mem_range.mp hx
    rw [cnt_snoc]
    omega
theorem all_size {k : Nat} (h : k ≤ 5) : (all k).length ≤ 52 := by
  match k, h with
  | 0, _ => decide
  | 1, _ => decide
  | 2, _ => decide
  | 3, _ => decide
  | 4, _ => decide
  | 5, _ => decide +kernel
  | k + 6, h => omega
theorem all_ne (k : Nat) : all k ≠ [] := by
  induction k with
  | zero => simp [all]
  | succ k ih =>
    rw [all_succ]
    cases e : all k with
    | nil => exact absurd e ih
    | cons g r =>
      rw [List.flatMap_cons]
      unfold more
      simp
theorem take_snoc {α : Type} {l : List α} {i : Nat} {x : α} (h : l[i]? = some x) : l.take (i + 1) = l.take i ++ [x] := by
  rw [List.take_add_one, h]
  rfl
theorem flat_take {α β : Type} (f : α → List β) (l : List α) (i : Nat) : ((l.take i).flatMap f).length ≤ (l.flatMap f).length := by
  have e : l.flatMap f = (l.take i).flatMap f ++ (l.drop i).flatMap f := by
    rw [← List.flatMap_append, List.take_append_drop]
  rw [e, List.length_append]
  omega
theorem fadd : ∀ (l : List Int) (a : Int), l.foldl (· + ·) a = a + l.sum
  | [], a => by simp
  | x :: r, a => by
    rw [List.foldl_cons, fadd r, List.sum_cons]
    omega
theorem fadd0 (l : List Int) : l.foldl (· + ·) 0 = l.sum := by rw [fadd]; omega
/-- what has_with adds up -/
def picks (n : Nat) (v : List Int) (i : Nat) (s : List Nat) : List Int := (s.filter fun j => decide (¬ j = i)).map fun j => v.getD (i * n + j) 0
theorem picks_sum (n : Nat) (v : List Int) (i : Nat) : ∀ s : List Nat, (picks n v i s).sum = with_ ⟨n, v⟩ i s
  | [] => rfl
  | j :: r => by
    have ih := picks_sum n v i r
    unfold with_ at ih ⊢
    rw [fadd0] at ih ⊢
    rw [List.map_cons, List.sum_cons, ← ih]
    unfold picks likes
    by_cases h : j = i
    · subst h
      rw [List.filter_cons, if_neg (by simp)]
      simp
    · rw [List.filter_cons, if_pos (by simp [h]), List.map_cons, List.sum_cons, if_neg (fun e => h e.symm)]
theorem picks_snoc (n : Nat) (v : List Int) (i : Nat) (s : List Nat) (j : Nat) : picks n v i (s ++ [j]) = if j = i then picks n v i s else picks n v i s ++ [v.getD (i * n + j) 0] := by
  unfold picks
  rw [List.filter_append, List.map_append]
  by_cases h : j = i
  · rw [if_pos h, List.filter_cons, if_neg (by simp [h])]
    simp
  · rw [if_neg h, List.filter_cons, if_pos (by simp [h])]
    simp
theorem picks_len (n : Nat) (v : List Int) (i : Nat) (s : List Nat) : (picks n v i s).length ≤ s.length := by
  unfold picks
  rw [List.length_map]
  exact List.length_filter_le _ _
theorem members_lt {g : List Nat} {k j : Nat} (h : j ∈ members g k) : j < g.length := by
  unfold members at h
  exact List.mem_range.mp (List.mem_filter.mp h).1
theorem members_len (g : List Nat) (k : Nat) : (members g k).length ≤ g.length := by
  unfold members
  have := List.length_filter_le (fun i => g.getD i 0 == k) (List.range g.length)
  rwa [List.length_range] at this
theorem least_of {l : List Int} {m : Int} (h1 : m ∈ l) (h2 : ∀ a ∈ l, m ≤ a) : Ks568.least l = m := by
  have fm : ∀ (l : List Int) (a : Int), l.foldl min a ≤ a ∧ (∀ x ∈ l, l.foldl min a ≤ x) ∧ (l.foldl min a = a ∨ l.foldl min a ∈ l) := by
    intro l
    induction l with
    | nil => intro a; exact ⟨Int.le_refl _, by simp, .inl rfl⟩
    | cons x r ih =>
      intro a
      obtain ⟨q1, q2, q3⟩ := ih (min a x)
      rw [List.foldl_cons]
      refine ⟨by omega, fun y hy => ?_, ?_⟩
      · rcases List.mem_cons.mp hy with rfl | hy
        · omega
        · exact q2 y hy
      · rcases q3 with q3 | q3
        · rw [q3]
          by_cases hx : a ≤ x
          · left; omega
          · right; rw [show min a x = x by omega]; exact List.mem_cons_self ..
        · exact .inr (List.mem_cons_of_mem _ q3)
  cases l with
  | nil => cases h1
  | cons x r =>
    show r.foldl min x = m
    obtain ⟨q1, q2, q3⟩ := fm r x
    have a1 : r.foldl min x ≤ m := by
      rcases List.mem_cons.mp h1 with rfl | h
      · exact q1
      · exact q2 m h
    have a2 : m ≤ r.foldl min x := by
      rcases q3 with q3 | q3
      · rw [q3]; exact h2 _ (List.mem_cons_self ..)
      · exact h2 _ (List.mem_cons_of_mem _ q3)
    omega
theorem total_sum (t : Folk) (g : Groups) : Ks567.total t g = (Ks568.worths t g).sum := fadd0 _
/-- what measure gives -/
def meas (k : Nat) (l : List Int) : Int := if k = 0 then l.sum else Ks568.least l
theorem value_meas (t : Folk) (k : Nat) (g : Groups) : Ks568.value t k g = meas k (Ks568.worths t g) := by
  unfold Ks568.value meas
  rw [total_sum]
/-- one turn of the choice -/
def pick (t : Folk) (k : Nat) (b h : Groups) : Groups := if Ks568.value t k b < Ks568.value t k h then h else b
theorem best_fold (t : Folk) (k : Nat) (g : Groups) (r : List Groups) : Ks568.best t k (g :: r) = some ((g :: r).foldl (pick t k) g) := by
  rw [List.foldl_cons, show pick t k g g = g by unfold pick; split <;> rfl]
  rfl
theorem folk_some {n : Nat} {v : List Int} (h1 : 1 ≤ n) (h2 : n ≤ 5) (h3 : v.length = n * n) (h4 : ∀ x ∈ v, x.natAbs ≤ 20) : folkOf n v = some ⟨n, v⟩ := by
  unfold folkOf
  rw [if_neg]
  rintro (h | h | h | h)
  · omega
  · unfold PEOPLE at h; omega
  · exact h h3
  · obtain ⟨x, hx, e⟩ := List.any_eq_true.mp h
    have := h4 x hx
    have e := of_decide_eq_true e
    unfold MOST at e
    omega
theorem folk_none {n : Nat} {v : List Int} (h : n < 1 ∨ 5 < n ∨ v.length ≠ n * n ∨ ∃ x ∈ v, 20 < x.natAbs) : folkOf n v = none := by
  unfold folkOf
  rw [if_pos]
  rcases h with h | h | h | ⟨x, hx, h⟩
  · exact .inl h
  · exact .inr (.inl h)
  · exact .inr (.inr (.inl h))
  · exact .inr (.inr (.inr (List.any_eq_true.mpr ⟨x, hx, decide_eq_true h⟩)))
/-- n and worth are as told -/
def told (n : Nat) (v : List Int) : Bool := (folkOf n v).isSome
theorem told_iff {n : Nat} {v : List Int} : told n v = true ↔ (1 ≤ n ∧ n ≤ 5 ∧ v.length = n * n ∧ ∀ x ∈ v, x.natAbs ≤ 20) := by
  unfold told
  constructor
  · intro h
    by_cases c : n < 1 ∨ 5 < n ∨ v.length ≠ n * n ∨ ∃ x ∈ v, 20 < x.natAbs
    · rw [folk_none c] at h; cases h
    · refine ⟨by omega, by omega, ?_, fun x hx => ?_⟩
      · apply Decidable.byContradiction
        intro e
        exact c (.inr (.inr (.inl e)))
      · apply Decidable.byContradiction
        intro e
        exact c (.inr (.inr (.inr ⟨x, hx, by omega⟩)))
  · rintro ⟨h1, h2, h3, h4⟩
    rw [folk_some h1 h2 h3 h4]
    rfl
theorem told_folk {n : Nat} {v : List Int} (h : told n v = true) : folkOf n v = some ⟨n, v⟩ := by
  obtain ⟨h1, h2, h3, h4⟩ := told_iff.mp h
  exact folk_some h1 h2 h3 h4
theorem told_not {n : Nat} {v : List Int} (h : told n v = false) : folkOf n v = none := by
  unfold told at h
  cases e : folkOf n v with
  | none => rfl
  | some t => rw [e] at h; cases h
theorem best_mem {t : Folk} {k : Nat} : ∀ {L : List Groups} {g : Groups}, Ks568.best t k L = some g → g ∈ L
  | [], g, h => by cases h
  | x :: r, g, h => by
    have fm : ∀ (l : List Groups) (b : Groups), l.foldl (pick t k) b = b ∨ l.foldl (pick t k) b ∈ l := by
      intro l
      induction l with
      | nil => intro b; exact .inl rfl
      | cons y s ih =>
        intro b
        rw [List.foldl_cons]
        rcases ih (pick t k b y) with e | e
        · rw [e]
          unfold pick
          split
          · exact .inr (List.mem_cons_self ..)
          · exact .inl rfl
        · exact .inr (List.mem_cons_of_mem _ e)
    rw [best_fold] at h
    have e := Option.some.inj h
    subst e
    rcases fm (x :: r) x with e | e
    · rw [e]
      exact List.mem_cons_self ..
    · exact e
theorem best_some {t : Folk} {k : Nat} {L : List Groups} (h : L ≠ []) : ∃ g, Ks568.best t k L = some g := by
  cases L with
  | nil => exact absurd rfl h
  | cons x r => exact ⟨_, rfl⟩

/-! ### kinds of rest -/
/-- nobody of m would have less by i -/
def welc (n : Nat) (v : List Int) (i : Nat) (m : List Nat) : Bool := m.all fun j => decide (0 ≤ v.getD (j * n + i) 0)
/-- nobody of m but i would have less without i -/
def leto (n : Nat) (v : List Int) (i : Nat) (m : List Nat) : Bool := (m.filter fun j => decide (¬ j = i)).all fun j => decide (v.getD (j * n + i) 0 ≤ 0)
/-- what may_go gives -/
def mayv (n : Nat) (v : List Int) (w i : Nat) (left joined : List Nat) : Bool :=
  if with_ ⟨n, v⟩ i joined ≤ with_ ⟨n, v⟩ i left then false else if 1 ≤ w ∧ welc n v i joined = false then false else decide (w < 2) || leto n v i left
theorem leto_is (n : Nat) (v : List Int) (g : List Nat) (i : Nat) : leto n v i (members g (g.getD i 0)) = letGo ⟨n, v⟩ g i := by
  unfold leto letGo
  rw [Bool.eq_iff_iff, List.all_eq_true, List.all_eq_true]
  constructor
  · intro h j hj
    by_cases e : j = i
    · rw [e]
      simp
    · have := h j (List.mem_filter.mpr ⟨hj, by simp [e]⟩)
      unfold likes
      rw [if_neg e, this]
      simp
  · intro h j hj
    obtain ⟨h1, h2⟩ := List.mem_filter.mp hj
    have e : ¬ j = i := by simpa using h2
    have := h j h1
    unfold likes at this
    rw [if_neg e] at this
    simpa [e] using this
theorem welc_is {n : Nat} {v : List Int} {g : List Nat} {i k : Nat} (hk : g.getD i 0 ≠ k) : welc n v i (members g k) = welcome ⟨n, v⟩ g i k := by
  unfold welc welcome
  rw [Bool.eq_iff_iff, List.all_eq_true, List.all_eq_true]
  have ne : ∀ j ∈ members g k, ¬ j = i := fun j hj e => by
    unfold members at hj
    have := beq_iff_eq.mp (List.mem_filter.mp hj).2
    rw [e] at this
    exact hk this
  constructor
  · intro h j hj
    unfold likes
    rw [if_neg (ne j hj)]
    exact h j hj
  · intro h j hj
    have := h j hj
    unfold likes at this
    rw [if_neg (ne j hj)] at this
    exact this
theorem mayv_is {n : Nat} {v : List Int} {w : Nat} {g : List Nat} {i k : Nat} (hw : w ≤ 2) (hk : k ≤ groups g) : mayv n v w i (members g (g.getD i 0)) (members g k) = may ⟨n, v⟩ w g i k := by
  unfold mayv may rather
  rw [leto_is]
  by_cases e : g.getD i 0 = k
  · subst e
    rw [if_pos (Int.le_refl _)]
    simp
  · rw [welc_is e]
    by_cases h : with_ ⟨n, v⟩ i (members g k) ≤ with_ ⟨n, v⟩ i (members g (g.getD i 0))
    · rw [if_pos h]
      have : decide (worth ⟨n, v⟩ g i < with_ ⟨n, v⟩ i (members g k)) = false := by
        unfold worth
        simpa using h
      rw [this]
      simp
    · rw [if_neg h]
      have h2 : decide (worth ⟨n, v⟩ g i < with_ ⟨n, v⟩ i (members g k)) = true := by
        unfold worth
        simpa using h
      rw [h2, show (g.getD i 0 != k) = true by simpa using e, decide_eq_true hk]
      rcases (show w = 0 ∨ w = 1 ∨ w = 2 by omega) with rfl | rfl | rfl
      · simp
      · cases welcome ⟨n, v⟩ g i k <;> simp
      · cases welcome ⟨n, v⟩ g i k <;> simp
theorem rests_iff {t : Folk} {w : Nat} {g : Groups} : rests t w g = true ↔ ∀ i, i < t.n → ∀ k, k < groups g + 1 → may t w g i k = false := by
  unfold rests moves
  rw [List.isEmpty_iff, List.flatMap_eq_nil_iff]
  constructor
  · intro h i hi k hk
    have h1 := List.map_eq_nil_iff.mp (h i (List.mem_range.mpr hi))
    have h2 := List.filter_eq_nil_iff.mp h1 k (List.mem_range.mpr hk)
    simpa using h2
  · intro h i hi
    rw [List.map_eq_nil_iff, List.filter_eq_nil_iff]
    intro k hk
    rw [h i (List.mem_range.mp hi) k (List.mem_range.mp hk)]
    simp
/-- all sets of people, as all_sets makes them -/
def subs : Nat → List (List Nat)
  | 0 => [[]]
  | k + 1 => subs k ++ (subs k).map fun m => m ++ [k]
theorem subs_is {n : Nat} (h : n ≤ 5) : subs n = (List.range (2 ^ n)).map (Ks566.set n) := by
  match n, h with
  | 0, _ => decide +kernel
  | 1, _ => decide +kernel
  | 2, _ => decide +kernel
  | 3, _ => decide +kernel
  | 4, _ => decide +kernel
  | 5, _ => decide +kernel
  | n + 6, h => omega
theorem subs_len : ∀ n : Nat, (subs n).length = 2 ^ n
  | 0 => rfl
  | n + 1 => by
    show (subs n ++ (subs n).map fun m => m ++ [n]).length = _
    rw [List.length_append, List.length_map, subs_len n, Nat.pow_succ]
    omega
theorem subs_lt : ∀ (n : Nat) (m : List Nat), m ∈ subs n → m.length ≤ n ∧ ∀ j ∈ m, j < n
  | 0, m, h => by
    have : m = [] := by simpa [subs] using h
    rw [this]
    exact ⟨Nat.le_refl _, fun j hj => by cases hj⟩
  | n + 1, m, h => by
    rcases List.mem_append.mp h with h | h
    · obtain ⟨h1, h2⟩ := subs_lt n m h
      exact ⟨by omega, fun j hj => Nat.lt_succ_of_lt (h2 j hj)⟩
    · obtain ⟨m', hm, rfl⟩ := List.mem_map.mp h
      obtain ⟨h1, h2⟩ := subs_lt n m' hm
      refine ⟨by rw [List.length_append]; show m'.length + 1 ≤ n + 1; omega, fun j hj => ?_⟩
      rcases List.mem_append.mp hj with hj | hj
      · exact Nat.lt_succ_of_lt (h2 j hj)
      · have : j = n := by simpa using hj
        omega
theorem subs_cons : ∀ n : Nat, subs n = [] :: (subs n).tail
  | 0 => rfl
  | n + 1 => by
    show subs n ++ (subs n).map (fun m => m ++ [n]) = [] :: (subs n ++ (subs n).map fun m => m ++ [n]).tail
    rw [subs_cons n]
    rfl
theorem tail_ne : ∀ (n : Nat) (m : List Nat), m ∈ (subs n).tail → m ≠ []
  | 0, m, h => by cases h
  | n + 1, m, h => by
    have e : (subs (n + 1)).tail = (subs n).tail ++ (subs n).map fun m => m ++ [n] := by
      show (subs n ++ (subs n).map fun m => m ++ [n]).tail = _
      rw [subs_cons n]
      rfl
    rw [e] at h
    rcases List.mem_append.mp h with h | h
    · exact tail_ne n m h
    · obtain ⟨m', _, rfl⟩ := List.mem_map.mp h
      simp
/-- what each of m would gain -/
def gain (n : Nat) (v : List Int) (g : List Nat) (m : List Nat) : List Int := m.map fun i => with_ ⟨n, v⟩ i m - worth ⟨n, v⟩ g i
/-- what would_leave gives -/
def leav (w : Nat) (l : List Int) : Bool := if w = 4 then (l.all fun x => decide (0 ≤ x)) && (l.any fun x => decide (0 < x)) else l.all fun x => decide (0 < x)
theorem holds_is {n : Nat} {v : List Int} {w : Nat} {g : List Nat} (hn : n ≤ 5) (hw : w = 3 ∨ w = 4) :
    Ks566.holds ⟨n, v⟩ (w - 3) g = true ↔ ∀ m ∈ (subs n).tail, leav w (gain n v g m) = false := by
  have key : ∀ s : Nat, s ≠ 0 → (if w - 3 = 0 then Ks566.leaves ⟨n, v⟩ g s else Ks566.leavesWeak ⟨n, v⟩ g s) = leav w (gain n v g (Ks566.set n s)) := by
    intro s hs
    rcases hw with rfl | rfl
    · show Ks566.leaves ⟨n, v⟩ g s = leav 3 _
      unfold Ks566.leaves leav gain
      rw [show (s != 0) = true by simpa using hs, Bool.true_and, if_neg (by decide), List.all_map]
      congr 1
      funext i
      show decide _ = decide _
      rw [decide_eq_decide]
      show worth ⟨n, v⟩ g i < with_ ⟨n, v⟩ i (Ks566.set n s) ↔ 0 < with_ ⟨n, v⟩ i (Ks566.set n s) - worth ⟨n, v⟩ g i
      omega
    · show Ks566.leavesWeak ⟨n, v⟩ g s = leav 4 _
      unfold Ks566.leavesWeak leav gain
      rw [if_pos rfl, List.all_map, List.any_map]
      congr 1
      · congr 1
        funext i
        show decide _ = decide _
        rw [decide_eq_decide]
        show worth ⟨n, v⟩ g i ≤ with_ ⟨n, v⟩ i (Ks566.set n s) ↔ 0 ≤ with_ ⟨n, v⟩ i (Ks566.set n s) - worth ⟨n, v⟩ g i
        omega
      · congr 1
        funext i
        show decide _ = decide _
        rw [decide_eq_decide]
        show worth ⟨n, v⟩ g i < with_ ⟨n, v⟩ i (Ks566.set n s) ↔ 0 < with_ ⟨n, v⟩ i (Ks566.set n s) - worth ⟨n, v⟩ g i
        omega
  have zero : (if w - 3 = 0 then Ks566.leaves ⟨n, v⟩ g 0 else Ks566.leavesWeak ⟨n, v⟩ g 0) = false := by
    have e0 : Ks566.set n 0 = [] := by
      unfold Ks566.set
      simp
    split
    · rfl
    · unfold Ks566.leavesWeak
      show ((Ks566.set n 0).all _ && (Ks566.set n 0).any _) = false
      rw [e0]
      rfl
  have et : (subs n).tail = ((List.range (2 ^ n)).map (Ks566.set n)).tail := by rw [subs_is hn]
  have er : List.range (2 ^ n) = 0 :: (List.range (2 ^ n)).tail := by
    have hp : 0 < 2 ^ n := Nat.two_pow_pos n
    obtain ⟨p, hp⟩ : ∃ p, 2 ^ n = p + 1 := ⟨2 ^ n - 1, by omega⟩
    rw [hp, List.range_succ_eq_map]
    rfl
  unfold Ks566.holds Ks566.by_
  rw [List.isEmpty_iff, List.filter_eq_nil_iff]
  rw [et]
  constructor
  · intro h m hm
    rw [er, List.map_cons, List.tail_cons] at hm
    obtain ⟨s, hs, rfl⟩ := List.mem_map.mp hm
    have hs0 : s ≠ 0 := by
      intro z
      rw [z] at hs
      obtain ⟨p, hp⟩ : ∃ p, 2 ^ n = p + 1 := ⟨2 ^ n - 1, by have := Nat.two_pow_pos n; omega⟩
      rw [hp, List.range_succ_eq_map, List.tail_cons] at hs
      obtain ⟨y, _, hy⟩ := List.mem_map.mp hs
      omega
    have := h s (by rw [show (⟨n, v⟩ : Folk).n = n from rfl, er]; exact List.mem_cons_of_mem _ hs)
    rw [key s hs0] at this
    simpa using this
  · intro h s hs
    by_cases hs0 : s = 0
    · rw [hs0, zero]
      simp
    · rw [key s hs0]
      have hs' : s ∈ (List.range (2 ^ n)).tail := by
        have hs : s ∈ List.range (2 ^ n) := hs
        rw [er] at hs
        rcases List.mem_cons.mp hs with z | z
        · exact absurd z hs0
        · exact z
      rw [h _ (by rw [er, List.map_cons, List.tail_cons]; exact List.mem_map.mpr ⟨s, hs', rfl⟩)]
      simp
/-- of that kind -/
def ofKind (n : Nat) (v : List Int) (w : Nat) (g : List Nat) : Bool := if w < 3 then rests ⟨n, v⟩ w g else Ks566.holds ⟨n, v⟩ (w - 3) g
theorem kind_is (n : Nat) (v : List Int) (w : Nat) : Ks568.kind ⟨n, v⟩ w = (all n).filter (ofKind n v w) := by
  unfold Ks568.kind
  by_cases h : w ≤ 2
  · rw [if_pos h]
    show (all n).filter _ = _
    congr 1
    funext g
    unfold ofKind
    rw [if_pos (by omega)]
  · rw [if_neg h]
    show (all n).filter _ = _
    congr 1
    funext g
    unfold ofKind
    rw [if_neg (by omega)]

/-! ### groups told by other numbers are the same groups -/
/-- the numbers as they first come -/
def firsts (g : List Nat) : List Nat := g.foldl (fun l x => if l.contains x then l else l ++ [x]) []
/-- the place of a number among those -/
def place (l : List Nat) (x : Nat) : Nat := (l.takeWhile fun y => y != x).length
theorem tidy_is (g : List Nat) : tidy g = g.map (place (firsts g)) := rfl
theorem firsts_mem (g : List Nat) : ∀ x ∈ g, x ∈ firsts g := by
  have h : ∀ (g l : List Nat), (∀ x ∈ l, x ∈ g.foldl (fun l x => if l.contains x then l else l ++ [x]) l) ∧ ∀ x ∈ g, x ∈ g.foldl (fun l x => if l.contains x then l else l ++ [x]) l := by
    intro g
    induction g with
    | nil => intro l; exact ⟨fun x hx => hx, fun x hx => by cases hx⟩
    | cons y r ih =>
      intro l
      rw [List.foldl_cons]
      obtain ⟨h1, h2⟩ := ih (if l.contains y then l else l ++ [y])
      have hl : ∀ x ∈ l, x ∈ (if l.contains y then l else l ++ [y]) := fun x hx => by
        split
        · exact hx
        · exact List.mem_append_left _ hx
      refine ⟨fun x hx => h1 x (hl x hx), fun x hx => ?_⟩
      rcases List.mem_cons.mp hx with rfl | hx
      · refine h1 _ ?_
        split
        · rename_i h
          exact List.contains_iff_mem.mp h
        · exact List.mem_append_right _ (List.mem_cons_self ..)
      · exact h2 x hx
  exact (h g []).2
theorem place_at : ∀ {l : List Nat} {x : Nat}, x ∈ l → l[place l x]? = some x
  | [], x, h => by cases h
  | y :: r, x, h => by
    unfold place
    rw [List.takeWhile_cons]
    by_cases e : y = x
    · subst e
      rw [if_neg (by simp)]
      rfl
    · rw [if_pos (by simpa using e)]
      have hx : x ∈ r := by
        rcases List.mem_cons.mp h with z | z
        · exact absurd z.symm e
        · exact z
      have ih := place_at hx
      unfold place at ih
      rw [List.length_cons, List.getElem?_cons_succ]
      exact ih
theorem place_inj {l : List Nat} {x y : Nat} (hx : x ∈ l) (hy : y ∈ l) (h : place l x = place l y) : x = y := by
  have h1 := place_at hx
  rw [h, place_at hy] at h1
  exact (Option.some.inj h1).symm
theorem tidy_len (g : List Nat) : (tidy g).length = g.length := by
  rw [tidy_is, List.length_map]
theorem getD_lt {g : List Nat} {i : Nat} (h : i < g.length) : g.getD i 0 = g[i] := by
  rw [List.getD_eq_getElem?_getD, List.getElem?_eq_getElem h]
  rfl
theorem tidy_at {g : List Nat} {i : Nat} (h : i < g.length) : (tidy g).getD i 0 = place (firsts g) (g.getD i 0) := by
  rw [getD_lt h, getD_lt (by rw [tidy_len]; exact h)]
  simp only [tidy_is, List.getElem_map]
theorem tidy_same {g : List Nat} {i j : Nat} (hi : i < g.length) (hj : j < g.length) : (tidy g).getD i 0 = (tidy g).getD j 0 ↔ g.getD i 0 = g.getD j 0 := by
  rw [tidy_at hi, tidy_at hj]
  constructor
  · intro h
    refine place_inj (firsts_mem g _ ?_) (firsts_mem g _ ?_) h
    · rw [getD_lt hi]
      exact List.getElem_mem hi
    · rw [getD_lt hj]
      exact List.getElem_mem hj
  · intro h
    rw [h]
theorem members_tidy {g : List Nat} {i : Nat} (hi : i < g.length) : members (tidy g) ((tidy g).getD i 0) = members g (g.getD i 0) := by
  unfold members
  rw [tidy_len]
  apply List.filter_congr
  intro j hj
  have hj := List.mem_range.mp hj
  rw [Bool.eq_iff_iff, beq_iff_eq, beq_iff_eq]
  exact tidy_same hj hi
theorem worth_tidy {t : Folk} {g : List Nat} {i : Nat} (hi : i < g.length) : worth t (tidy g) i = worth t g i := by
  unfold worth
  rw [members_tidy hi]
theorem worths_tidy {t : Folk} {g : List Nat} (hg : g.length = t.n) : Ks568.worths t (tidy g) = Ks568.worths t g := by
  unfold Ks568.worths
  apply List.map_congr_left
  intro i hi
  exact worth_tidy (by have := List.mem_range.mp hi; omega)
theorem better_tidy {t : Folk} {g h : List Nat} (hg : g.length = t.n) : Ks568.better t (tidy g) h = Ks568.better t g h := by
  have e : ∀ i ∈ List.range t.n, worth t (tidy g) i = worth t g i := fun i hi => worth_tidy (by have := List.mem_range.mp hi; omega)
  unfold Ks568.better
  rw [Bool.eq_iff_iff, Bool.and_eq_true, Bool.and_eq_true, List.all_eq_true, List.all_eq_true, List.any_eq_true, List.any_eq_true]
  constructor
  · rintro ⟨h1, i, hi, h2⟩
    refine ⟨fun j hj => ?_, i, hi, ?_⟩
    · rw [← e j hj]
      exact h1 j hj
    · rw [← e i hi]
      exact h2
  · rintro ⟨h1, i, hi, h2⟩
    refine ⟨fun j hj => ?_, i, hi, ?_⟩
    · rw [e j hj]
      exact h1 j hj
    · rw [e i hi]
      exact h2
theorem beaten_tidy {t : Folk} {g : List Nat} (hg : g.length = t.n) : Ks568.beaten t (tidy g) = Ks568.beaten t g := by
  unfold Ks568.beaten
  congr 1
  funext h
  exact better_tidy hg
theorem envies_tidy {t : Folk} {g : List Nat} (hg : g.length = t.n) : Ks568.envies t (tidy g) = Ks568.envies t g := by
  unfold Ks568.envies
  rw [List.flatMap_def, List.flatMap_def]
  congr 1
  apply List.map_congr_left
  intro i hi
  have hi := List.mem_range.mp hi
  congr 1
  apply List.filter_congr
  intro j hj
  have hj := List.mem_range.mp hj
  rw [worth_tidy (by omega), members_tidy (by omega)]
  congr 1
  rw [Bool.eq_iff_iff, bne_iff_ne, bne_iff_ne, Ne, Ne, tidy_same (by omega) (by omega)]

/-! ### beaten, and by what -/
/-- none less, one more: what is_better gives -/
def bett (l : List Int) : Bool := (l.all fun x => decide (0 ≤ x)) && (l.any fun x => decide (0 < x))
/-- what each has more in h than in g -/
def diffs (t : Folk) (g h : Groups) : List Int := (List.range t.n).map fun i => worth t h i - worth t g i
theorem bett_is (t : Folk) (g h : Groups) : bett (diffs t g h) = Ks568.better t g h := by
  unfold bett diffs Ks568.better
  rw [List.all_map, List.any_map]
  congr 1
  · congr 1
    funext i
    show decide _ = decide _
    rw [decide_eq_decide]
    show 0 ≤ worth t h i - worth t g i ↔ worth t g i ≤ worth t h i
    omega
  · congr 1
    funext i
    show decide _ = decide _
    rw [decide_eq_decide]
    show 0 < worth t h i - worth t g i ↔ worth t g i < worth t h i
    omega
theorem better_iff {t : Folk} {g h : Groups} : Ks568.better t g h = true ↔ (∀ i, i < t.n → worth t g i ≤ worth t h i) ∧ ∃ i, i < t.n ∧ worth t g i < worth t h i := by
  unfold Ks568.better
  rw [Bool.and_eq_true, List.all_eq_true, List.any_eq_true]
  constructor
  · rintro ⟨h1, i, hi, h2⟩
    exact ⟨fun j hj => of_decide_eq_true (h1 j (List.mem_range.mpr hj)), i, List.mem_range.mp hi, of_decide_eq_true h2⟩
  · rintro ⟨h1, i, hi, h2⟩
    exact ⟨fun j hj => decide_eq_true (h1 j (List.mem_range.mp hj)), i, List.mem_range.mpr hi, decide_eq_true h2⟩
theorem sum_le {f h : Nat → Int} : ∀ {n : Nat}, (∀ i, i < n → f i ≤ h i) → ((List.range n).map f).sum ≤ ((List.range n).map h).sum
  | 0, _ => Int.le_refl _
  | n + 1, c => by
    have ih := sum_le (n := n) fun i hi => c i (Nat.lt_succ_of_lt hi)
    have e := c n (Nat.lt_succ_self n)
    rw [List.range_succ, List.map_append, List.map_append, List.sum_append_int, List.sum_append_int, List.map_singleton, List.map_singleton, List.sum_singleton, List.sum_singleton]
    omega
theorem sum_lt {f h : Nat → Int} : ∀ {n : Nat}, (∀ i, i < n → f i ≤ h i) → (∃ i, i < n ∧ f i < h i) → ((List.range n).map f).sum < ((List.range n).map h).sum
  | 0, _, ⟨i, hi, _⟩ => absurd hi (Nat.not_lt_zero i)
  | n + 1, c, ⟨i, hi, hl⟩ => by
    rw [List.range_succ, List.map_append, List.map_append, List.sum_append_int, List.sum_append_int, List.map_singleton, List.map_singleton, List.sum_singleton, List.sum_singleton]
    have le := sum_le (n := n) fun i hi => c i (Nat.lt_succ_of_lt hi)
    have e := c n (Nat.lt_succ_self n)
    by_cases hin : i = n
    · subst hin
      omega
    · have := sum_lt (n := n) (fun i hi => c i (Nat.lt_succ_of_lt hi)) ⟨i, by omega, hl⟩
      omega
/-- what beats has more all together -/
theorem better_total {t : Folk} {g h : Groups} (b : Ks568.better t g h = true) : Ks567.total t g < Ks567.total t h := by
  obtain ⟨h1, h2⟩ := better_iff.mp b
  rw [total_sum, total_sum]
  unfold Ks568.worths
  exact sum_lt h1 h2
/-- the best has most -/
theorem best_most {t : Folk} {k : Nat} : ∀ {L : List Groups} {g : Groups}, Ks568.best t k L = some g → ∀ h ∈ L, Ks568.value t k h ≤ Ks568.value t k g
  | [], g, e => by cases e
  | x :: r, g, e => by
    have pv : ∀ b h, Ks568.value t k b ≤ Ks568.value t k (pick t k b h) ∧ Ks568.value t k h ≤ Ks568.value t k (pick t k b h) := by
      intro b h
      unfold pick
      split <;> omega
    have fm : ∀ (l : List Groups) (b : Groups), Ks568.value t k b ≤ Ks568.value t k (l.foldl (pick t k) b) ∧ ∀ h ∈ l, Ks568.value t k h ≤ Ks568.value t k (l.foldl (pick t k) b) := by
      intro l
      induction l with
      | nil => intro b; exact ⟨Int.le_refl _, fun h hh => by cases hh⟩
      | cons y s ih =>
        intro b
        rw [List.foldl_cons]
        obtain ⟨h1, h2⟩ := ih (pick t k b y)
        have := pv b y
        refine ⟨by omega, fun h hh => ?_⟩
        rcases List.mem_cons.mp hh with rfl | hh
        · omega
        · exact h2 h hh
    rw [best_fold] at e
    have e := Option.some.inj e
    subst e
    exact (fm (x :: r) x).2
theorem beaten_none {t : Folk} {g : Groups} : (Ks568.beaten t g).isNone = !((all t.n).any fun h => Ks568.better t g h) := by
  unfold Ks568.beaten
  rw [Bool.eq_iff_iff, Option.isNone_iff_eq_none, List.find?_eq_none, Bool.not_eq_true', List.any_eq_false]
/-- beaten by nothing, as the program asks it -/
def kept (t : Folk) : List Groups := (all t.n).filter fun g => !((all t.n).any fun h => Ks568.better t g h)
theorem unbeaten_is (t : Folk) : Ks568.unbeaten t = kept t := by
  unfold Ks568.unbeaten kept
  apply List.filter_congr
  intro g _
  exact beaten_none
/-- there is one: what has most all together is beaten by nothing -/
theorem kept_ne (t : Folk) : kept t ≠ [] := by
  obtain ⟨g, hg⟩ := best_some (t := t) (k := 0) (all_ne t.n)
  have hm := best_mem hg
  have hx := best_most hg
  intro z
  have : g ∈ kept t := by
    unfold kept
    refine List.mem_filter.mpr ⟨hm, ?_⟩
    rw [Bool.not_eq_true', List.any_eq_false]
    intro h hh b
    have h1 := better_total b
    have h2 := hx h hh
    unfold Ks568.value at h2
    rw [if_pos rfl, if_pos rfl] at h2
    omega
  rw [z] at this
  cases this
theorem find_head {α : Type} (p : α → Bool) : ∀ l : List α, l.find? p = (l.filter p).head?
  | [] => rfl
  | x :: r => by
    rw [List.find?_cons, List.filter_cons]
    cases p x with
    | true => rfl
    | false => exact find_head p r
theorem beaten_is (t : Folk) (g : Groups) : Ks568.beaten t g = ((all t.n).filter (Ks568.better t g)).head? := find_head _ _
theorem ok_groups {n : Nat} {v : List Int} {g : List Nat} (h : okGroups ⟨n, v⟩ g = true) : g.length = n ∧ ∀ x ∈ g, x < n := by
  unfold okGroups at h
  rw [Bool.and_eq_true, beq_iff_eq, List.all_eq_true] at h
  exact ⟨h.1, fun x hx => of_decide_eq_true (h.2 x hx)⟩
theorem zs_back (g : List Nat) : (zs g).map Int.toNat = g := by
  unfold zs
  rw [List.map_map]
  have : (Int.toNat ∘ Int.ofNat) = id := rfl
  rw [this, List.map_id]
theorem zs_of {l : List Int} (h : ∀ x ∈ l, (0 : Int) ≤ x) : ∃ g : List Nat, l = zs g := by
  refine ⟨l.map Int.toNat, ?_⟩
  unfold zs
  rw [List.map_map]
  conv => lhs; rw [← List.map_id l]
  apply List.map_congr_left
  intro x hx
  exact (Int.toNat_of_nonneg (h x hx)).symm
/-! the worst -/
def drop_ (t : Folk) (k : Nat) (b h : Groups) : Groups := if Ks568.value t k h < Ks568.value t k b then h else b
theorem worst_fold (t : Folk) (k : Nat) (g : Groups) (r : List Groups) : Ks568.worst t k (g :: r) = some ((g :: r).foldl (drop_ t k) g) := by
  rw [List.foldl_cons, show drop_ t k g g = g by unfold drop_; split <;> rfl]
  rfl
theorem worst_mem {t : Folk} {k : Nat} : ∀ {L : List Groups} {g : Groups}, Ks568.worst t k L = some g → g ∈ L
  | [], g, h => by cases h
  | x :: r, g, h => by
    have fm : ∀ (l : List Groups) (b : Groups), l.foldl (drop_ t k) b = b ∨ l.foldl (drop_ t k) b ∈ l := by
      intro l
      induction l with
      | nil => intro b; exact .inl rfl
      | cons y s ih =>
        intro b
        rw [List.foldl_cons]
        rcases ih (drop_ t k b y) with e | e
        · rw [e]
          unfold drop_
          split
          · exact .inr (List.mem_cons_self ..)
          · exact .inl rfl
        · exact .inr (List.mem_cons_of_mem _ e)
    rw [worst_fold] at h
    have e := Option.some.inj h
    subst e
    rcases fm (x :: r) x with e | e
    · rw [e]
      exact List.mem_cons_self ..
    · exact e
theorem worst_least {t : Folk} {k : Nat} : ∀ {L : List Groups} {g : Groups}, Ks568.worst t k L = some g → ∀ h ∈ L, Ks568.value t k g ≤ Ks568.value t k h
  | [], g, e => by cases e
  | x :: r, g, e => by
    have pv : ∀ b h, Ks568.value t k (drop_ t k b h) ≤ Ks568.value t k b ∧ Ks568.value t k (drop_ t k b h) ≤ Ks568.value t k h := by
      intro b h
      unfold drop_
      split <;> omega
    have fm : ∀ (l : List Groups) (b : Groups), Ks568.value t k (l.foldl (drop_ t k) b) ≤ Ks568.value t k b ∧ ∀ h ∈ l, Ks568.value t k (l.foldl (drop_ t k) b) ≤ Ks568.value t k h := by
      intro l
      induction l with
      | nil => intro b; exact ⟨Int.le_refl _, fun h hh => by cases hh⟩
      | cons y s ih =>
        intro b
        rw [List.foldl_cons]
        obtain ⟨h1, h2⟩ := ih (drop_ t k b y)
        have := pv b y
        refine ⟨by omega, fun h hh => ?_⟩
        rcases List.mem_cons.mp hh with rfl | hh
        · omega
        · exact h2 h hh
    rw [worst_fold] at e
    have e := Option.some.inj e
    subst e
    exact (fm (x :: r) x).2

end
open PySem PySem.Spec PyProof.Rows L2
open Ks565 (members with_ worth all groups Folk Groups)
/-! ### the text -/
def top (i : Nat) : Stmt := PySem.Challenge.pw_circles_s05_envies.main.body.getD i (.Pass ⟨0, 0, 0, 0⟩)
abbrev sEnvies : Stmt := top 4
abbrev sTold : Stmt := top 5
abbrev sGrps : Stmt := top 6
abbrev sMembers : Stmt := top 7
abbrev sHas : Stmt := top 8
abbrev sThose : Stmt := top 9
abbrev sEnvy : Stmt := top 10
/-! ### heaps -/
theorem same_upd {H : Hp} {p : Addr} {o : HO} (h : H p = none) : Same H (upd H p o) := fun _ _ e => (upd_ne (ne_of_none e h)).trans e
/-- what was there ahead of D stays when D is written -/
theorem same_upd' {H H1 : Hp} {p : Addr} {o : HO} (h : H p = none) (s : Same H H1) : Same H (upd H1 p o) := fun b x e => (upd_ne (ne_of_none e h)).trans (s b x e)
/-- a list of ints as values -/
abbrev vi (l : List Int) : List V := l.map V.int
theorem vi_snoc (l : List Int) (x : Int) : vi l ++ [V.int x] = vi (l ++ [x]) := by
  unfold vi
  rw [List.map_append]
  rfl
theorem zs_snoc (l : List Nat) (x : Nat) : zs l ++ [(x : Int)] = zs (l ++ [x]) := by
  unfold zs
  rw [List.map_append]
  rfl
theorem zs_len (l : List Nat) : (zs l).length = l.length := by
  unfold zs
  rw [List.length_map]
theorem zs_at {l : List Nat} {i : Nat} (h : i < l.length) : (vi (zs l))[i]? = some (.int (l.getD i 0 : Nat)) := by
  unfold vi zs
  rw [List.getElem?_map, List.getElem?_map, List.getElem?_eq_getElem h, List.getD_eq_getElem?_getD, List.getElem?_eq_getElem h]
  rfl
theorem room {n : Nat} (h : n ≤ 1000) : n < sizeLine := small1000 h
theorem at_lt {n i j : Nat} (hi : i < n) (hj : j < n) : i * n + j < n * n := by
  have h : (i + 1) * n ≤ n * n := Nat.mul_le_mul_right n hi
  rw [Nat.succ_mul] at h
  omega
theorem zs_get {l : List Nat} {i : Nat} {x : V} (h : (vi (zs l))[i]? = some x) : ∃ j, l[i]? = some j ∧ x = V.int (j : Nat) := by
  unfold vi zs at h
  rw [List.getElem?_map, List.getElem?_map] at h
  cases e : l[i]? with
  | none =>
    rw [e] at h
    cases h
  | some z =>
    rw [e] at h
    exact ⟨z, rfl, (Option.some.inj h).symm⟩
theorem worths_pos {t : Folk} {g : Groups} (h : 1 ≤ t.n) : 0 < (Ks568.worths t g).length := by
  unfold Ks568.worths
  rw [List.length_map, List.length_range]
  exact h
theorem refs_get {as : List Addr} {i : Nat} {x : V} (h : (as.map V.ref)[i]? = some x) : ∃ q, as[i]? = some q ∧ x = V.ref q := by
  rw [List.getElem?_map] at h
  cases e : as[i]? with
  | none =>
    rw [e] at h
    cases h
  | some z =>
    rw [e] at h
    exact ⟨z, rfl, (Option.some.inj h).symm⟩
theorem vi_get {l : List Int} {i : Nat} {x : V} (h : (vi l)[i]? = some x) : ∃ j, l[i]? = some j ∧ x = V.int j := by
  unfold vi at h
  rw [List.getElem?_map] at h
  cases e : l[i]? with
  | none =>
    rw [e] at h
    cases h
  | some z =>
    rw [e] at h
    exact ⟨z, rfl, (Option.some.inj h).symm⟩
/-! ### the request -/
theorem dw_int_inv {K : PySem.W.Frag} {H : Hp} {v : V} {i : Int} (h : Dw K H v (.int i)) : v = .int i := by
  cases h
  rfl
theorem dw_list_inv {K : PySem.W.Frag} {H : Hp} {v : V} {ds : List PySem.W.WData} (h : Dw K H v (.list ds)) : ∃ a xs, v = .ref a ∧ SqL K H a xs ∧ DwAll K H xs ds := by
  cases h with
  | lst hs ha => exact ⟨_, _, rfl, hs, ha⟩
theorem dw_cons {K : PySem.W.Frag} {H : Hp} {xs : List V} {d : PySem.W.WData} {ds : List PySem.W.WData} (h : DwAll K H xs (d :: ds)) : ∃ v vs, xs = v :: vs ∧ Dw K H v d ∧ DwAll K H vs ds := by
  cases h with
  | cons h1 h2 => exact ⟨_, _, rfl, h1, h2⟩
theorem dw_nil {K : PySem.W.Frag} {H : Hp} {xs : List V} (h : DwAll K H xs []) : xs = [] := by
  cases h
  rfl
theorem in_int {lo hi z : Int} {b : Bool} (h : (PySem.W.Codec.inInt lo hi z && b) = true) : (lo ≤ z ∧ z ≤ hi) ∧ b = true := by
  rw [Bool.and_eq_true] at h
  exact ⟨PySem.W.Codec.inInt_iff.mp h.1, h.2⟩
theorem in_list {lo hi : Nat} {c d : Int} {l : List Int} {b : Bool} (h : ((PySem.W.Codec.inLen lo hi l && l.all (PySem.W.Codec.inInt c d)) && b) = true) : l.length ≤ hi ∧ (∀ x ∈ l, c ≤ x ∧ x ≤ d) ∧ b = true := by
  rw [Bool.and_eq_true, Bool.and_eq_true, List.all_eq_true] at h
  exact ⟨(PySem.W.Codec.inNat_iff.mp h.1.1).2, fun x hx => PySem.W.Codec.inInt_iff.mp (h.1.2 x hx), h.2⟩

/-! ### max(xs, default=d) -/
def rMaxD (K : PySem.W.Frag) : List V → List V → Hp → VK → Prop := fun vs zs H Q => ∃ (a : Addr) (ns : List Int) (d : Int), vs = [V.ref a] ∧ zs = [V.int d] ∧ SqL K H a (vi ns) ∧ (ns = [] → Q (.int d) H) ∧ ∀ m, m ∈ ns → (∀ y, y ∈ ns → y ≤ m) → Q (.int m) H
theorem maxOf_is : ∀ (ys : List Int) (y : Int), PySem.W.maxOf y ys ∈ y :: ys ∧ ∀ z ∈ y :: ys, z ≤ PySem.W.maxOf y ys
  | [], y => ⟨List.mem_cons_self .., fun z hz => by
      have : z = y := by simpa using hz
      rw [this]
      exact Int.le_refl _⟩
  | x :: r, y => by
    have e : PySem.W.maxOf y (x :: r) = PySem.W.maxOf (if y < x then x else y) r := by
      show List.foldl _ (if decide (y < x) = true then x else y) r = _
      by_cases h : y < x
      · rw [if_pos h, if_pos (decide_eq_true h)]
        rfl
      · rw [if_neg h, if_neg (by simpa using h)]
        rfl
    obtain ⟨h1, h2⟩ := maxOf_is r (if y < x then x else y)
    rw [e]
    by_cases h : y < x
    · rw [if_pos h] at h1 h2 ⊢
      refine ⟨List.mem_cons_of_mem _ h1, fun z hz => ?_⟩
      rcases List.mem_cons.mp hz with rfl | hz
      · have := h2 x (List.mem_cons_self ..)
        omega
      · exact h2 z hz
    · rw [if_neg h] at h1 h2 ⊢
      refine ⟨?_, fun z hz => ?_⟩
      · rcases List.mem_cons.mp h1 with h1 | h1
        · rw [h1]
          exact List.mem_cons_self ..
        · exact List.mem_cons_of_mem _ (List.mem_cons_of_mem _ h1)
      · rcases List.mem_cons.mp hz with rfl | hz
        · exact h2 _ (List.mem_cons_self ..)
        · rcases List.mem_cons.mp hz with rfl | hz
          · have := h2 y (List.mem_cons_self ..)
            omega
          · exact h2 z (List.mem_cons_of_mem _ hz)
theorem cr_maxD {X : Cx} (hc : X.calm = true) (hu : X.A.units + 1 < cLine) : CallRK X (.builtin "max") [Str.ofString "default"] (rMaxD X.K) := by
  intro pins s σ H vs zs us ws Q I r rz h
  obtain ⟨a, ns, d, rfl, rfl, hs, q0, q1⟩ := h
  obtain ⟨its, rv, hl, _⟩ := I.list hs
  obtain rfl := Vals.ref1 r
  obtain ⟨w1, rfl, t1, rfl⟩ := L2.vals1 rz
  refine PySem.W.max_list_datum_default (α := Int) (xs := ns) (I.ok.hd hc) hl.isList ⟨_, rv.ints.reads _⟩ hu (fun e h' tk hk => ⟨.int d, H, I.kept hk, ⟨_, rfl⟩, q0 e⟩) (fun y ys i v h' tk e hi hv hk => ?_)
  obtain ⟨as, hv⟩ := hv
  obtain ⟨t, rfl, _⟩ := PyProof.Rows.reads_int_inv hv
  obtain ⟨m1, m2⟩ := maxOf_is ys y
  subst e
  exact ⟨.int _, H, I.kept hk, ⟨_, rfl⟩, q1 _ m1 m2⟩

/-! ### lists of ways -/
structure Items (H : Hp) (as : List Addr) (L : List (List Nat)) : Prop where
  len : as.length = L.length
  at_ : ∀ (j : Nat) (q : Addr), as[j]? = some q → ∃ g, L[j]? = some g ∧ H q = some (.lst (vi (zs g)))
theorem Items.nil {H : Hp} : Items H [] [] := ⟨rfl, fun j q h => by simp at h⟩
theorem Items.same {H H' : Hp} {as : List Addr} {L : List (List Nat)} (I : Items H as L) (s : Same H H') : Items H' as L := ⟨I.len, fun j q h => by
  obtain ⟨g, h1, h2⟩ := I.at_ j q h
  exact ⟨g, h1, s _ _ h2⟩⟩
theorem Items.but {H H' : Hp} {D : Addr} {as : List Addr} {L : List (List Nat)} (I : Items H as L) (s : ∀ b o, b ≠ D → H b = some o → H' b = some o) (n : ∀ q ∈ as, q ≠ D) : Items H' as L := ⟨I.len, fun j q h => by
  obtain ⟨g, h1, h2⟩ := I.at_ j q h
  exact ⟨g, h1, s _ _ (n q (List.mem_of_getElem? h)) h2⟩⟩
theorem Items.append {H : Hp} {as bs : List Addr} {L M : List (List Nat)} (I : Items H as L) (J : Items H bs M) : Items H (as ++ bs) (L ++ M) := by
  refine ⟨by rw [List.length_append, List.length_append, I.len, J.len], fun j q h => ?_⟩
  by_cases hj : j < as.length
  · rw [List.getElem?_append_left hj] at h
    obtain ⟨g, h1, h2⟩ := I.at_ j q h
    exact ⟨g, by rw [List.getElem?_append_left (by rw [← I.len]; exact hj)]; exact h1, h2⟩
  · rw [List.getElem?_append_right (by omega)] at h
    obtain ⟨g, h1, h2⟩ := J.at_ _ q h
    exact ⟨g, by rw [List.getElem?_append_right (by rw [← I.len]; omega), ← I.len]; exact h1, h2⟩
theorem Items.one {H : Hp} {q : Addr} {g : List Nat} (h : H q = some (.lst (vi (zs g)))) : Items H [q] [g] := ⟨rfl, fun j p e => by
  match j, e with
  | 0, e =>
    have e := Option.some.inj e
    subst e
    exact ⟨g, rfl, h⟩
  | j + 1, e => simp at e⟩

/-! ### lists of lists of ints -/
structure ItemsZ (H : Hp) (as : List Addr) (L : List (List Int)) : Prop where
  len : as.length = L.length
  at_ : ∀ (j : Nat) (q : Addr), as[j]? = some q → ∃ g, L[j]? = some g ∧ H q = some (.lst (vi g))
theorem ItemsZ.nil {H : Hp} : ItemsZ H [] [] := ⟨rfl, fun j q h => by simp at h⟩
theorem ItemsZ.same {H H' : Hp} {as : List Addr} {L : List (List Int)} (I : ItemsZ H as L) (s : Same H H') : ItemsZ H' as L := ⟨I.len, fun j q h => by
  obtain ⟨g, h1, h2⟩ := I.at_ j q h
  exact ⟨g, h1, s _ _ h2⟩⟩
theorem ItemsZ.but {H H' : Hp} {D : Addr} {as : List Addr} {L : List (List Int)} (I : ItemsZ H as L) (s : ∀ b o, b ≠ D → H b = some o → H' b = some o) (n : ∀ q ∈ as, q ≠ D) : ItemsZ H' as L := ⟨I.len, fun j q h => by
  obtain ⟨g, h1, h2⟩ := I.at_ j q h
  exact ⟨g, h1, s _ _ (n q (List.mem_of_getElem? h)) h2⟩⟩
theorem ItemsZ.snoc {H : Hp} {as : List Addr} {q : Addr} {L : List (List Int)} {g : List Int} (I : ItemsZ H as L) (h : H q = some (.lst (vi g))) : ItemsZ H (as ++ [q]) (L ++ [g]) := by
  refine ⟨by rw [List.length_append, List.length_append, I.len]; rfl, fun j p hj => ?_⟩
  by_cases hl : j < as.length
  · rw [List.getElem?_append_left hl] at hj
    obtain ⟨g', h1, h2⟩ := I.at_ j p hj
    exact ⟨g', by rw [List.getElem?_append_left (by rw [← I.len]; exact hl)]; exact h1, h2⟩
  · rw [List.getElem?_append_right (by omega)] at hj
    cases e : j - as.length with
    | zero =>
      rw [e] at hj
      have hj : q = p := Option.some.inj hj
      subst hj
      refine ⟨g, ?_, h⟩
      rw [List.getElem?_append_right (by rw [← I.len]; omega), ← I.len, e]
      rfl
    | succ m =>
      rw [e] at hj
      simp at hj

section
variable {P : Program} {w : World} {K : PySem.W.Frag} {mg : Str → Option Value} {base : Heap}
/-! ### is_as_told -/
def spTold (K : PySem.W.Frag) : Sp := fun vs H Q _ => ∃ (a : Addr) (n : Nat) (v : List Int), vs = [.int (n : Int), .ref a] ∧ SqL K H a (vi v) ∧ n < 4294967296 ∧ v.length ≤ 27 ∧ ∀ H', Same H H' → Q (.bl (told n v)) H'
theorem scTold : FnScope ["n", "worth", "value"] ["n", "worth"] (defScope sTold) := ⟨rfl, rfl, rfl, by decide +kernel, rfl, by decide +kernel, by decide +kernel⟩
theorem abs_le (x : Int) : (if x < 0 then -x else x) ≤ 20 ↔ x.natAbs ≤ 20 := by
  split <;> omega
theorem ok_told {f : Addr} {fd : FuncData} {k : Nat} {t1 t2 : Tok} (F : Fun K "is_as_told" "is_as_told" sTold f fd) (ml : mg "len" = none) (ma : mg "all" = none) (mb : mg "abs" = none) (m1 : mg "MOST_PEOPLE" = some (.int 5 t1)) (m2 : mg "MOST_WORTH" = some (.int 20 t2)) :
    FnOk P w K mg base CX0 (k + 1) f fd ["n", "worth"] (spTold K) := by
  refine F.ok scTold (fun vs H Q E h => ?_) (fun cdv A outer s H vs Q E hr h => ?_)
  · obtain ⟨a, n, v, rfl, _⟩ := h
    rfl
  · obtain ⟨a, n, v, rfl, hA, hn, hv, q⟩ := h
    refine ⟨_, pss_cons (ps_if (PW.pt (pw_or (pt_cmpR op_lt (pv 0) pe_int (nomark _)) (pw_or (pt_cmpR op_gt (pv 0) (pe_glob (v := .int 5) (by rfl) m1 ⟨_, rfl⟩) (nomark _)) (pw_or1 (pt_cmpR op_ne (pe_callB call_len_seq (by rfl) ml PySem.boot_len (pa_cons (pv 1) pa_nil)) (pe_op op_mul (pv 0) (pv 0)) (nomark _))))))
        (pss_one (ps_ret pe_bl)) pss_nil)
      (pss_one (ps_ret (pe_callB (cr_all (by rfl)) (by rfl) ma (by decide +kernel) (pa_cons (pe_lc (own := [("value", 2)]) (g := gName 2) (by rfl) scTold.nd (pi_list (pv 1))
        (blkOk_by (N := ["n", "worth", "value"]) (sc := defScope sTold) (by decide +kernel)) (fun _ _ _ _ _ => pg_name (i := 2) scTold.nd rfl (Or.inl rfl))
        (fun _ _ _ _ _ => pts_nil) (fun _ _ _ _ _ => pe_cmpR op_le (pe_callB call_abs (by rfl) mb (by decide +kernel) (pa_cons (pv 2) pa_nil)) (pe_glob (v := .int 20) (by rfl) m2 ⟨_, rfl⟩) (nomark _))) pa_nil)))), ?_⟩
    have no : (n < 1 ∨ 5 < n ∨ v.length ≠ n * n) → told n v = false := fun h => by
      cases e : told n v with
      | false => rfl
      | true =>
        obtain ⟨h1, h2, h3, _⟩ := told_iff.mp e
        rcases h with h | h | h
        · omega
        · omega
        · exact absurd h3 h
    refine ⟨.int (n : Int), rfl, _, _, rfl, rfl, _, rfl, ite2 (fun e => ?_) (fun e => ?_)⟩
    · have := of_decide_eq_true e
      refine iteT ?_
      have z := q H (Same.refl _)
      rw [no (.inl (by omega))] at z
      exact z
    have e1 : ¬ ((n : Int) < 1) := fun z => e (decide_eq_true z)
    refine ⟨.int (n : Int), rfl, _, _, rfl, rfl, _, rfl, ite2 (fun e => ?_) (fun e => ?_)⟩
    · have := of_decide_eq_true e
      refine iteT ?_
      have z := q H (Same.refl _)
      rw [no (.inr (.inl (by omega)))] at z
      exact z
    have e2 : ¬ ((n : Int) > 5) := fun z => e (decide_eq_true z)
    refine ⟨.ref a, rfl, a, _, rfl, .inl hA, .int (n : Int), rfl, .int (n : Int), rfl, _, _, rfl, rfl, .inl ⟨by omega, by omega⟩, rfl, _, rfl, ite2 (fun e => ?_) (fun e => ?_)⟩
    · have z := q H (Same.refl _)
      rw [no (.inr (.inr fun y => ?_))] at z
      · exact z
      · rw [List.length_map, y, Int.natCast_mul] at e
        simp at e
    have e3 : v.length = n * n := by
      apply Decidable.byContradiction
      intro z
      refine e ?_
      have : ¬ (V.int ((vi v).length : Int) = V.int ((n : Int) * (n : Int))) := fun y => z (by
        have y := V.int.inj y
        rw [List.length_map, ← Int.natCast_mul] at y
        omega)
      simp only [this, decide_false]
      rfl
    refine ⟨.ref a, rfl, a, rfl, ⟨_, hA⟩, fun D nD => ?_⟩
    refine lc_list (K := K) (a := a) (xs := vi v) (fun t H' => Same H H' ∧ H' D = some (.lst (((v.take t).map fun x => decide ((if x < 0 then -x else x) ≤ 20)).map V.bl))) ⟨same_upd nD, upd_same⟩ (fun t H' _ ⟨sm, _⟩ => sm.seq hA) ?_ ?_
    · rintro t x H1 hx ⟨sm, hD⟩
      obtain ⟨z, hz, rfl⟩ : ∃ z, v[t]? = some z ∧ x = V.int z := by
        rw [List.getElem?_map] at hx
        cases e : v[t]? with
        | none =>
          rw [e] at hx
          cases hx
        | some z =>
          rw [e] at hx
          exact ⟨z, rfl, (Option.some.inj hx).symm⟩
      refine ⟨rfl, .int z, rfl, z, rfl, _, _, rfl, rfl, _, hD, ?_, same_upd' nD sm, ?_⟩
      · rw [List.length_map, List.length_map, List.length_take]
        exact room (by omega)
      · rw [upd_same, take_snoc hz, List.map_append, List.map_append]
        rfl
    · rintro H1 ⟨sm, hD⟩
      rw [List.length_map, List.take_length] at hD
      refine ⟨D, _, rfl, SqL.of hD, ?_⟩
      have z := q H1 sm
      have ez : told n v = ((v.map fun x => decide ((if x < 0 then -x else x) ≤ 20)).all id) := by
        rw [Bool.eq_iff_iff, told_iff, List.all_eq_true]
        constructor
        · rintro ⟨_, _, _, h4⟩ b hb
          obtain ⟨x, hx, rfl⟩ := List.mem_map.mp hb
          exact decide_eq_true ((abs_le x).mpr (h4 x hx))
        · intro h
          refine ⟨by omega, by omega, e3, fun x hx => ?_⟩
          exact (abs_le x).mp (of_decide_eq_true (h _ (List.mem_map.mpr ⟨x, hx, rfl⟩)))
      rw [ez] at z
      exact z

/-! ### is_group_of_each -/
def spGrps (K : PySem.W.Frag) : Sp := fun vs H Q _ => ∃ (a : Addr) (n : Nat) (v : List Int) (g : List Nat), vs = [.int (n : Int), .ref a] ∧ SqL K H a (vi (zs g)) ∧ g.length ≤ 7 ∧ ∀ H', Same H H' → Q (.bl (Ks565.okGroups ⟨n, v⟩ g)) H'
theorem scGrps : FnScope ["n", "groups", "number"] ["n", "groups"] (defScope sGrps) := ⟨rfl, rfl, rfl, by decide +kernel, rfl, by decide +kernel, by decide +kernel⟩
theorem ok_grps {f : Addr} {fd : FuncData} {k : Nat} (F : Fun K "is_group_of_each" "is_group_of_each" sGrps f fd) (ml : mg "len" = none) (ma : mg "all" = none) :
    FnOk P w K mg base CX0 (k + 1) f fd ["n", "groups"] (spGrps K) := by
  refine F.ok scGrps (fun vs H Q E h => ?_) (fun cdv A outer s H vs Q E hr h => ?_)
  · obtain ⟨a, n, v, g, rfl, _⟩ := h
    rfl
  · obtain ⟨a, n, v, g, rfl, hA, hg, q⟩ := h
    refine ⟨_, pss_one (ps_ret (pe_and (pe_cmpR op_eq (pe_callB call_len_seq (by rfl) ml PySem.boot_len (pa_cons (pv 1) pa_nil)) (pv 0) (nomark _))
      (pe_one (pe_callB (cr_all (by rfl)) (by rfl) ma (by decide +kernel) (pa_cons (pe_lc (own := [("number", 2)]) (g := gName 2) (by rfl) scGrps.nd (pi_list (pv 1))
        (blkOk_by (N := ["n", "groups", "number"]) (sc := defScope sGrps) (by decide +kernel)) (fun _ _ _ _ _ => pg_name (i := 2) scGrps.nd rfl (Or.inl rfl))
        (fun _ _ _ _ _ => pts_nil) (fun _ _ _ _ _ => pe_cmpR op_lt (pv 2) (pv 0) (nomark _))) pa_nil))))), ?_⟩
    refine ⟨.ref a, rfl, a, _, rfl, .inl hA, .int (n : Int), rfl, rfl, _, rfl, ite2 (fun e => ?_) (fun e => ?_)⟩
    · have e0 : g.length = n := by
        have e := V.int.inj (of_decide_eq_true e)
        rw [List.length_map, zs_len] at e
        omega
      refine ⟨.ref a, rfl, a, rfl, ⟨_, hA⟩, fun D nD => ?_⟩
      refine lc_list (K := K) (a := a) (xs := vi (zs g)) (fun t H' => Same H H' ∧ H' D = some (.lst (((g.take t).map fun x => decide (x < n)).map V.bl))) ⟨same_upd nD, upd_same⟩ (fun t H' _ ⟨sm, _⟩ => sm.seq hA) ?_ ?_
      · rintro t x H1 hx ⟨sm, hD⟩
        obtain ⟨j, hj, rfl⟩ := zs_get hx
        refine ⟨rfl, .int (j : Int), rfl, .int (n : Int), rfl, _, _, rfl, rfl, _, hD, ?_, same_upd' nD sm, ?_⟩
        · rw [List.length_map, List.length_map, List.length_take]
          exact room (by omega)
        · have ed : decide ((j : Int) < (n : Int)) = decide (j < n) := by
            rw [decide_eq_decide]
            omega
          rw [upd_same, take_snoc hj, List.map_append, List.map_append]
          show some (HO.lst (_ ++ [V.bl (decide ((j : Int) < (n : Int)))])) = _
          rw [ed]
          rfl
      · rintro H1 ⟨sm, hD⟩
        rw [List.length_map, List.length_map, List.take_length] at hD
        refine ⟨D, _, rfl, SqL.of hD, ?_⟩
        have z := q H1 sm
        have ez : Ks565.okGroups ⟨n, v⟩ g = ((g.map fun x => decide (x < n)).all id) := by
          unfold Ks565.okGroups
          rw [List.all_map]
          show (g.length == n && _) = _
          rw [beq_iff_eq.mpr e0, Bool.true_and]
          rfl
        rw [ez] at z
        exact z
    · have e0 : ¬ g.length = n := fun y => by
        refine e ?_
        rw [List.length_map, zs_len, y]
        simp
      have z := q H (Same.refl _)
      have ez : Ks565.okGroups ⟨n, v⟩ g = false := by
        unfold Ks565.okGroups
        show (g.length == n && _) = false
        rw [show (g.length == n) = false by simpa using e0, Bool.false_and]
      rw [ez] at z
      exact z

/-! ### members_of -/
def spMembers (K : PySem.W.Frag) : Sp := fun vs H Q _ => ∃ (a : Addr) (g : List Nat) (k : Nat), vs = [.ref a, .int (k : Int)] ∧ SqL K H a (vi (zs g)) ∧ g.length ≤ 1000 ∧
  ∀ H' p, Same H H' → H p = none → H' p = some (.lst (vi (zs (members g k)))) → Q (.ref p) H'
theorem scMembers : FnScope ["way", "number", "person"] ["way", "number"] (defScope sMembers) := ⟨rfl, rfl, rfl, by decide +kernel, rfl, by decide +kernel, by decide +kernel⟩
theorem ok_members {f : Addr} {fd : FuncData} {k : Nat} (F : Fun K "members_of" "members_of" sMembers f fd) (mr : mg "range" = none) (ml : mg "len" = none) : FnOk P w K mg base CX0 (k + 1) f fd ["way", "number"] (spMembers K) := by
  refine F.ok scMembers (fun vs H Q E h => ?_) (fun cdv A outer s H vs Q E hr h => ?_)
  · obtain ⟨a, g, k, rfl, _⟩ := h
    rfl
  · obtain ⟨a, g, k, rfl, hS, hlen, q⟩ := h
    refine ⟨_, pss_one (ps_ret (pe_lc (own := [("person", 2)]) (g := gName 2) (by rfl) scMembers.nd (pi_range1 (by rfl) mr (pa_cons (pe_callB call_len_seq (by rfl) ml PySem.boot_len (pa_cons (pv 0) pa_nil)) pa_nil))
      (blkOk_by (N := ["way", "number", "person"]) (sc := defScope sMembers) (by decide +kernel)) (fun _ _ _ _ _ => pg_name (i := 2) scMembers.nd rfl (Or.inl rfl))
      (fun _ _ _ _ _ => pts_one (pt_cmpR op_eq (pe_ix (r := rIxL K) ix_list (pv 0) (pv 2) (fun _ _ => rfl)) (pv 1) (nomark _))) (fun _ _ _ _ _ => pv 2))), ?_⟩
    have el : (vi (zs g)).length = g.length := by rw [List.length_map, zs_len]
    refine ⟨.ref a, rfl, a, _, rfl, .inl hS, _, rfl, ?_, ?_, fun D nD => ?_⟩
    · rw [el]; omega
    · rw [el]; omega
    rw [el]
    refine lc_range (lo := 0) (n := ((g.length : Nat) : Int).toNat) (fun i H' => Same H H' ∧ H' D = some (.lst (vi (zs ((List.range i).filter fun j => g.getD j 0 == k))))) ⟨same_upd nD, upd_same⟩ ?_ ?_
    · rintro i H1 hi ⟨sm, hD⟩
      have hi' : i < g.length := by omega
      refine ⟨rfl, .ref a, rfl, .int (0 + (i : Int)), rfl, a, _, _, _, rfl, rfl, sm.seq hS, at_of (j := i) (by omega) (zs_at hi'), .int (k : Int), rfl, rfl, _, rfl, ?_⟩
      have e1 : (List.range (i + 1)).filter (fun j => g.getD j 0 == k) = (List.range i).filter (fun j => g.getD j 0 == k) ++ (if g.getD i 0 == k then [i] else []) := by
        rw [List.range_succ, List.filter_append, List.filter_cons, List.filter_nil]
      refine ite2 (fun e => ?_) (fun e => ?_)
      · have e0 : g.getD i 0 = k := by
          have := V.int.inj (of_decide_eq_true e)
          omega
        refine ⟨.int (0 + (i : Int)), rfl, _, hD, ?_, same_upd' nD sm, ?_⟩
        · rw [List.length_map, zs_len]
          refine room (Nat.le_trans (List.length_filter_le _ _) ?_)
          rw [List.length_range]
          omega
        · rw [upd_same, e1, if_pos (beq_iff_eq.mpr e0), ← zs_snoc, ← vi_snoc, Int.zero_add]
      · have e0 : ¬ g.getD i 0 = k := fun z => e (by rw [z]; simp)
        refine ⟨sm, ?_⟩
        rw [e1, if_neg (fun z => e0 (beq_iff_eq.mp z)), List.append_nil]
        exact hD
    · rintro H1 ⟨sm, hD⟩
      exact q H1 D sm nD (by rw [Int.toNat_natCast] at hD; exact hD)

/-! ### has_with -/
def spHas (K : PySem.W.Frag) : Sp := fun vs H Q _ => ∃ (a b : Addr) (n i : Nat) (v : List Int) (m : List Nat), vs = [.int (n : Int), .ref a, .int (i : Int), .ref b] ∧ SqL K H a (vi v) ∧ SqL K H b (vi (zs m)) ∧ n ≤ 5 ∧ i < n ∧ v.length = n * n ∧ (∀ j ∈ m, j < n) ∧ m.length ≤ 1000 ∧
  ∀ H', Same H H' → Q (.int (with_ ⟨n, v⟩ i m)) H'
theorem scHas : FnScope ["n", "worth", "person", "members", "other"] ["n", "worth", "person", "members"] (defScope sHas) := ⟨rfl, rfl, rfl, by decide +kernel, rfl, by decide +kernel, by decide +kernel⟩
theorem ok_has {f : Addr} {fd : FuncData} {k : Nat} (F : Fun K "has_with" "has_with" sHas f fd) (ms : mg "sum" = none) : FnOk P w K mg base CX0 (k + 1) f fd ["n", "worth", "person", "members"] (spHas K) := by
  refine F.ok scHas (fun vs H Q E h => ?_) (fun cdv A outer s H vs Q E hr h => ?_)
  · obtain ⟨a, b, n, i, v, m, rfl, _⟩ := h
    rfl
  · obtain ⟨a, b, n, i, v, m, rfl, hA, hB, hn, hi, hv, hm, hml, q⟩ := h
    refine ⟨_, pss_one (ps_ret (pe_callB (cr_sum (by rfl)) (by rfl) ms (by decide +kernel) (pa_cons (pe_lc (own := [("other", 4)]) (g := gName 4) (by rfl) scHas.nd (pi_list (pv 3))
      (blkOk_by (N := ["n", "worth", "person", "members", "other"]) (sc := defScope sHas) (by decide +kernel)) (fun _ _ _ _ _ => pg_name (i := 4) scHas.nd rfl (Or.inl rfl))
      (fun _ _ _ _ _ => pts_one (pt_cmpR op_ne (pv 4) (pv 2) (nomark _))) (fun _ _ _ _ _ => pe_ix (r := rIxL K) ix_list (pv 1) (pe_op op_add (pe_op op_mul (pv 2) (pv 0)) (pv 4)) (fun _ _ => rfl))) pa_nil))), ?_⟩
    refine ⟨.ref b, rfl, b, rfl, ⟨_, hB⟩, fun D nD => ?_⟩
    refine lc_list (K := K) (a := b) (xs := vi (zs m)) (fun t H' => Same H H' ∧ H' D = some (.lst (vi (picks n v i (m.take t))))) ⟨same_upd nD, upd_same⟩ (fun t H' _ ⟨sm, _⟩ => sm.seq hB) ?_ ?_
    · rintro t x H1 hx ⟨sm, hD⟩
      obtain ⟨j, hj, rfl⟩ := zs_get hx
      have hjn : j < n := hm j (List.mem_of_getElem? hj)
      refine ⟨rfl, .int (j : Int), rfl, .int (i : Int), rfl, rfl, _, rfl, ?_⟩
      refine ite2 (fun e => ?_) (fun e => ?_)
      · have e0 : ¬ j = i := fun z => by
          rw [z] at e
          simp at e
        have hlt := at_lt hi hjn
        have el : v[i * n + j]? = some (v.getD (i * n + j) 0) := by
          rw [List.getD_eq_getElem?_getD, List.getElem?_eq_getElem (by omega)]
          rfl
        refine ⟨.ref a, rfl, .int (i : Int), rfl, .int (n : Int), rfl, _, _, rfl, rfl, .inl ⟨by omega, by omega⟩, .int (j : Int), rfl, _, _, rfl, rfl, a, _, _, .int (v.getD (i * n + j) 0), rfl, rfl, sm.seq hA, at_of (j := i * n + j) (by rw [Int.natCast_add, Int.natCast_mul]) (by rw [List.getElem?_map, el]; rfl), _, hD, ?_, same_upd' nD sm, ?_⟩
        · rw [List.length_map]
          refine room (Nat.le_trans (picks_len ..) (Nat.le_trans ?_ hml))
          rw [List.length_take]
          omega
        · rw [upd_same, take_snoc hj, picks_snoc, if_neg e0, ← vi_snoc]
      · have e0 : j = i := by
          apply Decidable.byContradiction
          intro z
          refine e ?_
          have : ¬ (V.int (j : Int) = V.int (i : Int)) := fun y => z (by have := V.int.inj y; omega)
          simp [this]
        refine ⟨sm, ?_⟩
        rw [take_snoc hj, picks_snoc, if_pos e0]
        exact hD
    · rintro H1 ⟨sm, hD⟩
      rw [List.length_map, List.length_map, List.take_length] at hD
      refine ⟨D, picks n v i m, rfl, SqL.of hD, ?_⟩
      rw [picks_sum]
      exact q H1 sm

/-! ### does_envy -/
/-- whether i envies j -/
def envy (n : Nat) (v : List Int) (g : List Nat) (i j : Nat) : Bool := g.getD i 0 != g.getD j 0 && decide (worth ⟨n, v⟩ g i < with_ ⟨n, v⟩ i ((members g (g.getD j 0)).filter fun x => x != j))
def spEnvy (K : PySem.W.Frag) : Sp := fun vs H Q _ => ∃ (a b : Addr) (n i j : Nat) (v : List Int) (g : List Nat), vs = [.int (n : Int), .ref a, .ref b, .int (i : Int), .int (j : Int)] ∧ SqL K H a (vi v) ∧ SqL K H b (vi (zs g)) ∧ n ≤ 5 ∧ v.length = n * n ∧ g.length = n ∧ i < n ∧ j < n ∧
  ∀ H', Same H H' → Q (.bl (envy n v g i j)) H'
theorem scEnvy : FnScope ["n", "worth", "groups", "person", "other", "left", "member"] ["n", "worth", "groups", "person", "other"] (defScope sEnvy) := ⟨rfl, rfl, rfl, by decide +kernel, rfl, by decide +kernel, by decide +kernel⟩
theorem ok_envy {f f1 f2 : Addr} {fd fd1 fd2 : FuncData} {k : Nat} (F : Fun K "does_envy" "does_envy" sEnvy f fd)
    (F1 : Fun K "members_of" "members_of" sMembers f1 fd1) (b1 : Binds K fd1 ["way", "number"] []) (g1 : mg "members_of" = some (.ref f1)) (G1 : FnOk P w K mg base CX0 (k + 1) f1 fd1 ["way", "number"] (spMembers K))
    (F2 : Fun K "has_with" "has_with" sHas f2 fd2) (b2 : Binds K fd2 ["n", "worth", "person", "members"] []) (g2 : mg "has_with" = some (.ref f2)) (G2 : FnOk P w K mg base CX0 (k + 1) f2 fd2 ["n", "worth", "person", "members"] (spHas K)) : FnOk P w K mg base CX0 (k + 2) f fd ["n", "worth", "groups", "person", "other"] (spEnvy K) := by
  refine F.ok scEnvy (fun vs H Q E h => ?_) (fun cdv A outer s H vs Q E hr h => ?_)
  · obtain ⟨a, b, n, i, j, v, g, rfl, _⟩ := h
    rfl
  · obtain ⟨a, b, n, i, j, v, g, rfl, hA, hB, hn, hv, hg, hi, hj, q⟩ := h
    refine ⟨_, pss_cons (ps_if (pt_cmpR op_eq (pe_ix (r := rIxL K) ix_list (pv 2) (pv 3) (fun _ _ => rfl)) (pe_ix (r := rIxL K) ix_list (pv 2) (pv 4) (fun _ _ => rfl)) (nomark _)) (pss_one (ps_ret pe_bl)) pss_nil)
      (pss_cons (ps_setLc (i := 5) (own := [("member", 6)]) (g := gName 6) (by rfl) scEnvy.nd rfl rfl (sw_true rfl rfl rfl (by decide +kernel)) (pi_list (pe_call G1 hr (by rfl) g1 F1.kp b1 .nil pass0 (pa_cons (pv 2) (pa_cons (pe_ix (r := rIxL K) ix_list (pv 2) (pv 4) (fun _ _ => rfl)) pa_nil))))
        (blkOk_by (N := ["n", "worth", "groups", "person", "other", "left", "member"]) (sc := defScope sEnvy) (by decide +kernel)) (fun _ _ _ _ _ => pg_name (i := 6) scEnvy.nd rfl (Or.inl rfl))
        (fun _ _ _ _ _ => pts_one (pt_cmpR op_ne (pv 6) (pv 4) (nomark _))) (fun _ _ _ _ _ => pv 6))
      (pss_one (ps_ret (pe_cmpR op_gt (pe_call G2 hr (by rfl) g2 F2.kp b2 .nil pass0 (pa_cons (pv 0) (pa_cons (pv 1) (pa_cons (pv 3) (pa_cons (pv 5) pa_nil)))))
        (pe_call G2 hr (by rfl) g2 F2.kp b2 .nil pass0 (pa_cons (pv 0) (pa_cons (pv 1) (pa_cons (pv 3) (pa_cons (pe_call G1 hr (by rfl) g1 F1.kp b1 .nil pass0 (pa_cons (pv 2) (pa_cons (pe_ix (r := rIxL K) ix_list (pv 2) (pv 3) (fun _ _ => rfl)) pa_nil))) pa_nil))))) (nomark _))))), ?_⟩
    have hgi : (vi (zs g))[i]? = some (.int (g.getD i 0 : Nat)) := zs_at (by omega)
    have hgj : (vi (zs g))[j]? = some (.int (g.getD j 0 : Nat)) := zs_at (by omega)
    refine ⟨.ref b, rfl, .int (i : Int), rfl, b, _, _, _, rfl, rfl, hB, at_of (j := i) rfl hgi, .ref b, rfl, .int (j : Int), rfl, b, _, _, _, rfl, rfl, hB, at_of (j := j) rfl hgj, rfl, _, rfl, ite2 (fun e => ?_) (fun e => ?_)⟩
    · have e0 : g.getD i 0 = g.getD j 0 := by
        have := V.int.inj (of_decide_eq_true e)
        omega
      have z := q H (Same.refl _)
      have ez : envy n v g i j = false := by
        unfold envy
        rw [e0]
        simp
      rw [ez] at z
      exact z
    have e0 : ¬ g.getD i 0 = g.getD j 0 := fun z => e (by rw [z]; simp)
    refine ⟨.ref b, rfl, .ref b, rfl, .int (j : Int), rfl, b, _, _, _, rfl, rfl, hB, at_of (j := j) rfl hgj, b, g, g.getD j 0, rfl, hB, by omega, fun H2 p2 s2 n2 hp2 => ⟨p2, rfl, ⟨_, SqL.of hp2⟩, fun D nD => ?_⟩⟩
    have ml := members_len g (g.getD j 0)
    refine lc_list (K := K) (a := p2) (xs := vi (zs (members g (g.getD j 0)))) (fun t H' => Same H2 H' ∧ H' D = some (.lst (vi (zs (((members g (g.getD j 0)).take t).filter fun x => x != j))))) ⟨same_upd nD, upd_same⟩ (fun t H' _ ⟨sm, _⟩ => SqL.of (sm _ _ hp2)) ?_ ?_
    · rintro t x H3 hx ⟨s3, hD⟩
      obtain ⟨m, hm, rfl⟩ := zs_get hx
      refine ⟨rfl, .int (m : Int), rfl, .int (j : Int), rfl, rfl, _, rfl, ?_⟩
      have et : ((members g (g.getD j 0)).take (t + 1)).filter (fun x => x != j) = ((members g (g.getD j 0)).take t).filter (fun x => x != j) ++ (if m != j then [m] else []) := by
        rw [take_snoc hm, List.filter_append, List.filter_cons, List.filter_nil]
      refine ite2 (fun e => ?_) (fun e => ?_)
      · have em : ¬ m = j := fun z => by
          rw [z] at e
          simp at e
        refine ⟨.int (m : Int), rfl, _, hD, ?_, same_upd' nD s3, ?_⟩
        · rw [List.length_map, zs_len]
          refine room (Nat.le_trans (List.length_filter_le _ _) ?_)
          rw [List.length_take]
          omega
        · rw [upd_same, et, if_pos (by simpa using em), ← zs_snoc, ← vi_snoc]
      · have em : m = j := by
          apply Decidable.byContradiction
          intro z
          refine e ?_
          have : ¬ (V.int (m : Int) = V.int (j : Int)) := fun y => z (by have := V.int.inj y; omega)
          simp [this]
        refine ⟨s3, ?_⟩
        rw [et, if_neg (by simpa using em), List.append_nil]
        exact hD
    · rintro H3 ⟨s3, hD⟩
      rw [List.length_map, List.length_map, List.take_length] at hD
      have s23 := s2.trans s3
      refine ⟨.int (n : Int), rfl, .ref a, rfl, .int (i : Int), rfl, .ref D, rfl, a, D, n, i, v, _, rfl, s23.seq hA, SqL.of hD, hn, hi, hv, fun x hx => ?_, ?_, fun H4 s4 => ?_⟩
      · have := members_lt (List.mem_filter.mp hx).1
        omega
      · have := List.length_filter_le (fun x => x != j) (members g (g.getD j 0))
        omega
      have s24 := s23.trans s4
      refine ⟨.int (n : Int), rfl, .ref a, rfl, .int (i : Int), rfl, .ref b, rfl, .ref b, rfl, .int (i : Int), rfl, b, _, _, _, rfl, rfl, s24.seq hB, at_of (j := i) rfl hgi, b, g, g.getD i 0, rfl, s24.seq hB, by omega, fun H5 p5 s5 n5 hp5 => ?_⟩
      refine ⟨a, p5, n, i, v, _, rfl, (s24.trans s5).seq hA, SqL.of hp5, hn, hi, hv, fun x hx => ?_, ?_, fun H6 s6 => ⟨_, _, rfl, rfl, ?_⟩⟩
      · have := members_lt hx
        omega
      · have := members_len g (g.getD i 0)
        omega
      · have z := q H6 ((s24.trans s5).trans s6)
        unfold envy at z
        rw [show (g.getD i 0 != g.getD j 0) = true by simpa using e0, Bool.true_and] at z
        exact z

/-! ### those_envied -/
def spThose (K : PySem.W.Frag) : Sp := fun vs H Q _ => ∃ (a b : Addr) (n i : Nat) (v : List Int) (g : List Nat), vs = [.int (n : Int), .ref a, .ref b, .int (i : Int)] ∧ SqL K H a (vi v) ∧ SqL K H b (vi (zs g)) ∧ n ≤ 5 ∧ v.length = n * n ∧ g.length = n ∧ i < n ∧
  ∀ H' p, Same H H' → H p = none → H' p = some (.lst (vi (zs ((List.range n).filter (envy n v g i))))) → Q (.ref p) H'
theorem scThose : FnScope ["n", "worth", "groups", "person", "other"] ["n", "worth", "groups", "person"] (defScope sThose) := ⟨rfl, rfl, rfl, by decide +kernel, rfl, by decide +kernel, by decide +kernel⟩
theorem ok_those {f f1 : Addr} {fd fd1 : FuncData} {k : Nat} (F : Fun K "those_envied" "those_envied" sThose f fd)
    (F1 : Fun K "does_envy" "does_envy" sEnvy f1 fd1) (b1 : Binds K fd1 ["n", "worth", "groups", "person", "other"] []) (g1 : mg "does_envy" = some (.ref f1)) (G1 : FnOk P w K mg base CX0 (k + 2) f1 fd1 ["n", "worth", "groups", "person", "other"] (spEnvy K))
    (mr : mg "range" = none) : FnOk P w K mg base CX0 (k + 3) f fd ["n", "worth", "groups", "person"] (spThose K) := by
  refine F.ok scThose (fun vs H Q E h => ?_) (fun cdv A outer s H vs Q E hr h => ?_)
  · obtain ⟨a, b, n, i, v, g, rfl, _⟩ := h
    rfl
  · obtain ⟨a, b, n, i, v, g, rfl, hA, hB, hn, hv, hg, hi, q⟩ := h
    refine ⟨_, pss_one (ps_ret (pe_lc (own := [("other", 4)]) (g := gName 4) (by rfl) scThose.nd (pi_range1 (by rfl) mr (pa_cons (pv 0) pa_nil))
      (blkOk_by (N := ["n", "worth", "groups", "person", "other"]) (sc := defScope sThose) (by decide +kernel)) (fun _ _ _ _ _ => pg_name (i := 4) scThose.nd rfl (Or.inl rfl))
      (fun _ _ _ _ _ => pts_one (pt_val (pe_call G1 hr (by rfl) g1 F1.kp b1 .nil pass0 (pa_cons (pv 0) (pa_cons (pv 1) (pa_cons (pv 2) (pa_cons (pv 3) (pa_cons (pv 4) pa_nil)))))))) (fun _ _ _ _ _ => pv 4))), ?_⟩
    refine ⟨.int (n : Int), rfl, _, rfl, by omega, by omega, fun D nD => ?_⟩
    refine lc_range (lo := 0) (n := ((n : Nat) : Int).toNat) (fun j H' => Same H H' ∧ H' D = some (.lst (vi (zs ((List.range j).filter (envy n v g i)))))) ⟨same_upd nD, upd_same⟩ ?_ ?_
    · rintro j H1 hj ⟨sm, hD⟩
      have hj' : j < n := by omega
      refine ⟨rfl, .int (n : Int), rfl, .ref a, rfl, .ref b, rfl, .int (i : Int), rfl, .int (0 + (j : Int)), rfl, a, b, n, i, j, v, g, by rw [Int.zero_add]; rfl, sm.seq hA, sm.seq hB, hn, hv, hg, hi, hj', fun H2 s2 => ⟨_, rfl, ?_⟩⟩
      have e1 : (List.range (j + 1)).filter (envy n v g i) = (List.range j).filter (envy n v g i) ++ (if envy n v g i j then [j] else []) := by
        rw [List.range_succ, List.filter_append, List.filter_cons, List.filter_nil]
      rw [e1]
      cases e : envy n v g i j with
      | true =>
        refine ⟨.int (0 + (j : Int)), rfl, _, s2 _ _ hD, ?_, same_upd' nD (sm.trans s2), ?_⟩
        · rw [List.length_map, zs_len]
          refine room (Nat.le_trans (List.length_filter_le _ _) ?_)
          rw [List.length_range]
          omega
        · rw [upd_same, if_pos rfl, ← zs_snoc, ← vi_snoc, Int.zero_add]
      | false =>
        refine ⟨sm.trans s2, ?_⟩
        rw [if_neg (by decide), List.append_nil]
        exact s2 _ _ hD
    · rintro H1 ⟨sm, hD⟩
      exact q H1 D sm nD (by rw [Int.toNat_natCast] at hD; exact hD)

/-! ### envies -/
def spEnvies (K : PySem.W.Frag) : Sp := fun vs H Q _ => ∃ (a b : Addr) (n : Nat) (v : List Int) (g : List Nat), vs = [.int (n : Int), .ref a, .ref b] ∧ SqL K H a (vi v) ∧ SqL K H b (vi (zs g)) ∧ n < 4294967296 ∧ v.length ≤ 27 ∧ (zs g).length ≤ 7 ∧
  ∀ H' p, H' p = some (.lst (vi (PyKs568.envies n v (zs g)))) → Q (.ref p) H'
theorem envies_eq (n : Nat) (v : List Int) (g : List Nat) : PyKs568.envies n v (zs g) = Ks568Neutral.out (Ks568.answer (.envies n v ((zs g).map Int.toNat))) := rfl
theorem envies_no {n : Nat} {v : List Int} {g : List Nat} (h : told n v = false ∨ Ks565.okGroups ⟨n, v⟩ g = false) : PyKs568.envies n v (zs g) = [-22] := by
  rw [envies_eq, zs_back]
  show Ks568Neutral.out (Ks565.inGroups n v g _) = _
  unfold Ks565.inGroups Ks565.folk
  cases e : told n v with
  | false =>
    rw [told_not e]
    rfl
  | true =>
    rw [told_folk e]
    rcases h with h | h
    · rw [e] at h
      cases h
    · show Ks568Neutral.out (if Ks565.okGroups ⟨n, v⟩ g = true then _ else _) = _
      rw [if_neg (by rw [h]; decide)]
      rfl
/-- whom i envies -/
def envd (n : Nat) (v : List Int) (g : List Nat) (i : Nat) : List Nat := (List.range n).filter (envy n v g i)
/-- told as twos -/
def duo (i : Nat) (l : List Nat) : List Int := l.flatMap fun (j : Nat) => [(i : Int), (j : Int)]
/-- of the first k people -/
def duos (n : Nat) (v : List Int) (g : List Nat) (k : Nat) : List Int := (List.range k).flatMap fun i => duo i (envd n v g i)
/-- how many twos of the first k people -/
def much (n : Nat) (v : List Int) (g : List Nat) (k : Nat) : Nat := ((List.range k).flatMap fun i => envd n v g i).length
theorem duo_snoc (i : Nat) (l : List Nat) (j : Nat) : duo i (l ++ [j]) = duo i l ++ [(i : Int), (j : Int)] := by
  unfold duo
  rw [List.flatMap_append]
  rfl
theorem duo_len (i : Nat) : ∀ l : List Nat, (duo i l).length = 2 * l.length
  | [] => rfl
  | x :: r => by
    have ih := duo_len i r
    unfold duo at ih ⊢
    rw [List.flatMap_cons, List.length_append, ih]
    show 2 + 2 * r.length = 2 * (r.length + 1)
    omega
theorem duos_succ (n : Nat) (v : List Int) (g : List Nat) (k : Nat) : duos n v g (k + 1) = duos n v g k ++ duo k (envd n v g k) := by
  unfold duos
  rw [List.range_succ, List.flatMap_append]
  simp
theorem much_succ (n : Nat) (v : List Int) (g : List Nat) (k : Nat) : much n v g (k + 1) = much n v g k + (envd n v g k).length := by
  unfold much
  rw [List.range_succ, List.flatMap_append, List.length_append]
  simp
theorem envd_len (n : Nat) (v : List Int) (g : List Nat) (i : Nat) : (envd n v g i).length ≤ n := by
  unfold envd
  have := List.length_filter_le (envy n v g i) (List.range n)
  rwa [List.length_range] at this
theorem duos_len (n : Nat) (v : List Int) (g : List Nat) : ∀ k : Nat, (duos n v g k).length ≤ 2 * n * k
  | 0 => Nat.zero_le _
  | k + 1 => by
    have ih := duos_len n v g k
    have := envd_len n v g k
    rw [duos_succ, List.length_append, duo_len, Nat.mul_succ]
    omega
theorem envs_of (n : Nat) (v : List Int) (g : List Nat) : ∀ k : Nat, (((List.range k).flatMap fun i => (envd n v g i).map fun j => (i, j)).length = much n v g k) ∧ (((List.range k).flatMap fun i => (envd n v g i).map fun j => (i, j)).flatMap fun p => [(p.1 : Int), (p.2 : Int)]) = duos n v g k
  | 0 => ⟨rfl, rfl⟩
  | k + 1 => by
    obtain ⟨h1, h2⟩ := envs_of n v g k
    rw [much_succ, duos_succ, List.range_succ, List.flatMap_append, List.length_append, List.flatMap_append, h1, h2]
    constructor
    · simp
    · congr 1
      unfold duo
      simp [List.flatMap_map]
theorem envies_yes {n : Nat} {v : List Int} {g : List Nat} (h : told n v = true) (ho : Ks565.okGroups ⟨n, v⟩ g = true) : PyKs568.envies n v (zs g) = [(much n v g n : Int)] ++ duos n v g n := by
  have hg := (ok_groups ho).1
  rw [envies_eq, zs_back]
  show Ks568Neutral.out (Ks565.inGroups n v g _) = _
  unfold Ks565.inGroups Ks565.folk
  rw [told_folk h]
  show Ks568Neutral.out (if Ks565.okGroups ⟨n, v⟩ g = true then _ else _) = _
  rw [if_pos ho]
  show ((Ks568.envies ⟨n, v⟩ (Ks565.tidy g)).length : Int) :: ((Ks568.envies ⟨n, v⟩ (Ks565.tidy g)).flatMap fun p => [(p.1 : Int), (p.2 : Int)]) = _
  rw [envies_tidy (t := ⟨n, v⟩) hg]
  obtain ⟨h1, h2⟩ := envs_of n v g n
  have e : Ks568.envies ⟨n, v⟩ g = (List.range n).flatMap fun i => (envd n v g i).map fun j => (i, j) := rfl
  rw [e, h1, h2]
  rfl
theorem scEnvies : FnScope ["n", "worth", "groups", "many", "twos", "person", "envied", "other"] ["n", "worth", "groups"] (defScope sEnvies) := ⟨rfl, rfl, rfl, by decide +kernel, rfl, by decide +kernel, by decide +kernel⟩
theorem ok_envies {f f1 f2 f3 : Addr} {fd fd1 fd2 fd3 : FuncData} {k : Nat} {t1 : Tok} (F : Fun K "envies" "envies" sEnvies f fd)
    (F1 : Fun K "is_as_told" "is_as_told" sTold f1 fd1) (b1 : Binds K fd1 ["n", "worth"] []) (g1 : mg "is_as_told" = some (.ref f1)) (G1 : FnOk P w K mg base CX0 (k + 3) f1 fd1 ["n", "worth"] (spTold K))
    (F2 : Fun K "is_group_of_each" "is_group_of_each" sGrps f2 fd2) (b2 : Binds K fd2 ["n", "groups"] []) (g2 : mg "is_group_of_each" = some (.ref f2)) (G2 : FnOk P w K mg base CX0 (k + 3) f2 fd2 ["n", "groups"] (spGrps K))
    (F3 : Fun K "those_envied" "those_envied" sThose f3 fd3) (b3 : Binds K fd3 ["n", "worth", "groups", "person"] []) (g3 : mg "those_envied" = some (.ref f3)) (G3 : FnOk P w K mg base CX0 (k + 3) f3 fd3 ["n", "worth", "groups", "person"] (spThose K))
    (mr : mg "range" = none) (ml : mg "len" = none) (m1 : mg "REFUSED" = some (.int (-22) t1)) : FnOk P w K mg base CX0 (k + 4) f fd ["n", "worth", "groups"] (spEnvies K) := by
  refine F.ok scEnvies (fun vs H Q E h => ?_) (fun cdv A outer s H vs Q E hr h => ?_)
  · obtain ⟨a, b, n, v, g, rfl, _⟩ := h
    rfl
  · obtain ⟨a, b, n, v, g, rfl, hA, hB, hn, hv, hgl, q⟩ := h
    rw [zs_len] at hgl
    refine ⟨_, pss_cons (ps_if (PW.pt (pw_or (pt_not (pt_val (pe_call G1 hr (by rfl) g1 F1.kp b1 .nil pass0 (pa_cons (pv 0) (pa_cons (pv 1) pa_nil))))) (pw_or1 (pt_not (pt_val (pe_call G2 hr (by rfl) g2 F2.kp b2 .nil pass0 (pa_cons (pv 0) (pa_cons (pv 2) pa_nil))))))))
        (pss_one (ps_ret (pe_lst (pa_cons (pe_glob (v := .int (-22)) (by rfl) m1 ⟨_, rfl⟩) pa_nil)))) pss_nil)
      (pss_cons (ps_set (i := 3) scEnvies.nd rfl (.inl rfl) pe_int)
      (pss_cons (ps_set (i := 4) scEnvies.nd rfl (.inl rfl) (pe_lst pa_nil))
      (pss_cons (ps_for PassesOwn.never rfl (pi_range1 (by rfl) mr (pa_cons (pv 0) pa_nil)) (pg_name (i := 5) scEnvies.nd rfl (.inl rfl))
        (pss_cons (ps_set (i := 6) scEnvies.nd rfl (.inl rfl) (pe_call G3 hr (by rfl) g3 F3.kp b3 .nil pass0 (pa_cons (pv 0) (pa_cons (pv 1) (pa_cons (pv 2) (pa_cons (pv 5) pa_nil))))))
        (pss_cons (ps_aug (i := 3) scEnvies.nd rfl (.inl rfl) (pe_callB call_len_seq (by rfl) ml PySem.boot_len (pa_cons (pv 6) pa_nil)) ip_add)
        (pss_one (ps_for PassesOwn.never rfl (pi_list (pv 6)) (pg_name (i := 7) scEnvies.nd rfl (.inl rfl))
          (pss_one (ps_expr (pe_bm PySem.F.plainAttrs_list PySem.F.slot_list_extend PySem.F.type_list_extend mt_extend (pv 4) (pa_cons (pe_lst (pa_cons (pv 5) (pa_cons (pv 7) pa_nil))) pa_nil)))))))))
      (pss_one (ps_ret (pe_op op_cat (pe_lst (pa_cons (pv 3) pa_nil)) (pv 4))))))), ?_⟩
    refine ⟨.int (n : Int), rfl, .ref a, rfl, a, n, v, rfl, hA, hn, hv, fun H1 s1 => ⟨_, rfl, ?_⟩⟩
    cases et : told n v with
    | false =>
      refine ⟨Nat.le_of_lt (room (by show 1 ≤ 1000; omega)), fun p np => q _ p ?_⟩
      rw [upd_same, envies_no (.inl et)]
      rfl
    | true =>
      obtain ⟨h1, h2, h3, _⟩ := told_iff.mp et
      refine ⟨.int (n : Int), rfl, .ref b, rfl, b, n, v, g, rfl, s1.seq hB, hgl, fun H1' s1' => ⟨_, rfl, ?_⟩⟩
      cases eo : Ks565.okGroups ⟨n, v⟩ g with
      | false =>
        refine ⟨Nat.le_of_lt (room (by show 1 ≤ 1000; omega)), fun p np => q _ p ?_⟩
        rw [upd_same, envies_no (.inr eo)]
        rfl
      | true =>
      have hg := (ok_groups eo).1
      have s1 := s1.trans s1'
      refine ⟨Nat.zero_le _, fun D nD => ?_⟩
      have sD := same_upd (o := HO.lst []) nD
      have bound : ∀ i, i ≤ n → (duos n v g i).length ≤ 50 := fun i hi => by
        have d1 := duos_len n v g i
        have d2 : 2 * n * i ≤ 2 * 5 * 5 := Nat.mul_le_mul (by omega) (by omega)
        omega
      refine ⟨.int (n : Int), rfl, _, rfl, by omega, by omega, for_range (lo := 0) (n := ((n : Nat) : Int).toNat) (fun i σ H' => ∃ y5 y6 y7, σ = [some (.int (n : Int)), some (.ref a), some (.ref b), some (.int (much n v g i : Nat)), some (.ref D), y5, y6, y7] ∧ Same H1' H' ∧ H' D = some (.lst (vi (duos n v g i))))
        ⟨none, none, none, rfl, sD, upd_same⟩ ?_ ?_⟩
      · rintro i σ H2 hi ⟨y5, y6, y7, rfl, s2, hD⟩
        have hi' : i < n := by omega
        refine ⟨.int (n : Int), rfl, .ref a, rfl, .ref b, rfl, .int (0 + (i : Int)), rfl, a, b, n, i, v, g, by rw [Int.zero_add]; rfl, (s1.trans s2).seq hA, (s1.trans s2).seq hB, h2, h3, hg, hi', fun H3 p3 s3 n3 hp3 => ?_⟩
        have hp3 : H3 p3 = some (.lst (vi (zs (envd n v g i)))) := hp3
        have ne3 : p3 ≠ D := fun e => by
          rw [e, hD] at n3
          cases n3
        have le : (vi (zs (envd n v g i))).length = (envd n v g i).length := by rw [List.length_map, zs_len]
        have s23 := s2.trans s3
        have hD3 := s3 _ _ hD
        have eln := envd_len n v g i
        have bi := bound i (by omega)
        refine ⟨_, rfl, .ref p3, rfl, p3, _, rfl, .inl (SqL.of hp3), _, _, rfl, rfl, .ref p3, rfl, p3, rfl, ⟨_, SqL.of hp3⟩, for_list (K := K) (a := p3) (xs := vi (zs (envd n v g i))) (fun t σ H' => ∃ z7, σ = [some (.int (n : Int)), some (.ref a), some (.ref b), some (.int (much n v g (i + 1) : Nat)), some (.ref D), some (.int (0 + (i : Int))), some (.ref p3), z7] ∧ Same H1' H' ∧ H' p3 = some (.lst (vi (zs (envd n v g i)))) ∧ H' D = some (.lst (vi (duos n v g i ++ duo i ((envd n v g i).take t)))))
          ⟨y7, ?_, s23, hp3, ?_⟩ (fun t σ H' _ ⟨_, _, _, h, _⟩ => SqL.of h) ?_ ?_⟩
        · rw [le, much_succ, Int.natCast_add]
          rfl
        · rw [hD3]
          show _ = some (HO.lst (vi (duos n v g i ++ [])))
          rw [List.append_nil]
        · rintro t y σ H4 ht ⟨z7, rfl, s4, hp4, hD4⟩
          obtain ⟨j, hj, rfl⟩ := zs_get ht
          refine ⟨.ref D, rfl, .inl ⟨rfl, _, SqL.of hD4⟩, .int (0 + (i : Int)), rfl, .int (j : Int), rfl, Nat.le_of_lt (room (by show 2 ≤ 1000; omega)), fun p5 n5 => ?_⟩
          have s5 := same_upd (o := HO.lst [V.int (0 + (i : Int)), V.int (j : Int)]) n5
          refine ⟨D, p5, _, _, rfl, rfl, s5 _ _ hD4, upd_same, ?_, _, rfl, same_upd' nD (s4.trans s5), ?_, ?_⟩
          · rw [List.length_map, List.length_append, duo_len, List.length_take]
            exact Nat.le_of_lt (room (by show (duos n v g i).length + 2 * min t (envd n v g i).length + 2 ≤ 1000; omega))
          · rw [upd_ne ne3]
            exact s5 _ _ hp4
          · rw [upd_same, take_snoc hj, duo_snoc, ← List.append_assoc, Int.zero_add]
            unfold vi
            rw [List.map_append (l₂ := [(i : Int), (j : Int)])]
            rfl
        · rintro σ H4 ⟨z7, rfl, s4, hp4, hD4⟩
          rw [le, List.take_length, ← duos_succ] at hD4
          exact ⟨_, _, _, rfl, s4, hD4⟩
      · rintro σ H2 ⟨y5, y6, y7, rfl, s2, hD⟩
        rw [Int.toNat_natCast] at hD ⊢
        refine ⟨_, rfl, Nat.le_of_lt (room (by show 1 ≤ 1000; omega)), fun p3 n3 => ?_⟩
        have s3 := same_upd (o := HO.lst [V.int (much n v g n : Nat)]) n3
        refine ⟨.ref D, rfl, p3, D, _, _, rfl, rfl, upd_same, s3 _ _ hD, ?_, fun p4 n4 => q _ p4 ?_⟩
        · rw [List.length_map]
          have := bound n (Nat.le_refl _)
          exact Nat.le_of_lt (room (by show 1 + (duos n v g n).length ≤ 1000; omega))
        · rw [upd_same, envies_yes et eo]
          unfold vi
          rw [List.map_append]
          rfl

end
theorem all_mk {P : Program} {w : World} {K : PySem.W.Frag} {h : Heap} {mg : Str → Option Value} {fa f1 f2 f3 f4 f5 f6 f7 : Addr} (X : K.In h) (G : h.Ns mainGlobals mg) (hfa : mg "envies" = some (.ref fa))
    {od1 an1 od2 an2 od3 an3 od4 an4 od5 an5 od6 an6 od7 an7 : Option Addr} {sl1 sl2 sl3 sl4 sl5 sl6 sl7 : Array (Option Value)} {oc1 kV1 dc1 pm1 cd1 ct1 oc2 kV2 dc2 pm2 cd2 ct2 oc3 kV3 dc3 pm3 cd3 ct3 oc4 kV4 dc4 pm4 cd4 ct4 oc5 kV5 dc5 pm5 cd5 ct5 oc6 kV6 dc6 pm6 cd6 ct6 oc7 kV7 dc7 pm7 cd7 ct7 : Value} {tMOST_PEOPLE tMOST_WORTH tREFUSED : Tok}
    (a1 : PySem.W.nsIn K mainGlobals "envies" = some (some (.ref f1))) (l1 : K.lookup f1 = some ⟨oc1, od1, .func (PySem.W.fnOf "envies" "envies" (defArgs sEnvies) (defBody sEnvies) (defScope sEnvies) .none kV1 dc1 pm1 an1 cd1 ct1), sl1⟩) (c1 : PySem.W.codeIn K cd1 "envies" = true) (k1 : PySem.W.keepIn K (.ref f1) = true)
    (a2 : PySem.W.nsIn K mainGlobals "is_as_told" = some (some (.ref f2))) (l2 : K.lookup f2 = some ⟨oc2, od2, .func (PySem.W.fnOf "is_as_told" "is_as_told" (defArgs sTold) (defBody sTold) (defScope sTold) .none kV2 dc2 pm2 an2 cd2 ct2), sl2⟩) (c2 : PySem.W.codeIn K cd2 "is_as_told" = true) (k2 : PySem.W.keepIn K (.ref f2) = true)
    (a3 : PySem.W.nsIn K mainGlobals "is_group_of_each" = some (some (.ref f3))) (l3 : K.lookup f3 = some ⟨oc3, od3, .func (PySem.W.fnOf "is_group_of_each" "is_group_of_each" (defArgs sGrps) (defBody sGrps) (defScope sGrps) .none kV3 dc3 pm3 an3 cd3 ct3), sl3⟩) (c3 : PySem.W.codeIn K cd3 "is_group_of_each" = true) (k3 : PySem.W.keepIn K (.ref f3) = true)
    (a4 : PySem.W.nsIn K mainGlobals "members_of" = some (some (.ref f4))) (l4 : K.lookup f4 = some ⟨oc4, od4, .func (PySem.W.fnOf "members_of" "members_of" (defArgs sMembers) (defBody sMembers) (defScope sMembers) .none kV4 dc4 pm4 an4 cd4 ct4), sl4⟩) (c4 : PySem.W.codeIn K cd4 "members_of" = true) (k4 : PySem.W.keepIn K (.ref f4) = true)
    (a5 : PySem.W.nsIn K mainGlobals "has_with" = some (some (.ref f5))) (l5 : K.lookup f5 = some ⟨oc5, od5, .func (PySem.W.fnOf "has_with" "has_with" (defArgs sHas) (defBody sHas) (defScope sHas) .none kV5 dc5 pm5 an5 cd5 ct5), sl5⟩) (c5 : PySem.W.codeIn K cd5 "has_with" = true) (k5 : PySem.W.keepIn K (.ref f5) = true)
    (a6 : PySem.W.nsIn K mainGlobals "those_envied" = some (some (.ref f6))) (l6 : K.lookup f6 = some ⟨oc6, od6, .func (PySem.W.fnOf "those_envied" "those_envied" (defArgs sThose) (defBody sThose) (defScope sThose) .none kV6 dc6 pm6 an6 cd6 ct6), sl6⟩) (c6 : PySem.W.codeIn K cd6 "those_envied" = true) (k6 : PySem.W.keepIn K (.ref f6) = true)
    (a7 : PySem.W.nsIn K mainGlobals "does_envy" = some (some (.ref f7))) (l7 : K.lookup f7 = some ⟨oc7, od7, .func (PySem.W.fnOf "does_envy" "does_envy" (defArgs sEnvy) (defBody sEnvy) (defScope sEnvy) .none kV7 dc7 pm7 an7 cd7 ct7), sl7⟩) (c7 : PySem.W.codeIn K cd7 "does_envy" = true) (k7 : PySem.W.keepIn K (.ref f7) = true)
    (mMOST_PEOPLE : PySem.W.nsIn K mainGlobals "MOST_PEOPLE" = some (some (.int 5 tMOST_PEOPLE))) (mMOST_WORTH : PySem.W.nsIn K mainGlobals "MOST_WORTH" = some (some (.int 20 tMOST_WORTH))) (mREFUSED : PySem.W.nsIn K mainGlobals "REFUSED" = some (some (.int (-22) tREFUSED)))
    (zlen : PySem.W.nsIn K mainGlobals "len" = some none) (zall : PySem.W.nsIn K mainGlobals "all" = some none) (zabs : PySem.W.nsIn K mainGlobals "abs" = some none) (zrange : PySem.W.nsIn K mainGlobals "range" = some none) (zsum : PySem.W.nsIn K mainGlobals "sum" = some none) :
    ∃ fd : FuncData, (∀ (s : Shared) (us : List Value), us.length = (["n", "worth", "groups"] : List Str).length → BindsTo s fd ⟨us, []⟩ ((["n", "worth", "groups"] : List Str).zip us)) ∧ ∀ base : Heap, K.In base → base.Ns mainGlobals mg → FnOk P w K mg base CX0 4 fa fd ["n", "worth", "groups"] (spEnvies K) := by
  have e := hfa.symm.trans (PySem.W.mg_of X G a1)
  cases e
  have F1 := fun_mk (st := sEnvies) l1 c1 k1
  have F2 := fun_mk (st := sTold) l2 c2 k2
  have F3 := fun_mk (st := sGrps) l3 c3 k3
  have F4 := fun_mk (st := sMembers) l4 c4 k4
  have F5 := fun_mk (st := sHas) l5 c5 k5
  have F6 := fun_mk (st := sThose) l6 c6 k6
  have F7 := fun_mk (st := sEnvy) l7 c7 k7
  have b2 := F2.binds (ps := ["n", "worth"]) fun _ _ _ _ _ _ us hl => match us, hl with | [_, _], _ => rfl
  have g2 := PySem.W.mg_of X G a2
  have b3 := F3.binds (ps := ["n", "groups"]) fun _ _ _ _ _ _ us hl => match us, hl with | [_, _], _ => rfl
  have g3 := PySem.W.mg_of X G a3
  have b4 := F4.binds (ps := ["way", "number"]) fun _ _ _ _ _ _ us hl => match us, hl with | [_, _], _ => rfl
  have g4 := PySem.W.mg_of X G a4
  have b5 := F5.binds (ps := ["n", "worth", "person", "members"]) fun _ _ _ _ _ _ us hl => match us, hl with | [_, _, _, _], _ => rfl
  have g5 := PySem.W.mg_of X G a5
  have b6 := F6.binds (ps := ["n", "worth", "groups", "person"]) fun _ _ _ _ _ _ us hl => match us, hl with | [_, _, _, _], _ => rfl
  have g6 := PySem.W.mg_of X G a6
  have b7 := F7.binds (ps := ["n", "worth", "groups", "person", "other"]) fun _ _ _ _ _ _ us hl => match us, hl with | [_, _, _, _, _], _ => rfl
  have g7 := PySem.W.mg_of X G a7
  have ylen := PySem.W.mg_none_of X G zlen
  have yall := PySem.W.mg_none_of X G zall
  have yabs := PySem.W.mg_none_of X G zabs
  have yrange := PySem.W.mg_none_of X G zrange
  have ysum := PySem.W.mg_none_of X G zsum
  have yMOST_PEOPLE := PySem.W.mg_of X G mMOST_PEOPLE
  have yMOST_WORTH := PySem.W.mg_of X G mMOST_WORTH
  have yREFUSED := PySem.W.mg_of X G mREFUSED
  refine ⟨PySem.W.fnOf "envies" "envies" (defArgs sEnvies) (defBody sEnvies) (defScope sEnvies) .none kV1 dc1 pm1 an1 cd1 ct1, fun s us hu => match us, hu with | [_, _, _], _ => .of_eq rfl, fun base _ _ => ?_⟩
  have G2_3 := ok_told (P := P) (w := w) (base := base) (k := 2) F2 ylen yall yabs yMOST_PEOPLE yMOST_WORTH
  have G3_3 := ok_grps (P := P) (w := w) (base := base) (k := 2) F3 ylen yall
  have G4_1 := ok_members (P := P) (w := w) (base := base) (k := 0) F4 yrange ylen
  have G5_1 := ok_has (P := P) (w := w) (base := base) (k := 0) F5 ysum
  have G7_2 := ok_envy (P := P) (w := w) (base := base) (k := 0) F7 F4 b4 g4 G4_1 F5 b5 g5 G5_1
  have G6_3 := ok_those (P := P) (w := w) (base := base) (k := 0) F6 F7 b7 g7 G7_2 yrange
  have G1_4 := ok_envies (P := P) (w := w) (base := base) (k := 0) F1 F2 b2 g2 G2_3 F3 b3 g3 G3_3 F6 b6 g6 G6_3 yrange ylen yREFUSED
  exact G1_4
end Cir
open PySem PySem.W PyProof.Rows
set_option maxRecDepth 100000 in
set_option maxHeartbeats 0 in
theorem PySem.Challenge.cw_circles_s05_envies_holds : PySem.Challenge.rw_circles_s05_envies.Holds := by
  w_on; k_headS; (case hw => exact ⟨[.int 0, .list [], .list []], by decide +kernel, by decide +kernel⟩)
  k_fillS
  refine L2.walk_specK (r := PySem.Challenge.rw_circles_s05_envies) (k := 4) (CX := L2.CX0) (ps := ["n", "worth", "groups"]) (sp := Cir.spEnvies) (by decide +kernel) rfl rfl ⟨rfl, by decide, by decide⟩ (fun w h Y => PySem.W.kIn_of Y) ?F ?S (fun _ _ _ _ z => z)
  case F =>
    intro w mg fa h Y KX G hmg
    refine' Cir.all_mk KX G hmg ?a1 ?l1 ?c1 ?k1 ?a2 ?l2 ?c2 ?k2 ?a3 ?l3 ?c3 ?k3 ?a4 ?l4 ?c4 ?k4 ?a5 ?l5 ?c5 ?k5 ?a6 ?l6 ?c6 ?k6 ?a7 ?l7 ?c7 ?k7 ?mMOST_PEOPLE ?mMOST_WORTH ?mREFUSED ?zlen ?zall ?zabs ?zrange ?zsum
    (case a1 => k_is); (case l1 => k_is); (case c1 => k_is); (case k1 => k_is); (case a2 => k_is); (case l2 => k_is); (case c2 => k_is); (case k2 => k_is); (case a3 => k_is); (case l3 => k_is); (case c3 => k_is); (case k3 => k_is)
    (case a4 => k_is); (case l4 => k_is); (case c4 => k_is); (case k4 => k_is); (case a5 => k_is); (case l5 => k_is); (case c5 => k_is); (case k5 => k_is); (case a6 => k_is); (case l6 => k_is); (case c6 => k_is); (case k6 => k_is)
    (case a7 => k_is); (case l7 => k_is); (case c7 => k_is); (case k7 => k_is); (case mMOST_PEOPLE => k_is); (case mMOST_WORTH => k_is); (case mREFUSED => k_is); (case zlen => k_is); (case zall => k_is); (case zabs => k_is); (case zrange => k_is); (case zsum => k_is)
  case S =>
    intro K H xs a hO hwi hask hx
    obtain ⟨x1, x2, x3, u⟩ := a
    have q : (PySem.W.Codec.inInt 0 4294967295 x1 && ((PySem.W.Codec.inLen 0 27 x2 && x2.all (PySem.W.Codec.inInt (-2147483648) 2147483647)) && ((PySem.W.Codec.inLen 0 7 x3 && x3.all (PySem.W.Codec.inInt 0 4294967295)) && true))) = true := hwi
    obtain ⟨v1, r1, rfl, h1, g1⟩ := Cir.dw_cons hx
    have e1 := Cir.dw_int_inv h1
    subst e1
    obtain ⟨q1, q⟩ := Cir.in_int q
    obtain ⟨v2, r2, rfl, h2, g2⟩ := Cir.dw_cons g1
    obtain ⟨a2, w2, rfl, s2, d2⟩ := Cir.dw_list_inv h2
    have e2 := L2.ints_dw x2 _ d2
    subst e2
    obtain ⟨l2, m2, q⟩ := Cir.in_list q
    obtain ⟨v3, r3, rfl, h3, g3⟩ := Cir.dw_cons g2
    obtain ⟨a3, w3, rfl, s3, d3⟩ := Cir.dw_list_inv h3
    have e3 := L2.ints_dw x3 _ d3
    subst e3
    obtain ⟨l3, m3, q⟩ := Cir.in_list q
    have ex := Cir.dw_nil g3
    subst ex
    obtain ⟨x1, rfl⟩ : ∃ m : Nat, x1 = (m : Int) := Int.eq_ofNat_of_zero_le q1.1
    obtain ⟨x3, rfl⟩ := Cir.zs_of fun x hx => (m3 x hx).1
    exact ⟨_, _, x1, x2, x3, rfl, s2, s3, by omega, l2, l3, fun H' p hp => .lst (L2.SqL.of hp) (L2.dw_ints _)⟩
#print axioms PySem.Challenge.cw_circles_s05_envies_holds

import PyProof.Rows.All
import Wide.All
import OpenK.AllK
import Wide.FinOn
import Open.SpecLaws
import KE.OsHead
import KE.OsGo
import KE.DatumOrd
import HandS.Base
import HandS.Call
import HandS.List
import HandS.Ends
import HandS.Spec
import HandS.Words
import HandS.WordsList
import HandS.Comp
import HandS.SortKw
import PySem.Challenge.RW_circles_s06_price
set_option Elab.async false
set_option maxRecDepth 100000
set_option maxHeartbeats 4000000
namespace Cir
section
open Ks565
/-! ### the mathematics -/
/-- numbers told as ints -/
abbrev zs (l : List Nat) : List Int := l.map Int.ofNat
def cnt (g : List Nat) : Nat := (g.map (· + 1)).foldl max 0
theorem fmax : ∀ (l : List Nat) (a : Nat), a ≤ l.foldl max a ∧ (∀ x ∈ l, x ≤ l.foldl max a) ∧ (l.foldl max a = a ∨ l.foldl max a ∈ l)
  | [], a => ⟨Nat.le_refl _, by simp, .inl rfl⟩
  | x :: r, a => by
    obtain ⟨h1, h2, h3⟩ := fmax r (max a x)
    rw [List.foldl_cons]
    refine ⟨by omega, fun y hy => ?_, ?_⟩
    · rcases List.mem_cons.mp hy with rfl | hy
      · omega
      · exact h2 y hy
    · rcases h3 with h3 | h3
      · rw [h3]
        by_cases hx : x ≤ a
        · left; omega
        · right; rw [show max a x = x by omega]; exact List.mem_cons_self ..
      · exact .inr (List.mem_cons_of_mem _ h3)
theorem cnt_of_max {g : List Nat} {m : Nat} (h1 : m ∈ g) (h2 : ∀ x ∈ g, x ≤ m) : cnt g = m + 1 := by
  obtain ⟨q1, q2, q3⟩ := fmax (g.map (· + 1)) 0
  unfold cnt
  have a1 := q2 (m + 1) (List.mem_map.mpr ⟨m, h1, rfl⟩)
  rcases q3 with q3 | q3
  · omega
  · obtain ⟨y, hy, e⟩ := List.mem_map.mp q3
    have := h2 y hy
    omega
theorem cnt_nil : cnt [] = 0 := rfl
theorem groups_cnt {g : List Nat} (h : g ≠ []) : groups g = cnt g := by
  obtain ⟨q1, q2, q3⟩ := fmax g 0
  have hm : g.foldl max 0 ∈ g := by
    rcases q3 with q3 | q3
    · cases g with
      | nil => exact absurd rfl h
      | cons x r =>
        have := q2 x (List.mem_cons_self ..)
        rw [q3]
        rw [q3] at this
        rw [show x = 0 by omega]
        exact List.mem_cons_self ..
    · exact q3
  unfold groups
  rw [cnt_of_max hm q2]
theorem cnt_le {g : List Nat} {n : Nat} (h : ∀ x ∈ g, x < n) : cnt g ≤ n := by
  obtain ⟨q1, q2, q3⟩ := fmax (g.map (· + 1)) 0
  unfold cnt
  rcases q3 with q3 | q3
  · omega
  · obtain ⟨y, hy, e⟩ := List.mem_map.mp q3
    have := h y hy
    omega
/-- the ways with one more -/
def more (g : List Nat) : List (List Nat) := (List.range (cnt g + 1)).map fun x => g ++ [x]
theorem all_succ (k : Nat) : all (k + 1) = (all k).flatMap more := rfl
theorem all_len : ∀ (k : Nat) (g : List Nat), g ∈ all k → g.length = k
  | 0, g, h => by
    have : g = [] := by simpa [all] using h
    rw [this]; rfl
  | k + 1, g, h => by
    rw [all_succ] at h
    obtain ⟨g', h1, h2⟩ := List.mem_flatMap.mp h
    obtain ⟨x, _, rfl⟩ := List.mem_map.mp h2
    rw [List.length_append, all_len k g' h1]
    rfl
theorem cnt_snoc (g : List Nat) (x : Nat) : cnt (g ++ [x]) = max (cnt g) (x + 1) := by
  unfold cnt
  rw [List.map_append, List.foldl_append]
  rfl
theorem all_cnt : ∀ (k : Nat) (g : List Nat), g ∈ all k → cnt g ≤ k
  | 0, g, h => by
    have : g = [] := by simpa [all] using h
    rw [this]
    exact Nat.le_refl _
  | k + 1, g, h => by
    rw [all_succ] at h
    obtain ⟨g', h1, h2⟩ := List.mem_flatMap.mp h
    obtain ⟨x, hx, rfl⟩ := List.mem_map.mp h2
    have := all_cnt k g' h1
    have := List.mem_range.mp hx
    rw [cnt_snoc]
    omega
theorem all_size {k : Nat} (h : k ≤ 5) : (all k).length ≤ 52 := by
  match k, h with
  | 0, _ => decide
  | 1, _ => decide
  | 2, _ => decide
  | 3, _ => decide
  | 4, _ => decide
  | 5, _ => decide +kernel
  | k + 6, h => omega
theorem all_ne (k : Nat) : all k ≠ [] := by
  induction k with
  | zero => simp [all]
  | succ k ih =>
    rw [all_succ]
    cases e : all k with
    | nil => exact absurd e ih
    | cons g r =>
      rw [List.flatMap_cons]
      unfold more
      simp
theorem take_snoc {α : Type} {l : List α} {i : Nat} {x : α} (h : l[i]? = some x) : l.take (i + 1) = l.take i ++ [x] := by
  rw [List.take_add_one, h]
  rfl
theorem flat_take {α β : Type} (f : α → List β) (l : List α) (i : Nat) : ((l.take i).flatMap f).length ≤ (l.flatMap f).length := by
  have e : l.flatMap f = (l.take i).flatMap f ++ (l.drop i).flatMap f := by
    rw [← List.flatMap_append, List.take_append_drop]
  rw [e, List.length_append]
  omega
theorem fadd : ∀ (l : List Int) (a : Int), l.foldl (· + ·) a = a + l.sum
  | [], a => by simp
  | x :: r, a => by
    rw [List.foldl_cons, fadd r, List.sum_cons]
    omega
theorem fadd0 (l : List Int) : l.foldl (· + ·) 0 = l.sum := by rw [fadd]; omega
/-- what has_with adds up -/
def picks (n : Nat) (v : List Int) (i : Nat) (s : List Nat) : List Int := (s.filter fun j => decide (¬ j = i)).map fun j => v.getD (i * n + j) 0
theorem picks_sum (n : Nat) (v : List Int) (i : Nat) : ∀ s : List Nat, (picks n v i s).sum = with_ ⟨n, v⟩ i s
  | [] => rfl
  | j :: r => by
    have ih := picks_sum n v i r
    unfold with_ at ih ⊢
    rw [fadd0] at ih ⊢
    rw [List.map_cons, List.sum_cons, ← ih]
    unfold picks likes
    by_cases h : j = i
    · subst h
      rw [List.filter_cons, if_neg (by simp)]
      simp
    · rw [List.filter_cons, if_pos (by simp [h]), List.map_cons, List.sum_cons, if_neg (fun e => h e.symm)]
theorem picks_snoc (n : Nat) (v : List Int) (i : Nat) (s : List Nat) (j : Nat) : picks n v i (s ++ [j]) = if j = i then picks n v i s else picks n v i s ++ [v.getD (i * n + j) 0] := by
  unfold picks
  rw [List.filter_append, List.map_append]
  by_cases h : j = i
  · rw [if_pos h, List.filter_cons, if_neg (by simp [h])]
    simp
  · rw [if_neg h, List.filter_cons, if_pos (by simp [h])]
    simp
theorem picks_len (n : Nat) (v : List Int) (i : Nat) (s : List Nat) : (picks n v i s).length ≤ s.length := by
  unfold picks
  rw [List.length_map]
  exact List.length_filter_le _ _
theorem members_lt {g : List Nat} {k j : Nat} (h : j ∈ members g k) : j < g.length := by
  unfold members at h
  exact List.mem_range.mp (List.mem_filter.mp h).1
theorem members_len (g : List Nat) (k : Nat) : (members g k).length ≤ g.length := by
  unfold members
  have := List.length_filter_le (fun i => g.getD i 0 == k) (List.range g.length)
  rwa [List.length_range] at this
theorem least_of {l : List Int} {m : Int} (h1 : m ∈ l) (h2 : ∀ a ∈ l, m ≤ a) : Ks568.least l = m := by
  have fm : ∀ (l : List Int) (a : Int), l.foldl min a ≤ a ∧ (∀ x ∈ l, l.foldl min a ≤ x) ∧ (l.foldl min a = a ∨ l.foldl min a ∈ l) := by
    intro l
    induction l with
    | nil => intro a; exact ⟨Int.le_refl _, by simp, .inl rfl⟩
    | cons x r ih =>
      intro a
      obtain ⟨q1, q2, q3⟩ := ih (min a x)
      rw [List.foldl_cons]
      refine ⟨by omega, fun y hy => ?_, ?_⟩
      · rcases List.mem_cons.mp hy with rfl | hy
        · omega
        · exact q2 y hy
      · rcases q3 with q3 | q3
        · rw [q3]
          by_cases hx : a ≤ x
          · left; omega
          · right; rw [show min a x = x by omega]; exact List.mem_cons_self ..
        · exact .inr (List.mem_cons_of_mem _ q3)
  cases l with
  | nil => cases h1
  | cons x r =>
    show r.foldl min x = m
    obtain ⟨q1, q2, q3⟩ := fm r x
    have a1 : r.foldl min x ≤ m := by
      rcases List.mem_cons.mp h1 with rfl | h
      · exact q1
      · exact q2 m h
    have a2 : m ≤ r.foldl min x := by
      rcases q3 with q3 | q3
      · rw [q3]; exact h2 _ (List.mem_cons_self ..)
      · exact h2 _ (List.mem_cons_of_mem _ q3)
    omega
theorem total_sum (t : Folk) (g : Groups) : Ks567.total t g = (Ks568.worths t g).sum := fadd0 _
/-- what measure gives -/
def meas (k : Nat) (l : List Int) : Int := if k = 0 then l.sum else Ks568.least l
theorem value_meas (t : Folk) (k : Nat) (g : Groups) : Ks568.value t k g = meas k (Ks568.worths t g) := by
  unfold Ks568.value meas
  rw [total_sum]
/-- one turn of the choice -/
def pick (t : Folk) (k : Nat) (b h : Groups) : Groups := if Ks568.value t k b < Ks568.value t k h then h else b
theorem best_fold (t : Folk) (k : Nat) (g : Groups) (r : List Groups) : Ks568.best t k (g :: r) = some ((g :: r).foldl (pick t k) g) := by
  rw [List.foldl_cons, show pick t k g g = g by unfold pick; split <;> rfl]
  rfl
theorem folk_some {n : Nat} {v : List Int} (h1 : 1 ≤ n) (h2 : n ≤ 5) (h3 : v.length = n * n) (h4 : ∀ x ∈ v, x.natAbs ≤ 20) : folkOf n v = some ⟨n, v⟩ := by
  unfold folkOf
  rw [if_neg]
  rintro (h | h | h | h)
  · omega
  · unfold PEOPLE at h; omega
  · exact h h3
  · obtain ⟨x, hx, e⟩ := List.any_eq_true.mp h
    have := h4 x hx
    have e := of_decide_eq_true e
    unfold MOST at e
    omega
theorem folk_none {n : Nat} {v : List Int} (h : n < 1 ∨ 5 < n ∨ v.length ≠ n * n ∨ ∃ x ∈ v, 20 < x.natAbs) : folkOf n v = none := by
  unfold folkOf
  rw [if_pos]
  rcases h with h | h | h | ⟨x, hx, h⟩
  · exact .inl h
  · exact .inr (.inl h)
  · exact .inr (.inr (.inl h))
  · exact .inr (.inr (.inr (List.any_eq_true.mpr ⟨x, hx, decide_eq_true h⟩)))
/-- n and worth are as told -/
def told (n : Nat) (v : List Int) : Bool := (folkOf n v).isSome
theorem told_iff {n : Nat} {v : List Int} : told n v = true ↔ (1 ≤ n ∧ n ≤ 5 ∧ v.length = n * n ∧ ∀ x ∈ v, x.natAbs ≤ 20) := by
  unfold told
  constructor
  · intro h
    by_cases c : n < 1 ∨ 5 < n ∨ v.length ≠ n * n ∨ ∃ x ∈ v, 20 < x.natAbs
    · rw [folk_none c] at h; cases h
    · refine ⟨by omega, by omega, ?_, fun x hx => ?_⟩
      · apply Decidable.byContradiction
        intro e
        exact c (.inr (.inr (.inl e)))
      · apply Decidable.byContradiction
        intro e
        exact c (.inr (.inr (.inr ⟨x, hx, by omega⟩)))
  · rintro ⟨h1, h2, h3, h4⟩
    rw [folk_some h1 h2 h3 h4]
    rfl
theorem told_folk {n : Nat} {v : List Int} (h : told n v = true) : folkOf n v = some ⟨n, v⟩ := by
  obtain ⟨h1, h2, h3, h4⟩ := told_iff.mp h
  exact folk_some h1 h2 h3 h4
theorem told_not {n : Nat} {v : List Int} (h : told n v = false) : folkOf n v = none := by
  unfold told at h
  cases e : folkOf n v with
  | none => rfl
  | some t => rw [e] at h; cases h
theorem best_mem {t : Folk} {k : Nat} : ∀ {L : List Groups} {g : Groups}, Ks568.best t k L = some g → g ∈ L
  | [], g, h => by cases h
  | x :: r, g, h => by
    have fm : ∀ (l : List Groups) (b : Groups), l.foldl (pick t k) b = b ∨ l.foldl (pick t k) b ∈ l := by
      intro l
      induction l with
      | nil => intro b; exact .inl rfl
      | cons y s ih =>
        intro b
        rw [List.foldl_cons]
        rcases ih (pick t k b y) with e | e
        · rw [e]
          unfold pick
          split
          · exact .inr (List.mem_cons_self ..)
          · exact .inl rfl
        · exact .inr (List.mem_cons_of_mem _ e)
    rw [best_fold] at h
    have e := Option.some.inj h
    subst e
    rcases fm (x :: r) x with e | e
    · rw [e]
      exact List.mem_cons_self ..
    · exact e
theorem best_some {t : Folk} {k : Nat} {L : List Groups} (h : L ≠ []) : ∃ g, Ks568.best t k L = some g := by
  cases L with
  | nil => exact absurd rfl h
  | cons x r => exact ⟨_, rfl⟩

/-! ### kinds of rest -/
/-- nobody of m would have less by i -/
def welc (n : Nat) (v : List Int) (i : Nat) (m : List Nat) : Bool := m.all fun j => decide (0 ≤ v.getD (j * n + i) 0)
/-- nobody of m but i would have less without i -/
def leto (n : Nat) (v : List Int) (i : Nat) (m : List Nat) : Bool := (m.filter fun j => decide (¬ j = i)).all fun j => decide (v.getD (j * n + i) 0 ≤ 0)
/-- what may_go gives -/
def mayv (n : Nat) (v : List Int) (w i : Nat) (left joined : List Nat) : Bool :=
  if with_ ⟨n, v⟩ i joined ≤ with_ ⟨n, v⟩ i left then false else if 1 ≤ w ∧ welc n v i joined = false then false else decide (w < 2) || leto n v i left
theorem leto_is (n : Nat) (v : List Int) (g : List Nat) (i : Nat) : leto n v i (members g (g.getD i 0)) = letGo ⟨n, v⟩ g i := by
  unfold leto letGo
  rw [Bool.eq_iff_iff, List.all_eq_true, List.all_eq_true]
  constructor
  · intro h j hj
    by_cases e : j = i
    · rw [e]
      simp
    · have := h j (List.mem_filter.mpr ⟨hj, by simp [e]⟩)
      unfold likes
      rw [if_neg e, this]
      simp
  · intro h j hj
    obtain ⟨h1, h2⟩ := List.mem_filter.mp hj
    have e : ¬ j = i := by simpa using h2
    have := h j h1
    unfold likes at this
    rw [if_neg e] at this
    simpa [e] using this
theorem welc_is {n : Nat} {v : List Int} {g : List Nat} {i k : Nat} (hk : g.getD i 0 ≠ k) : welc n v i (members g k) = welcome ⟨n, v⟩ g i k := by
  unfold welc welcome
  rw [Bool.eq_iff_iff, List.all_eq_true, List.all_eq_true]
  have ne : ∀ j ∈ members g k, ¬ j = i := fun j hj e => by
    unfold members at hj
    have := beq_iff_eq.mp (List.mem_filter.mp hj).2
    rw [e] at this
    exact hk this
  constructor
  · intro h j hj
    unfold likes
    rw [if_neg (ne j hj)]
    exact h j hj
  · intro h j hj
    have := h j hj
    unfold likes at this
    rw [if_neg (ne j hj)] at this
    exact this
theorem mayv_is {n : Nat} {v : List Int} {w : Nat} {g : List Nat} {i k : Nat} (hw : w ≤ 2) (hk : k ≤ groups g) : mayv n v w i (members g (g.getD i 0)) (members g k) = may ⟨n, v⟩ w g i k := by
  unfold mayv may rather
  rw [leto_is]
  by_cases e : g.getD i 0 = k
  · subst e
    rw [if_pos (Int.le_refl _)]
    simp
  · rw [welc_is e]
    by_cases h : with_ ⟨n, v⟩ i (members g k) ≤ with_ ⟨n, v⟩ i (members g (g.getD i 0))
    · rw [if_pos h]
      have : decide (worth ⟨n, v⟩ g i < with_ ⟨n, v⟩ i (members g k)) = false := by
        unfold worth
        simpa using h
      rw [this]
      simp
    · rw [if_neg h]
      have h2 : decide (worth ⟨n, v⟩ g i < with_ ⟨n, v⟩ i (members g k)) = true := by
        unfold worth
        simpa using h
      rw [h2, show (g.getD i 0 != k) = true by simpa using e, decide_eq_true hk]
      rcases (show w = 0 ∨ w = 1 ∨ w = 2 by omega) with rfl | rfl | rfl
      · simp
      · cases welcome ⟨n, v⟩ g i k <;> simp
      · cases welcome ⟨n, v⟩ g i k <;> simp
theorem rests_iff {t : Folk} {w : Nat} {g : Groups} : rests t w g = true ↔ ∀ i, i < t.n → ∀ k, k < groups g + 1 → may t w g i k = false := by
  unfold rests moves
  rw [List.isEmpty_iff, List.flatMap_eq_nil_iff]
  constructor
  · intro h i hi k hk
    have h1 := List.map_eq_nil_iff.mp (h i (List.mem_range.mpr hi))
    have h2 := List.filter_eq_nil_iff.mp h1 k (List.mem_range.mpr hk)
    simpa using h2
  · intro h i hi
    rw [List.map_eq_nil_iff, List.filter_eq_nil_iff]
    intro k hk
    rw [h i (List.mem_range.mp hi) k (List.mem_range.mp hk)]
    simp
/-- all sets of people, as all_sets makes them -/
def subs : Nat → List (List Nat)
  | 0 => [[]]
  | k + 1 => subs k ++ (subs k).map fun m => m ++ [k]
theorem subs_is {n : Nat} (h : n ≤ 5) : subs n = (List.range (2 ^ n)).map (Ks566.set n) := by
  match n, h with
  | 0, _ => decide +kernel
  | 1, _ => decide +kernel
  | 2, _ => decide +kernel
  | 3, _ => decide +kernel
  | 4, _ => decide +kernel
  | 5, _ => decide +kernel
  | n + 6, h => omega
theorem subs_len : ∀ n : Nat, (subs n).length = 2 ^ n
  | 0 => rfl
  | n + 1 => by
    show (subs n ++ (subs n).map fun m => m ++ [n]).length = _
    rw [List.length_append, List.length_map, subs_len n, Nat.pow_succ]
    omega
theorem subs_lt : ∀ (n : Nat) (m : List Nat), m ∈ subs n → m.length ≤ n ∧ ∀ j ∈ m, j < n
  | 0, m, h => by
    have : m = [] := by simpa [subs] using h
    rw [this]
    exact ⟨Nat.le_refl _, fun j hj => by cases hj⟩
  | n + 1, m, h => by
    rcases List.mem_append.mp h with h | h
    · obtain ⟨h1, h2⟩ := subs_lt n m h
      exact ⟨by omega, fun j hj => Nat.lt_succ_of_lt (h2 j hj)⟩
    · obtain ⟨m', hm, rfl⟩ := List.mem_map.mp h
      obtain ⟨h1, h2⟩ := subs_lt n m' hm
      refine ⟨by rw [List.length_append]; show m'.length + 1 ≤ n + 1; omega, fun j hj => ?_⟩
      rcases List.mem_append.mp hj with hj | hj
      · exact Nat.lt_succ_of_lt (h2 j hj)
      · have : j = n := by simpa using hj
        omega
theorem subs_cons : ∀ n : Nat, subs n = [] :: (subs n).tail
  | 0 => rfl
  | n + 1 => by
    show subs n ++ (subs n).map (fun m => m ++ [n]) = [] :: (subs n ++ (subs n).map fun m => m ++ [n]).tail
    rw [subs_cons n]
    rfl
theorem tail_ne : ∀ (n : Nat) (m : List Nat), m ∈ (subs n).tail → m ≠ []
  | 0, m, h => by cases h
  | n + 1, m, h => by
    have e : (subs (n + 1)).tail = (subs n).tail ++ (subs n).map fun m => m ++ [n] := by
      show (subs n ++ (subs n).map fun m => m ++ [n]).tail = _
      rw [subs_cons n]
      rfl
    rw [e] at h
    rcases List.mem_append.mp h with h | h
    · exact tail_ne n m h
    · obtain ⟨m', _, rfl⟩ := List.mem_map.mp h
      simp
/-- what each of m would gain -/
def gain (n : Nat) (v : List Int) (g : List Nat) (m : List Nat) : List Int := m.map fun i => with_ ⟨n, v⟩ i m - worth ⟨n, v⟩ g i
/-- what would_leave gives -/
def leav (w : Nat) (l : List Int) : Bool := if w = 4 then (l.all fun x => decide (0 ≤ x)) && (l.any fun x => decide (0 < x)) else l.all fun x => decide (0 < x)
theorem holds_is {n : Nat} {v : List Int} {w : Nat} {g : List Nat} (hn : n ≤ 5) (hw : w = 3 ∨ w = 4) :
    Ks566.holds ⟨n, v⟩ (w - 3) g = true ↔ ∀ m ∈ (subs n).tail, leav w (gain n v g m) = false := by
  have key : ∀ s : Nat, s ≠ 0 → (if w - 3 = 0 then Ks566.leaves ⟨n, v⟩ g s else Ks566.leavesWeak ⟨n, v⟩ g s) = leav w (gain n v g (Ks566.set n s)) := by
    intro s hs
    rcases hw with rfl | rfl
    · show Ks566.leaves ⟨n, v⟩ g s = leav 3 _
      unfold Ks566.leaves leav gain
      rw [show (s != 0) = true by simpa using hs, Bool.true_and, if_neg (by decide), List.all_map]
      congr 1
      funext i
      show decide _ = decide _
      rw [decide_eq_decide]
      show worth ⟨n, v⟩ g i < with_ ⟨n, v⟩ i (Ks566.set n s) ↔ 0 < with_ ⟨n, v⟩ i (Ks566.set n s) - worth ⟨n, v⟩ g i
      omega
    · show Ks566.leavesWeak ⟨n, v⟩ g s = leav 4 _
      unfold Ks566.leavesWeak leav gain
      rw [if_pos rfl, List.all_map, List.any_map]
      congr 1
      · congr 1
        funext i
        show decide _ = decide _
        rw [decide_eq_decide]
        show worth ⟨n, v⟩ g i ≤ with_ ⟨n, v⟩ i (Ks566.set n s) ↔ 0 ≤ with_ ⟨n, v⟩ i (Ks566.set n s) - worth ⟨n, v⟩ g i
        omega
      · congr 1
        funext i
        show decide _ = decide _
        rw [decide_eq_decide]
        show worth ⟨n, v⟩ g i < with_ ⟨n, v⟩ i (Ks566.set n s) ↔ 0 < with_ ⟨n, v⟩ i (Ks566.set n s) - worth ⟨n, v⟩ g i
        omega
  have zero : (if w - 3 = 0 then Ks566.leaves ⟨n, v⟩ g 0 else Ks566.leavesWeak ⟨n, v⟩ g 0) = false := by
    have e0 : Ks566.set n 0 = [] := by
      unfold Ks566.set
      simp
    split
    · rfl
    · unfold Ks566.leavesWeak
      show ((Ks566.set n 0).all _ && (Ks566.set n 0).any _) = false
      rw [e0]
      rfl
  have et : (subs n).tail = ((List.range (2 ^ n)).map (Ks566.set n)).tail := by rw [subs_is hn]
  have er : List.range (2 ^ n) = 0 :: (List.range (2 ^ n)).tail := by
    have hp : 0 < 2 ^ n := Nat.two_pow_pos n
    obtain ⟨p, hp⟩ : ∃ p, 2 ^ n = p + 1 := ⟨2 ^ n - 1, by omega⟩
    rw [hp, List.range_succ_eq_map]
    rfl
  unfold Ks566.holds Ks566.by_
  rw [List.isEmpty_iff, List.filter_eq_nil_iff]
  rw [et]
  constructor
  · intro h m hm
    rw [er, List.map_cons, List.tail_cons] at hm
    obtain ⟨s, hs, rfl⟩ := List.mem_map.mp hm
    have hs0 : s ≠ 0 := by
      intro z
      rw [z] at hs
      obtain ⟨p, hp⟩ : ∃ p, 2 ^ n = p + 1 := ⟨2 ^ n - 1, by have := Nat.two_pow_pos n; omega⟩
      rw [hp, List.range_succ_eq_map, List.tail_cons] at hs
      obtain ⟨y, _, hy⟩ := List.mem_map.mp hs
      omega
    have := h s (by rw [show (⟨n, v⟩ : Folk).n = n from rfl, er]; exact List.mem_cons_of_mem _ hs)
    rw [key s hs0] at this
    simpa using this
  · intro h s hs
    by_cases hs0 : s = 0
    · rw [hs0, zero]
      simp
    · rw [key s hs0]
      have hs' : s ∈ (List.range (2 ^ n)).tail := by
        have hs : s ∈ List.range (2 ^ n) := hs
        rw [er] at hs
        rcases List.mem_cons.mp hs with z | z
        · exact absurd z hs0
        · exact z
      rw [h _ (by rw [er, List.map_cons, List.tail_cons]; exact List.mem_map.mpr ⟨s, hs', rfl⟩)]
      simp
/-- of that kind -/
def ofKind (n : Nat) (v : List Int) (w : Nat) (g : List Nat) : Bool := if w < 3 then rests ⟨n, v⟩ w g else Ks566.holds ⟨n, v⟩ (w - 3) g
theorem kind_is (n : Nat) (v : List Int) (w : Nat) : Ks568.kind ⟨n, v⟩ w = (all n).filter (ofKind n v w) := by
  unfold Ks568.kind
  by_cases h : w ≤ 2
  · rw [if_pos h]
    show (all n).filter _ = _
    congr 1
    funext g
    unfold ofKind
    rw [if_pos (by omega)]
  · rw [if_neg h]
    show (all n).filter _ = _
    congr 1
    funext g
    unfold ofKind
    rw [if_neg (by omega)]

/-! ### groups told by other numbers are the same groups -/
/-- the numbers as they first come -/
def firsts (g : List Nat) : List Nat := g.foldl (fun l x => if l.contains x then l else l ++ [x]) []
/-- the place of a number among those -/
def place (l : List Nat) (x : Nat) : Nat := (l.takeWhile fun y => y != x).length
theorem tidy_is (g : List Nat) : tidy g = g.map (place (firsts g)) := rfl
theorem firsts_mem (g : List Nat) : ∀ x ∈ g, x ∈ firsts g := by
  have h : ∀ (g l : List Nat), (∀ x ∈ l, x ∈ g.foldl (fun l x => if l.contains x then l else l ++ [x]) l) ∧ ∀ x ∈ g, x ∈ g.foldl (fun l x => if l.contains x then l else l ++ [x]) l := by
    intro g
    induction g with
    | nil => intro l; exact ⟨fun x hx => hx, fun x hx => by cases hx⟩
    | cons y r ih =>
      intro l
      rw [List.foldl_cons]
      obtain ⟨h1, h2⟩ := ih (if l.contains y then l else l ++ [y])
      have hl : ∀ x ∈ l, x ∈ (if l.contains y then l else l ++ [y]) := fun x hx => by
        split
        · exact hx
        · exact List.mem_append_left _ hx
      refine ⟨fun x hx => h1 x (hl x hx), fun x hx => ?_⟩
      rcases List.mem_cons.mp hx with rfl | hx
      · refine h1 _ ?_
        split
        · rename_i h
          exact List.contains_iff_mem.mp h
        · exact List.mem_append_right _ (List.mem_cons_self ..)
      · exact h2 x hx
  exact (h g []).2
theorem place_at : ∀ {l : List Nat} {x : Nat}, x ∈ l → l[place l x]? = some x
  | [], x, h => by cases h
  | y :: r, x, h => by
    unfold place
    rw [List.takeWhile_cons]
    by_cases e : y = x
    · subst e
      rw [if_neg (by simp)]
      rfl
    · rw [if_pos (by simpa using e)]
      have hx : x ∈ r := by
        rcases List.mem_cons.mp h with z | z
        · exact absurd z.symm e
        · exact z
      have ih := place_at hx
      unfold place at ih
      rw [List.length_cons, List.getElem?_cons_succ]
      exact ih
theorem place_inj {l : List Nat} {x y : Nat} (hx : x ∈ l) (hy : y ∈ l) (h : place l x = place l y) : x = y := by
  have h1 := place_at hx
  rw [h, place_at hy] at h1
  exact (Option.some.inj h1).symm
theorem tidy_len (g : List Nat) : (tidy g).length = g.length := by
  rw [tidy_is, List.length_map]
theorem getD_lt {g : List Nat} {i : Nat} (h : i < g.length) : g.getD i 0 = g[i] := by
  rw [List.getD_eq_getElem?_getD, List.getElem?_eq_getElem h]
  rfl
theorem tidy_at {g : List Nat} {i : Nat} (h : i < g.length) : (tidy g).getD i 0 = place (firsts g) (g.getD i 0) := by
  rw [getD_lt h, getD_lt (by rw [tidy_len]; exact h)]
  simp only [tidy_is, List.getElem_map]
theorem tidy_same {g : List Nat} {i j : Nat} (hi : i < g.length) (hj : j < g.length) : (tidy g).getD i 0 = (tidy g).getD j 0 ↔ g.getD i 0 = g.getD j 0 := by
  rw [tidy_at hi, tidy_at hj]
  constructor
  · intro h
    refine place_inj (firsts_mem g _ ?_) (firsts_mem g _ ?_) h
    · rw [getD_lt hi]
      exact List.getElem_mem hi
    · rw [getD_lt hj]
      exact List.getElem_mem hj
  · intro h
    rw [h]
theorem members_tidy {g : List Nat} {i : Nat} (hi : i < g.length) : members (tidy g) ((tidy g).getD i 0) = members g (g.getD i 0) := by
  unfold members
  rw [tidy_len]
  apply List.filter_congr
  intro j hj
  have hj := List.mem_range.mp hj
  rw [Bool.eq_iff_iff, beq_iff_eq, beq_iff_eq]
  exact tidy_same hj hi
theorem worth_tidy {t : Folk} {g : List Nat} {i : Nat} (hi : i < g.length) : worth t (tidy g) i = worth t g i := by
  unfold worth
  rw [members_tidy hi]
theorem worths_tidy {t : Folk} {g : List Nat} (hg : g.length = t.n) : Ks568.worths t (tidy g) = Ks568.worths t g := by
  unfold Ks568.worths
  apply List.map_congr_left
  intro i hi
  exact worth_tidy (by have := List.mem_range.mp hi; omega)
theorem better_tidy {t : Folk} {g h : List Nat} (hg : g.length = t.n) : Ks568.better t (tidy g) h = Ks568.better t g h := by
  have e : ∀ i ∈ List.range t.n, worth t (tidy g) i = worth t g i := fun i hi => worth_tidy (by have := List.mem_range.mp hi; omega)
  unfold Ks568.better
  rw [Bool.eq_iff_iff, Bool.and_eq_true, Bool.and_eq_true, List.all_eq_true, List.all_eq_true, List.any_eq_true, List.any_eq_true]
  constructor
  · rintro ⟨h1, i, hi, h2⟩
    refine ⟨fun j hj => ?_, i, hi, ?_⟩
    · rw [← e j hj]
      exact h1 j hj
    · rw [← e i hi]
      exact h2
  · rintro ⟨h1, i, hi, h2⟩
    refine ⟨fun j hj => ?_, i, hi, ?_⟩
    · rw [e j hj]
      exact h1 j hj
    · rw [e i hi]
      exact h2
theorem beaten_tidy {t : Folk} {g : List Nat} (hg : g.length = t.n) : Ks568.beaten t (tidy g) = Ks568.beaten t g := by
  unfold Ks568.beaten
  congr 1
  funext h
  exact better_tidy hg
theorem envies_tidy {t : Folk} {g : List Nat} (hg : g.length = t.n) : Ks568.envies t (tidy g) = Ks568.envies t g := by
  unfold Ks568.envies
  rw [List.flatMap_def, List.flatMap_def]
  congr 1
  apply List.map_congr_left
  intro i hi
  have hi := List.mem_range.mp hi
  congr 1
  apply List.filter_congr
  intro j hj
  have hj := List.mem_range.mp hj
  rw [worth_tidy (by omega), members_tidy (by omega)]
  congr 1
  rw [Bool.eq_iff_iff, bne_iff_ne, bne_iff_ne, Ne, Ne, tidy_same (by omega) (by omega)]

/-! ### beaten, and by what -/
/-- none less, one more: what is_better gives -/
def bett (l : List Int) : Bool := (l.all fun x => decide (0 ≤ x)) && (l.any fun x => decide (0 < x))
/-- what each has more in h than in g -/
def diffs (t : Folk) (g h : Groups) : List Int := (List.range t.n).map fun i => worth t h i - worth t g i
theorem bett_is (t : Folk) (g h : Groups) : bett (diffs t g h) = Ks568.better t g h := by
  unfold bett diffs Ks568.better
  rw [List.all_map, List.any_map]
  congr 1
  · congr 1
    funext i
    show decide _ = decide _
    rw [decide_eq_decide]
    show 0 ≤ worth t h i - worth t g i ↔ worth t g i ≤ worth t h i
    omega
  · congr 1
    funext i
    show decide _ = decide _
    rw [decide_eq_decide]
    show 0 < worth t h i - worth t g i ↔ worth t g i < worth t h i
    omega
theorem better_iff {t : Folk} {g h : Groups} : Ks568.better t g h = true ↔ (∀ i, i < t.n → worth t g i ≤ worth t h i) ∧ ∃ i, i < t.n ∧ worth t g i < worth t h i := by
  unfold Ks568.better
  rw [Bool.and_eq_true, List.all_eq_true, List.any_eq_true]
  constructor
  · rintro ⟨h1, i, hi, h2⟩
    exact ⟨fun j hj => of_decide_eq_true (h1 j (List.mem_range.mpr hj)), i, List.mem_range.mp hi, of_decide_eq_true h2⟩
  · rintro ⟨h1, i, hi, h2⟩
    exact ⟨fun j hj => decide_eq_true (h1 j (List.mem_range.mp hj)), i, List.mem_range.mpr hi, decide_eq_true h2⟩
theorem sum_le {f h : Nat → Int} : ∀ {n : Nat}, (∀ i, i < n → f i ≤ h i) → ((List.range n).map f).sum ≤ ((List.range n).map h).sum
  | 0, _ => Int.le_refl _
  | n + 1, c => by
    have ih := sum_le (n := n) fun i hi => c i (Nat.lt_succ_of_lt hi)
    have e := c n (Nat.lt_succ_self n)
    rw [List.range_succ, List.map_append, List.map_append, List.sum_append_int, List.sum_append_int, List.map_singleton, List.map_singleton, List.sum_singleton, List.sum_singleton]
    omega
theorem sum_lt {f h : Nat → Int} : ∀ {n : Nat}, (∀ i, i < n → f i ≤ h i) → (∃ i, i < n ∧ f i < h i) → ((List.range n).map f).sum < ((List.range n).map h).sum
  | 0, _, ⟨i, hi, _⟩ => absurd hi (Nat.not_lt_zero i)
  | n + 1, c, ⟨i, hi, hl⟩ => by
    rw [List.range_succ, List.map_append, List.map_append, List.sum_append_int, List.sum_append_int, List.map_singleton, List.map_singleton, List.sum_singleton, List.sum_singleton]
    have le := sum_le (n := n) fun i hi => c i (Nat.lt_succ_of_lt hi)
    have e := c n (Nat.lt_succ_self n)
    by_cases hin : i = n
    · subst hin
      omega
    · have := sum_lt (n := n) (fun i hi => c i (Nat.lt_succ_of_lt hi)) ⟨i, by omega, hl⟩
      omega
/-- what beats has more all together -/
theorem better_total {t : Folk} {g h : Groups} (b : Ks568.better t g h = true) : Ks567.total t g < Ks567.total t h := by
  obtain ⟨h1, h2⟩ := better_iff.mp b
  rw [total_sum, total_sum]
  unfold Ks568.worths
  exact sum_lt h1 h2
/-- the best has most -/
theorem best_most {t : Folk} {k : Nat} : ∀ {L : List Groups} {g : Groups}, Ks568.best t k L = some g → ∀ h ∈ L, Ks568.value t k h ≤ Ks568.value t k g
  | [], g, e => by cases e
  | x :: r, g, e => by
    have pv : ∀ b h, Ks568.value t k b ≤ Ks568.value t k (pick t k b h) ∧ Ks568.value t k h ≤ Ks568.value t k (pick t k b h) := by
      intro b h
      unfold pick
      split <;> omega
    have fm : ∀ (l : List Groups) (b : Groups), Ks568.value t k b ≤ Ks568.value t k (l.foldl (pick t k) b) ∧ ∀ h ∈ l, Ks568.value t k h ≤ Ks568.value t k (l.foldl (pick t k) b) := by
      intro l
      induction l with
      | nil => intro b; exact ⟨Int.le_refl _, fun h hh => by cases hh⟩
      | cons y s ih =>
        intro b
        rw [List.foldl_cons]
        obtain ⟨h1, h2⟩ := ih (pick t k b y)
        have := pv b y
        refine ⟨by omega, fun h hh => ?_⟩
        rcases List.mem_cons.mp hh with rfl | hh
        · omega
        · exact h2 h hh
    rw [best_fold] at e
    have e := Option.some.inj e
    subst e
    exact (fm (x :: r) x).2
theorem beaten_none {t : Folk} {g : Groups} : (Ks568.beaten t g).isNone = !((all t.n).any fun h => Ks568.better t g h) := by
  unfold Ks568.beaten
  rw [Bool.eq_iff_iff, Option.isNone_iff_eq_none, List.find?_eq_none, Bool.not_eq_true', List.any_eq_false]
/-- beaten by nothing, as the program asks it -/
def kept (t : Folk) : List Groups := (all t.n).filter fun g => !((all t.n).any fun h => Ks568.better t g h)
theorem unbeaten_is (t : Folk) : Ks568.unbeaten t = kept t := by
  unfold Ks568.unbeaten kept
  apply List.filter_congr
  intro g _
  exact beaten_none
/-- there is one: what has most all together is beaten by nothing -/
theorem kept_ne (t : Folk) : kept t ≠ [] := by
  obtain ⟨g, hg⟩ := best_some (t := t) (k := 0) (all_ne t.n)
  have hm := best_mem hg
  have hx := best_most hg
  intro z
  have : g ∈ kept t := by
    unfold kept
    refine List.mem_filter.mpr ⟨hm, ?_⟩
    rw [Bool.not_eq_true', List.any_eq_false]
    intro h hh b
    have h1 := better_total b
    have h2 := hx h hh
    unfold Ks568.value at h2
    rw [if_pos rfl, if_pos rfl] at h2
    omega
  rw [z] at this
  cases this
theorem find_head {α : Type} (p : α → Bool) : ∀ l : List α, l.find? p = (l.filter p).head?
  | [] => rfl
  | x :: r => by
    rw [List.find?_cons, List.filter_cons]
    cases p x with
    | true => rfl
    | false => exact find_head p r
theorem beaten_is (t : Folk) (g : Groups) : Ks568.beaten t g = ((all t.n).filter (Ks568.better t g)).head? := find_head _ _
theorem ok_groups {n : Nat} {v : List Int} {g : List Nat} (h : okGroups ⟨n, v⟩ g = true) : g.length = n ∧ ∀ x ∈ g, x < n := by
  unfold okGroups at h
  rw [Bool.and_eq_true, beq_iff_eq, List.all_eq_true] at h
  exact ⟨h.1, fun x hx => of_decide_eq_true (h.2 x hx)⟩
theorem zs_back (g : List Nat) : (zs g).map Int.toNat = g := by
  unfold zs
  rw [List.map_map]
  have : (Int.toNat ∘ Int.ofNat) = id := rfl
  rw [this, List.map_id]
theorem zs_of {l : List Int} (h : ∀ x ∈ l, (0 : Int) ≤ x) : ∃ g : List Nat, l = zs g := by
  refine ⟨l.map Int.toNat, ?_⟩
  unfold zs
  rw [List.map_map]
  conv => lhs; rw [← List.map_id l]
  apply List.map_congr_left
  intro x hx
  exact (Int.toNat_of_nonneg (h x hx)).symm
/-! the worst -/
def drop_ (t : Folk) (k : Nat) (b h : Groups) : Groups := if Ks568.value t k h < Ks568.value t k b then h else b
theorem worst_fold (t : Folk) (k : Nat) (g : Groups) (r : List Groups) : Ks568.worst t k (g :: r) = some ((g :: r).foldl (drop_ t k) g) := by
  rw [List.foldl_cons, show drop_ t k g g = g by unfold drop_; split <;> rfl]
  rfl
theorem worst_mem {t : Folk} {k : Nat} : ∀ {L : List Groups} {g : Groups}, Ks568.worst t k L = some g → g ∈ L
  | [], g, h => by cases h
  | x :: r, g, h => by
    have fm : ∀ (l : List Groups) (b : Groups), l.foldl (drop_ t k) b = b ∨ l.foldl (drop_ t k) b ∈ l := by
      intro l
      induction l with
      | nil => intro b; exact .inl rfl
      | cons y s ih =>
        intro b
        rw [List.foldl_cons]
        rcases ih (drop_ t k b y) with e | e
        · rw [e]
          unfold drop_
          split
          · exact .inr (List.mem_cons_self ..)
          · exact .inl rfl
        · exact .inr (List.mem_cons_of_mem _ e)
    rw [worst_fold] at h
    have e := Option.some.inj h
    subst e
    rcases fm (x :: r) x with e | e
    · rw [e]
      exact List.mem_cons_self ..
    · exact e
theorem worst_least {t : Folk} {k : Nat} : ∀ {L : List Groups} {g : Groups}, Ks568.worst t k L = some g → ∀ h ∈ L, Ks568.value t k g ≤ Ks568.value t k h
  | [], g, e => by cases e
  | x :: r, g, e => by
    have pv : ∀ b h, Ks568.value t k (drop_ t k b h) ≤ Ks568.value t k b ∧ Ks568.value t k (drop_ t k b h) ≤ Ks568.value t k h := by
      intro b h
      unfold drop_
      split <;> omega
    have fm : ∀ (l : List Groups) (b : Groups), Ks568.value t k (l.foldl (drop_ t k) b) ≤ Ks568.value t k b ∧ ∀ h ∈ l, Ks568.value t k (l.foldl (drop_ t k) b) ≤ Ks568.value t k h := by
      intro l
      induction l with
      | nil => intro b; exact ⟨Int.le_refl _, fun h hh => by cases hh⟩
      | cons y s ih =>
        intro b
        rw [List.foldl_cons]
        obtain ⟨h1, h2⟩ := ih (drop_ t k b y)
        have := pv b y
        refine ⟨by omega, fun h hh => ?_⟩
        rcases List.mem_cons.mp hh with rfl | hh
        · omega
        · exact h2 h hh
    rw [worst_fold] at e
    have e := Option.some.inj e
    subst e
    exact (fm (x :: r) x).2

end
open PySem PySem.Spec PyProof.Rows L2
open Ks565 (members with_ worth all groups Folk Groups)
/-! ### the text -/
def top (i : Nat) : Stmt := PySem.Challenge.pw_circles_s06_price.main.body.getD i (.Pass ⟨0, 0, 0, 0⟩)
abbrev sPrice : Stmt := top 11
abbrev sTold : Stmt := top 12
abbrev sWays : Stmt := top 13
abbrev sMore : Stmt := top 14
abbrev sCount : Stmt := top 15
abbrev sMembers : Stmt := top 16
abbrev sHas : Stmt := top 17
abbrev sEach : Stmt := top 18
abbrev sMeas : Stmt := top 19
abbrev sHadt : Stmt := top 20
abbrev sWok : Stmt := top 21
abbrev sKind : Stmt := top 22
abbrev sRest : Stmt := top 23
abbrev sMay : Stmt := top 24
abbrev sWelc : Stmt := top 25
abbrev sLeto : Stmt := top 26
abbrev sHold : Stmt := top 27
abbrev sSets : Stmt := top 28
abbrev sGain : Stmt := top 29
abbrev sLeav : Stmt := top 30
abbrev sBett : Stmt := top 31
/-! ### heaps -/
theorem same_upd {H : Hp} {p : Addr} {o : HO} (h : H p = none) : Same H (upd H p o) := fun _ _ e => (upd_ne (ne_of_none e h)).trans e
/-- what was there ahead of D stays when D is written -/
theorem same_upd' {H H1 : Hp} {p : Addr} {o : HO} (h : H p = none) (s : Same H H1) : Same H (upd H1 p o) := fun b x e => (upd_ne (ne_of_none e h)).trans (s b x e)
/-- a list of ints as values -/
abbrev vi (l : List Int) : List V := l.map V.int
theorem vi_snoc (l : List Int) (x : Int) : vi l ++ [V.int x] = vi (l ++ [x]) := by
  unfold vi
  rw [List.map_append]
  rfl
theorem zs_snoc (l : List Nat) (x : Nat) : zs l ++ [(x : Int)] = zs (l ++ [x]) := by
  unfold zs
  rw [List.map_append]
  rfl
theorem zs_len (l : List Nat) : (zs l).length = l.length := by
  unfold zs
  rw [List.length_map]
theorem zs_at {l : List Nat} {i : Nat} (h : i < l.length) : (vi (zs l))[i]? = some (.int (l.getD i 0 : Nat)) := by
  unfold vi zs
  rw [List.getElem?_map, List.getElem?_map, List.getElem?_eq_getElem h, List.getD_eq_getElem?_getD, List.getElem?_eq_getElem h]
  rfl
theorem room {n : Nat} (h : n ≤ 1000) : n < sizeLine := small1000 h
theorem at_lt {n i j : Nat} (hi : i < n) (hj : j < n) : i * n + j < n * n := by
  have h : (i + 1) * n ≤ n * n := Nat.mul_le_mul_right n hi
  rw [Nat.succ_mul] at h
  omega
theorem zs_get {l : List Nat} {i : Nat} {x : V} (h : (vi (zs l))[i]? = some x) : ∃ j, l[i]? = some j ∧ x = V.int (j : Nat) := by
  unfold vi zs at h
  rw [List.getElem?_map, List.getElem?_map] at h
  cases e : l[i]? with
  | none =>
    rw [e] at h
    cases h
  | some z =>
    rw [e] at h
    exact ⟨z, rfl, (Option.some.inj h).symm⟩
theorem worths_pos {t : Folk} {g : Groups} (h : 1 ≤ t.n) : 0 < (Ks568.worths t g).length := by
  unfold Ks568.worths
  rw [List.length_map, List.length_range]
  exact h
theorem refs_get {as : List Addr} {i : Nat} {x : V} (h : (as.map V.ref)[i]? = some x) : ∃ q, as[i]? = some q ∧ x = V.ref q := by
  rw [List.getElem?_map] at h
  cases e : as[i]? with
  | none =>
    rw [e] at h
    cases h
  | some z =>
    rw [e] at h
    exact ⟨z, rfl, (Option.some.inj h).symm⟩
theorem vi_get {l : List Int} {i : Nat} {x : V} (h : (vi l)[i]? = some x) : ∃ j, l[i]? = some j ∧ x = V.int j := by
  unfold vi at h
  rw [List.getElem?_map] at h
  cases e : l[i]? with
  | none =>
    rw [e] at h
    cases h
  | some z =>
    rw [e] at h
    exact ⟨z, rfl, (Option.some.inj h).symm⟩
/-! ### the request -/
theorem dw_int_inv {K : PySem.W.Frag} {H : Hp} {v : V} {i : Int} (h : Dw K H v (.int i)) : v = .int i := by
  cases h
  rfl
theorem dw_list_inv {K : PySem.W.Frag} {H : Hp} {v : V} {ds : List PySem.W.WData} (h : Dw K H v (.list ds)) : ∃ a xs, v = .ref a ∧ SqL K H a xs ∧ DwAll K H xs ds := by
  cases h with
  | lst hs ha => exact ⟨_, _, rfl, hs, ha⟩
theorem dw_cons {K : PySem.W.Frag} {H : Hp} {xs : List V} {d : PySem.W.WData} {ds : List PySem.W.WData} (h : DwAll K H xs (d :: ds)) : ∃ v vs, xs = v :: vs ∧ Dw K H v d ∧ DwAll K H vs ds := by
  cases h with
  | cons h1 h2 => exact ⟨_, _, rfl, h1, h2⟩
theorem dw_nil {K : PySem.W.Frag} {H : Hp} {xs : List V} (h : DwAll K H xs []) : xs = [] := by
  cases h
  rfl
theorem in_int {lo hi z : Int} {b : Bool} (h : (PySem.W.Codec.inInt lo hi z && b) = true) : (lo ≤ z ∧ z ≤ hi) ∧ b = true := by
  rw [Bool.and_eq_true] at h
  exact ⟨PySem.W.Codec.inInt_iff.mp h.1, h.2⟩
theorem in_list {lo hi : Nat} {c d : Int} {l : List Int} {b : Bool} (h : ((PySem.W.Codec.inLen lo hi l && l.all (PySem.W.Codec.inInt c d)) && b) = true) : l.length ≤ hi ∧ (∀ x ∈ l, c ≤ x ∧ x ≤ d) ∧ b = true := by
  rw [Bool.and_eq_true, Bool.and_eq_true, List.all_eq_true] at h
  exact ⟨(PySem.W.Codec.inNat_iff.mp h.1.1).2, fun x hx => PySem.W.Codec.inInt_iff.mp (h.1.2 x hx), h.2⟩

/-! ### max(xs, default=d) -/
def rMaxD (K : PySem.W.Frag) : List V → List V → Hp → VK → Prop := fun vs zs H Q => ∃ (a : Addr) (ns : List Int) (d : Int), vs = [V.ref a] ∧ zs = [V.int d] ∧ SqL K H a (vi ns) ∧ (ns = [] → Q (.int d) H) ∧ ∀ m, m ∈ ns → (∀ y, y ∈ ns → y ≤ m) → Q (.int m) H
theorem maxOf_is : ∀ (ys : List Int) (y : Int), PySem.W.maxOf y ys ∈ y :: ys ∧ ∀ z ∈ y :: ys, z ≤ PySem.W.maxOf y ys
  | [], y => ⟨List.mem_cons_self .., fun z hz => by
      have : z = y := by simpa using hz
      rw [this]
      exact Int.le_refl _⟩
  | x :: r, y => by
    have e : PySem.W.maxOf y (x :: r) = PySem.W.maxOf (if y < x then x else y) r := by
      show List.foldl _ (if decide (y < x) = true then x else y) r = _
      by_cases h : y < x
      · rw [if_pos h, if_pos (decide_eq_true h)]
        rfl
      · rw [if_neg h, if_neg (by simpa using h)]
        rfl
    obtain ⟨h1, h2⟩ := maxOf_is r (if y < x then x else y)
    rw [e]
    by_cases h : y < x
    · rw [if_pos h] at h1 h2 ⊢
      refine ⟨List.mem_cons_of_mem _ h1, fun z hz => ?_⟩
      rcases List.mem_cons.mp hz with rfl | hz
      · have := h2 x (List.mem_cons_self ..)
        omega
      · exact h2 z hz
    · rw [if_neg h] at h1 h2 ⊢
      refine ⟨?_, fun z hz => ?_⟩
      · rcases List.mem_cons.mp h1 with h1 | h1
        · rw [h1]
          exact List.mem_cons_self ..
        · exact List.mem_cons_of_mem _ (List.mem_cons_of_mem _ h1)
      · rcases List.mem_cons.mp hz with rfl | hz
        · exact h2 _ (List.mem_cons_self ..)
        · rcases List.mem_cons.mp hz with rfl | hz
          · have := h2 y (List.mem_cons_self ..)
            omega
          · exact h2 z (List.mem_cons_of_mem _ hz)
theorem cr_maxD {X : Cx} (hc : X.calm = true) (hu : X.A.units + 1 < cLine) : CallRK X (.builtin "max") [Str.ofString "default"] (rMaxD X.K) := by
  intro pins s σ H vs zs us ws Q I r rz h
  obtain ⟨a, ns, d, rfl, rfl, hs, q0, q1⟩ := h
  obtain ⟨its, rv, hl, _⟩ := I.list hs
  obtain rfl := Vals.ref1 r
  obtain ⟨w1, rfl, t1, rfl⟩ := L2.vals1 rz
  refine PySem.W.max_list_datum_default (α := Int) (xs := ns) (I.ok.hd hc) hl.isList ⟨_, rv.ints.reads _⟩ hu (fun e h' tk hk => ⟨.int d, H, I.kept hk, ⟨_, rfl⟩, q0 e⟩) (fun y ys i v h' tk e hi hv hk => ?_)
  obtain ⟨as, hv⟩ := hv
  obtain ⟨t, rfl, _⟩ := PyProof.Rows.reads_int_inv hv
  obtain ⟨m1, m2⟩ := maxOf_is ys y
  subst e
  exact ⟨.int _, H, I.kept hk, ⟨_, rfl⟩, q1 _ m1 m2⟩

/-! ### lists of ways -/
structure Items (H : Hp) (as : List Addr) (L : List (List Nat)) : Prop where
  len : as.length = L.length
  at_ : ∀ (j : Nat) (q : Addr), as[j]? = some q → ∃ g, L[j]? = some g ∧ H q = some (.lst (vi (zs g)))
theorem Items.nil {H : Hp} : Items H [] [] := ⟨rfl, fun j q h => by simp at h⟩
theorem Items.same {H H' : Hp} {as : List Addr} {L : List (List Nat)} (I : Items H as L) (s : Same H H') : Items H' as L := ⟨I.len, fun j q h => by
  obtain ⟨g, h1, h2⟩ := I.at_ j q h
  exact ⟨g, h1, s _ _ h2⟩⟩
theorem Items.but {H H' : Hp} {D : Addr} {as : List Addr} {L : List (List Nat)} (I : Items H as L) (s : ∀ b o, b ≠ D → H b = some o → H' b = some o) (n : ∀ q ∈ as, q ≠ D) : Items H' as L := ⟨I.len, fun j q h => by
  obtain ⟨g, h1, h2⟩ := I.at_ j q h
  exact ⟨g, h1, s _ _ (n q (List.mem_of_getElem? h)) h2⟩⟩
theorem Items.append {H : Hp} {as bs : List Addr} {L M : List (List Nat)} (I : Items H as L) (J : Items H bs M) : Items H (as ++ bs) (L ++ M) := by
  refine ⟨by rw [List.length_append, List.length_append, I.len, J.len], fun j q h => ?_⟩
  by_cases hj : j < as.length
  · rw [List.getElem?_append_left hj] at h
    obtain ⟨g, h1, h2⟩ := I.at_ j q h
    exact ⟨g, by rw [List.getElem?_append_left (by rw [← I.len]; exact hj)]; exact h1, h2⟩
  · rw [List.getElem?_append_right (by omega)] at h
    obtain ⟨g, h1, h2⟩ := J.at_ _ q h
    exact ⟨g, by rw [List.getElem?_append_right (by rw [← I.len]; omega), ← I.len]; exact h1, h2⟩
theorem Items.one {H : Hp} {q : Addr} {g : List Nat} (h : H q = some (.lst (vi (zs g)))) : Items H [q] [g] := ⟨rfl, fun j p e => by
  match j, e with
  | 0, e =>
    have e := Option.some.inj e
    subst e
    exact ⟨g, rfl, h⟩
  | j + 1, e => simp at e⟩

/-! ### lists of lists of ints -/
structure ItemsZ (H : Hp) (as : List Addr) (L : List (List Int)) : Prop where
  len : as.length = L.length
  at_ : ∀ (j : Nat) (q : Addr), as[j]? = some q → ∃ g, L[j]? = some g ∧ H q = some (.lst (vi g))
theorem ItemsZ.nil {H : Hp} : ItemsZ H [] [] := ⟨rfl, fun j q h => by simp at h⟩
theorem ItemsZ.same {H H' : Hp} {as : List Addr} {L : List (List Int)} (I : ItemsZ H as L) (s : Same H H') : ItemsZ H' as L := ⟨I.len, fun j q h => by
  obtain ⟨g, h1, h2⟩ := I.at_ j q h
  exact ⟨g, h1, s _ _ h2⟩⟩
theorem ItemsZ.but {H H' : Hp} {D : Addr} {as : List Addr} {L : List (List Int)} (I : ItemsZ H as L) (s : ∀ b o, b ≠ D → H b = some o → H' b = some o) (n : ∀ q ∈ as, q ≠ D) : ItemsZ H' as L := ⟨I.len, fun j q h => by
  obtain ⟨g, h1, h2⟩ := I.at_ j q h
  exact ⟨g, h1, s _ _ (n q (List.mem_of_getElem? h)) h2⟩⟩
theorem ItemsZ.snoc {H : Hp} {as : List Addr} {q : Addr} {L : List (List Int)} {g : List Int} (I : ItemsZ H as L) (h : H q = some (.lst (vi g))) : ItemsZ H (as ++ [q]) (L ++ [g]) := by
  refine ⟨by rw [List.length_append, List.length_append, I.len]; rfl, fun j p hj => ?_⟩
  by_cases hl : j < as.length
  · rw [List.getElem?_append_left hl] at hj
    obtain ⟨g', h1, h2⟩ := I.at_ j p hj
    exact ⟨g', by rw [List.getElem?_append_left (by rw [← I.len]; exact hl)]; exact h1, h2⟩
  · rw [List.getElem?_append_right (by omega)] at hj
    cases e : j - as.length with
    | zero =>
      rw [e] at hj
      have hj : q = p := Option.some.inj hj
      subst hj
      refine ⟨g, ?_, h⟩
      rw [List.getElem?_append_right (by rw [← I.len]; omega), ← I.len, e]
      rfl
    | succ m =>
      rw [e] at hj
      simp at hj

section
variable {P : Program} {w : World} {K : PySem.W.Frag} {mg : Str → Option Value} {base : Heap}
/-! ### is_as_told -/
def spTold (K : PySem.W.Frag) : Sp := fun vs H Q _ => ∃ (a : Addr) (n : Nat) (v : List Int), vs = [.int (n : Int), .ref a] ∧ SqL K H a (vi v) ∧ n < 4294967296 ∧ v.length ≤ 27 ∧ ∀ H', Same H H' → Q (.bl (told n v)) H'
theorem scTold : FnScope ["n", "worth", "value"] ["n", "worth"] (defScope sTold) := ⟨rfl, rfl, rfl, by decide +kernel, rfl, by decide +kernel, by decide +kernel⟩
theorem abs_le (x : Int) : (if x < 0 then -x else x) ≤ 20 ↔ x.natAbs ≤ 20 := by
  split <;> omega
theorem ok_told {f : Addr} {fd : FuncData} {k : Nat} {t1 t2 : Tok} (F : Fun K "is_as_told" "is_as_told" sTold f fd) (ml : mg "len" = none) (ma : mg "all" = none) (mb : mg "abs" = none) (m1 : mg "MOST_PEOPLE" = some (.int 5 t1)) (m2 : mg "MOST_WORTH" = some (.int 20 t2)) :
    FnOk P w K mg base CX0 (k + 1) f fd ["n", "worth"] (spTold K) := by
  refine F.ok scTold (fun vs H Q E h => ?_) (fun cdv A outer s H vs Q E hr h => ?_)
  · obtain ⟨a, n, v, rfl, _⟩ := h
    rfl
  · obtain ⟨a, n, v, rfl, hA, hn, hv, q⟩ := h
    refine ⟨_, pss_cons (ps_if (PW.pt (pw_or (pt_cmpR op_lt (pv 0) pe_int (nomark _)) (pw_or (pt_cmpR op_gt (pv 0) (pe_glob (v := .int 5) (by rfl) m1 ⟨_, rfl⟩) (nomark _)) (pw_or1 (pt_cmpR op_ne (pe_callB call_len_seq (by rfl) ml PySem.boot_len (pa_cons (pv 1) pa_nil)) (pe_op op_mul (pv 0) (pv 0)) (nomark _))))))
        (pss_one (ps_ret pe_bl)) pss_nil)
      (pss_one (ps_ret (pe_callB (cr_all (by rfl)) (by rfl) ma (by decide +kernel) (pa_cons (pe_lc (own := [("value", 2)]) (g := gName 2) (by rfl) scTold.nd (pi_list (pv 1))
        (blkOk_by (N := ["n", "worth", "value"]) (sc := defScope sTold) (by decide +kernel)) (fun _ _ _ _ _ => pg_name (i := 2) scTold.nd rfl (Or.inl rfl))
        (fun _ _ _ _ _ => pts_nil) (fun _ _ _ _ _ => pe_cmpR op_le (pe_callB call_abs (by rfl) mb (by decide +kernel) (pa_cons (pv 2) pa_nil)) (pe_glob (v := .int 20) (by rfl) m2 ⟨_, rfl⟩) (nomark _))) pa_nil)))), ?_⟩
    have no : (n < 1 ∨ 5 < n ∨ v.length ≠ n * n) → told n v = false := fun h => by
      cases e : told n v with
      | false => rfl
      | true =>
        obtain ⟨h1, h2, h3, _⟩ := told_iff.mp e
        rcases h with h | h | h
        · omega
        · omega
        · exact absurd h3 h
    refine ⟨.int (n : Int), rfl, _, _, rfl, rfl, _, rfl, ite2 (fun e => ?_) (fun e => ?_)⟩
    · have := of_decide_eq_true e
      refine iteT ?_
      have z := q H (Same.refl _)
      rw [no (.inl (by omega))] at z
      exact z
    have e1 : ¬ ((n : Int) < 1) := fun z => e (decide_eq_true z)
    refine ⟨.int (n : Int), rfl, _, _, rfl, rfl, _, rfl, ite2 (fun e => ?_) (fun e => ?_)⟩
    · have := of_decide_eq_true e
      refine iteT ?_
      have z := q H (Same.refl _)
      rw [no (.inr (.inl (by omega)))] at z
      exact z
    have e2 : ¬ ((n : Int) > 5) := fun z => e (decide_eq_true z)
    refine ⟨.ref a, rfl, a, _, rfl, .inl hA, .int (n : Int), rfl, .int (n : Int), rfl, _, _, rfl, rfl, .inl ⟨by omega, by omega⟩, rfl, _, rfl, ite2 (fun e => ?_) (fun e => ?_)⟩
    · have z := q H (Same.refl _)
      rw [no (.inr (.inr fun y => ?_))] at z
      · exact z
      · rw [List.length_map, y, Int.natCast_mul] at e
        simp at e
    have e3 : v.length = n * n := by
      apply Decidable.byContradiction
      intro z
      refine e ?_
      have : ¬ (V.int ((vi v).length : Int) = V.int ((n : Int) * (n : Int))) := fun y => z (by
        have y := V.int.inj y
        rw [List.length_map, ← Int.natCast_mul] at y
        omega)
      simp only [this, decide_false]
      rfl
    refine ⟨.ref a, rfl, a, rfl, ⟨_, hA⟩, fun D nD => ?_⟩
    refine lc_list (K := K) (a := a) (xs := vi v) (fun t H' => Same H H' ∧ H' D = some (.lst (((v.take t).map fun x => decide ((if x < 0 then -x else x) ≤ 20)).map V.bl))) ⟨same_upd nD, upd_same⟩ (fun t H' _ ⟨sm, _⟩ => sm.seq hA) ?_ ?_
    · rintro t x H1 hx ⟨sm, hD⟩
      obtain ⟨z, hz, rfl⟩ : ∃ z, v[t]? = some z ∧ x = V.int z := by
        rw [List.getElem?_map] at hx
        cases e : v[t]? with
        | none =>
          rw [e] at hx
          cases hx
        | some z =>
          rw [e] at hx
          exact ⟨z, rfl, (Option.some.inj hx).symm⟩
      refine ⟨rfl, .int z, rfl, z, rfl, _, _, rfl, rfl, _, hD, ?_, same_upd' nD sm, ?_⟩
      · rw [List.length_map, List.length_map, List.length_take]
        exact room (by omega)
      · rw [upd_same, take_snoc hz, List.map_append, List.map_append]
        rfl
    · rintro H1 ⟨sm, hD⟩
      rw [List.length_map, List.take_length] at hD
      refine ⟨D, _, rfl, SqL.of hD, ?_⟩
      have z := q H1 sm
      have ez : told n v = ((v.map fun x => decide ((if x < 0 then -x else x) ≤ 20)).all id) := by
        rw [Bool.eq_iff_iff, told_iff, List.all_eq_true]
        constructor
        · rintro ⟨_, _, _, h4⟩ b hb
          obtain ⟨x, hx, rfl⟩ := List.mem_map.mp hb
          exact decide_eq_true ((abs_le x).mpr (h4 x hx))
        · intro h
          refine ⟨by omega, by omega, e3, fun x hx => ?_⟩
          exact (abs_le x).mp (of_decide_eq_true (h _ (List.mem_map.mpr ⟨x, hx, rfl⟩)))
      rw [ez] at z
      exact z

/-! ### count_groups -/
def spCount (K : PySem.W.Frag) : Sp := fun vs H Q _ => ∃ (a : Addr) (g : List Nat), vs = [.ref a] ∧ SqL K H a (vi (zs g)) ∧ Q (.int (cnt g : Nat)) H
theorem scCount : FnScope ["way"] ["way"] (defScope sCount) := ⟨rfl, rfl, rfl, by decide +kernel, rfl, by decide +kernel, by decide +kernel⟩
theorem ok_count {f : Addr} {fd : FuncData} {k : Nat} (F : Fun K "count_groups" "count_groups" sCount f fd) (mm : mg "max" = none) : FnOk P w K mg base CX0 (k + 1) f fd ["way"] (spCount K) := by
  refine F.ok scCount (fun vs H Q E h => ?_) (fun cdv A outer s H vs Q E hr h => ?_)
  · obtain ⟨a, g, rfl, _⟩ := h
    rfl
  · obtain ⟨a, g, rfl, hS, q⟩ := h
    refine ⟨_, pss_one (ps_ret (pe_op op_add (pe_callBK (cr_maxD (by rfl) (hu_of hr)) (by rfl) mm PyProof.Rows.boot_max (pa_cons (pv 0) pa_nil) (pk_cons (pe_un un_neg pe_int) pk_nil)) pe_int)), ?_⟩
    refine ⟨.ref a, rfl, 1, rfl, a, zs g, -1, rfl, rfl, hS, fun e => ?_, fun m h1 h2 => ?_⟩
    · have : g = [] := List.map_eq_nil_iff.mp e
      subst this
      exact ⟨-1, 1, rfl, rfl, q⟩
    · refine ⟨m, 1, rfl, rfl, ?_⟩
      obtain ⟨j, hj, rfl⟩ := List.mem_map.mp h1
      have e : cnt g = j + 1 := cnt_of_max hj fun x hx => by
        exact Int.ofNat_le.mp (h2 (Int.ofNat x) (List.mem_map.mpr ⟨x, hx, rfl⟩))
      rw [e] at q
      exact q

/-! ### ways_with_one_more -/
def spMore (_ : PySem.W.Frag) : Sp := fun vs H Q _ => ∃ (a : Addr) (g : List Nat), vs = [.ref a] ∧ H a = some (.lst (vi (zs g))) ∧ g.length ≤ 5 ∧ cnt g ≤ 5 ∧
  ∀ H' p cs, Same H H' → H p = none → H' p = some (.lst (cs.map V.ref)) → Items H' cs (more g) → (∀ q ∈ cs, H q = none ∧ q ≠ p) → Q (.ref p) H'
theorem scMore : FnScope ["way", "number"] ["way"] (defScope sMore) := ⟨rfl, rfl, rfl, by decide +kernel, rfl, by decide +kernel, by decide +kernel⟩
theorem ok_more {f f1 : Addr} {fd fd1 : FuncData} {k : Nat} (F : Fun K "ways_with_one_more" "ways_with_one_more" sMore f fd)
    (F1 : Fun K "count_groups" "count_groups" sCount f1 fd1) (b1 : Binds K fd1 ["way"] []) (g1 : mg "count_groups" = some (.ref f1)) (G1 : FnOk P w K mg base CX0 (k + 1) f1 fd1 ["way"] (spCount K))
    (mr : mg "range" = none) : FnOk P w K mg base CX0 (k + 2) f fd ["way"] (spMore K) := by
  refine F.ok scMore (fun vs H Q E h => ?_) (fun cdv A outer s H vs Q E hr h => ?_)
  · obtain ⟨a, g, rfl, _⟩ := h
    rfl
  · obtain ⟨a, g, rfl, hA, hg, hc, q⟩ := h
    refine ⟨_, pss_one (ps_ret (pe_lc (own := [("number", 1)]) (g := gName 1) (by rfl) scMore.nd (pi_range1 (by rfl) mr (pa_cons (pe_op op_add (pe_call G1 hr (by rfl) g1 F1.kp b1 .nil pass0 (pa_cons (pv 0) pa_nil)) pe_int) pa_nil))
      (blkOk_by (N := ["way", "number"]) (sc := defScope sMore) (by decide +kernel)) (fun _ _ _ _ _ => pg_name (i := 1) scMore.nd rfl (Or.inl rfl))
      (fun _ _ _ _ _ => pts_nil) (fun _ _ _ _ _ => pe_op op_cat (pv 0) (pe_lst (pa_cons (pv 1) pa_nil))))), ?_⟩
    refine ⟨.ref a, rfl, a, g, rfl, SqL.of hA, _, _, rfl, rfl, _, rfl, by omega, by omega, fun D nD => ?_⟩
    refine lc_range (lo := 0) (n := ((cnt g : Nat) + 1 : Int).toNat) (fun i H' => ∃ cs : List Addr, Same H H' ∧ H' D = some (.lst (cs.map V.ref)) ∧ Items H' cs ((List.range i).map fun x => g ++ [x]) ∧ ∀ c ∈ cs, H c = none ∧ c ≠ D)
      ⟨[], same_upd nD, upd_same, Items.nil, fun c h => by cases h⟩ ?_ ?_
    · rintro i H1 hi ⟨cs, sm, hD, hI, hf⟩
      have hi' : i < cnt g + 1 := by omega
      refine ⟨rfl, .ref a, rfl, .int (0 + (i : Int)), rfl, Nat.le_of_lt (room (by show 1 ≤ 1000; omega)), fun p1 n1 => ?_⟩
      have s1 := same_upd (o := HO.lst [V.int (0 + (i : Int))]) n1
      refine ⟨a, p1, _, _, rfl, rfl, s1 _ _ (sm _ _ hA), upd_same, ?_, fun p2 n2 => ?_⟩
      · rw [List.length_map, zs_len]
        exact Nat.le_of_lt (room (by show g.length + 1 ≤ 1000; omega))
      have s2 := same_upd (o := HO.lst (vi (zs g) ++ [V.int (0 + (i : Int))])) n2
      have hD2 := s2 _ _ (s1 _ _ hD)
      have f2 : H1 p2 = none := s1.free n2
      have ne2 : p2 ≠ D := fun e => by
        rw [e, hD] at f2
        cases f2
      refine ⟨_, hD2, ?_, cs ++ [p2], same_upd' nD ((sm.trans s1).trans s2), ?_, ?_, fun c hc' => ?_⟩
      · rw [List.length_map, hI.len, List.length_map, List.length_range]
        exact room (by omega)
      · rw [upd_same, List.map_append]
        rfl
      · have I2 : Items (upd (upd H1 p1 (HO.lst [V.int (0 + (i : Int))])) p2 (HO.lst (vi (zs g) ++ [V.int (0 + (i : Int))]))) (cs ++ [p2]) (((List.range i).map fun x => g ++ [x]) ++ [g ++ [i]]) := by
          refine (hI.same (s1.trans s2)).append (Items.one ?_)
          rw [upd_same, Int.zero_add, ← zs_snoc, ← vi_snoc]
        rw [List.range_succ, List.map_append]
        refine Items.but (D := D) I2 (fun b o hb e => ?_) fun c hc' => ?_
        · rw [upd_ne hb]
          exact e
        · rcases List.mem_append.mp hc' with h | h
          · exact (hf c h).2
          · have : c = p2 := by simpa using h
            rw [this]
            exact ne2
      · rcases List.mem_append.mp hc' with h | h
        · exact hf c h
        · have : c = p2 := by simpa using h
          rw [this]
          exact ⟨sm.free f2, ne2⟩
    · rintro H1 ⟨cs, sm, hD, hI, hf⟩
      have e : ((cnt g : Nat) + 1 : Int).toNat = cnt g + 1 := by omega
      rw [e] at hI
      exact q H1 D cs sm nD hD hI hf

/-! ### all_ways -/
def spWays (_ : PySem.W.Frag) : Sp := fun vs H Q _ => ∃ (n : Nat), vs = [.int (n : Int)] ∧ n ≤ 5 ∧
  ∀ H' p cs, Same H H' → H' p = some (.lst (cs.map V.ref)) → Items H' cs (all n) → Q (.ref p) H'
theorem scWays : FnScope ["n", "ways", "person", "longer", "way"] ["n"] (defScope sWays) := ⟨rfl, rfl, rfl, by decide +kernel, rfl, by decide +kernel, by decide +kernel⟩
theorem ok_ways {f f1 : Addr} {fd fd1 : FuncData} {k : Nat} (F : Fun K "all_ways" "all_ways" sWays f fd)
    (F1 : Fun K "ways_with_one_more" "ways_with_one_more" sMore f1 fd1) (b1 : Binds K fd1 ["way"] []) (g1 : mg "ways_with_one_more" = some (.ref f1)) (G1 : FnOk P w K mg base CX0 (k + 2) f1 fd1 ["way"] (spMore K))
    (mr : mg "range" = none) : FnOk P w K mg base CX0 (k + 3) f fd ["n"] (spWays K) := by
  refine F.ok scWays (fun vs H Q E h => ?_) (fun cdv A outer s H vs Q E hr h => ?_)
  · obtain ⟨n, rfl, _⟩ := h
    rfl
  · obtain ⟨n, rfl, hn, q⟩ := h
    refine ⟨_, pss_cons (ps_set (i := 1) scWays.nd rfl (.inl rfl) (pe_lst (pa_cons (pe_lst pa_nil) pa_nil)))
      (pss_cons (ps_for PassesOwn.never rfl (pi_range1 (by rfl) mr (pa_cons (pv 0) pa_nil)) (pg_name (i := 2) scWays.nd rfl (.inl rfl))
        (pss_cons (ps_set (i := 3) scWays.nd rfl (.inl rfl) (pe_lst pa_nil))
        (pss_cons (ps_for PassesOwn.never rfl (pi_list (pv 1)) (pg_name (i := 4) scWays.nd rfl (.inl rfl))
          (pss_one (ps_expr (pe_bm PySem.F.plainAttrs_list PySem.F.slot_list_extend PySem.F.type_list_extend mt_extend (pv 3) (pa_cons (pe_call G1 hr (by rfl) g1 F1.kp b1 .nil pass0 (pa_cons (pv 4) pa_nil)) pa_nil)))))
        (pss_one (ps_set (i := 1) scWays.nd rfl (.inl rfl) (pv 3))))))
      (pss_one (ps_ret (pv 1)))), ?_⟩
    refine ⟨Nat.zero_le _, fun p0 n0 => ⟨Nat.le_of_lt (room (by show 1 ≤ 1000; omega)), fun p1 n1 => ?_⟩⟩
    have s0 := same_upd (o := HO.lst []) n0
    have s1 := same_upd (o := HO.lst [V.ref p0]) n1
    refine ⟨.int (n : Int), rfl, _, rfl, by omega, by omega, for_range (lo := 0) (n := ((n : Nat) : Int).toNat) (fun i σ H' => ∃ b as y2 y3 y4, σ = [some (.int (n : Int)), some (.ref b), y2, y3, y4] ∧ Same H H' ∧ H' b = some (.lst (as.map V.ref)) ∧ Items H' as (all i))
      ⟨p1, [p0], none, none, none, rfl, s0.trans s1, upd_same, Items.one (g := []) (s1 _ _ upd_same)⟩ ?_ ?_⟩
    · rintro i σ H1 hi ⟨b, as, y2, y3, y4, rfl, sm, hb, hI⟩
      have hi' : i < n := by omega
      refine ⟨Nat.zero_le _, fun o no => ?_⟩
      have so := same_upd (o := HO.lst []) no
      refine ⟨.ref b, rfl, b, rfl, ⟨_, SqL.of (so _ _ hb)⟩, for_list (K := K) (a := b) (xs := as.map V.ref) (fun j σ H3 => ∃ cs z4, σ = [some (.int (n : Int)), some (.ref b), some (.int (0 + (i : Int))), some (.ref o), z4] ∧ Same H1 H3 ∧ H3 o = some (.lst (cs.map V.ref)) ∧ Items H3 cs (((all i).take j).flatMap more) ∧ ∀ c ∈ cs, c ≠ o)
        ⟨[], _, rfl, so, upd_same, Items.nil, fun c h => by cases h⟩ (fun j σ H3 _ ⟨_, _, _, s3, _⟩ => SqL.of (s3 _ _ hb)) ?_ ?_⟩
      · rintro j y σ H3 hj ⟨cs, z4, rfl, s3, hO, hC, hf⟩
        obtain ⟨d, hd, rfl⟩ := refs_get hj
        obtain ⟨g, hg, hHd⟩ := hI.at_ j d hd
        have hgm : g ∈ all i := List.mem_of_getElem? hg
        have hgl := all_len i g hgm
        have hgc := all_cnt i g hgm
        refine ⟨.ref o, rfl, .inl ⟨rfl, _, SqL.of hO⟩, .ref d, rfl, d, g, rfl, s3 _ _ hHd, by omega, by omega, fun H4 p ds s4 np hp hM hfr => ?_⟩
        have et : ((all i).take (j + 1)).flatMap more = ((all i).take j).flatMap more ++ more g := by
          rw [take_snoc hg, List.flatMap_append]
          simp
        refine ⟨o, p, _, _, rfl, rfl, s4 _ _ hO, hp, ?_, cs ++ ds, _, rfl, ?_, ?_, ?_, ?_⟩
        · rw [List.length_map, List.length_map, hC.len, hM.len, ← List.length_append, ← et]
          have h1 := flat_take more (all i) (j + 1)
          have h2 := all_size (k := i + 1) (by omega)
          rw [all_succ] at h2
          exact Nat.le_of_lt (room (by omega))
        · exact same_upd' no (s3.trans s4)
        · rw [upd_same, List.map_append]
        · rw [et]
          refine Items.but (D := o) ((hC.same s4).append hM) (fun b' o' hb' e => ?_) fun c hc => ?_
          · rw [upd_ne hb']
            exact e
          · rcases List.mem_append.mp hc with h | h
            · exact hf c h
            · intro e
              have := (hfr c h).1
              rw [e, hO] at this
              cases this
        · intro c hc
          rcases List.mem_append.mp hc with h | h
          · exact hf c h
          · intro e
            have := (hfr c h).1
            rw [e, hO] at this
            cases this
      · rintro σ H3 ⟨cs, z4, rfl, s3, hO, hC, hf⟩
        refine ⟨.ref o, rfl, o, cs, _, _, _, rfl, sm.trans s3, hO, ?_⟩
        rw [List.length_map, hI.len, List.take_length] at hC
        exact hC
    · rintro σ H1 ⟨b, as, y2, y3, y4, rfl, sm, hb, hI⟩
      exact ⟨.ref b, rfl, q H1 b as sm hb (by rw [Int.toNat_natCast] at hI; exact hI)⟩

/-! ### has_with -/
def spHas (K : PySem.W.Frag) : Sp := fun vs H Q _ => ∃ (a b : Addr) (n i : Nat) (v : List Int) (m : List Nat), vs = [.int (n : Int), .ref a, .int (i : Int), .ref b] ∧ SqL K H a (vi v) ∧ SqL K H b (vi (zs m)) ∧ n ≤ 5 ∧ i < n ∧ v.length = n * n ∧ (∀ j ∈ m, j < n) ∧ m.length ≤ 1000 ∧
  ∀ H', Same H H' → Q (.int (with_ ⟨n, v⟩ i m)) H'
theorem scHas : FnScope ["n", "worth", "person", "members", "other"] ["n", "worth", "person", "members"] (defScope sHas) := ⟨rfl, rfl, rfl, by decide +kernel, rfl, by decide +kernel, by decide +kernel⟩
theorem ok_has {f : Addr} {fd : FuncData} {k : Nat} (F : Fun K "has_with" "has_with" sHas f fd) (ms : mg "sum" = none) : FnOk P w K mg base CX0 (k + 1) f fd ["n", "worth", "person", "members"] (spHas K) := by
  refine F.ok scHas (fun vs H Q E h => ?_) (fun cdv A outer s H vs Q E hr h => ?_)
  · obtain ⟨a, b, n, i, v, m, rfl, _⟩ := h
    rfl
  · obtain ⟨a, b, n, i, v, m, rfl, hA, hB, hn, hi, hv, hm, hml, q⟩ := h
    refine ⟨_, pss_one (ps_ret (pe_callB (cr_sum (by rfl)) (by rfl) ms (by decide +kernel) (pa_cons (pe_lc (own := [("other", 4)]) (g := gName 4) (by rfl) scHas.nd (pi_list (pv 3))
      (blkOk_by (N := ["n", "worth", "person", "members", "other"]) (sc := defScope sHas) (by decide +kernel)) (fun _ _ _ _ _ => pg_name (i := 4) scHas.nd rfl (Or.inl rfl))
      (fun _ _ _ _ _ => pts_one (pt_cmpR op_ne (pv 4) (pv 2) (nomark _))) (fun _ _ _ _ _ => pe_ix (r := rIxL K) ix_list (pv 1) (pe_op op_add (pe_op op_mul (pv 2) (pv 0)) (pv 4)) (fun _ _ => rfl))) pa_nil))), ?_⟩
    refine ⟨.ref b, rfl, b, rfl, ⟨_, hB⟩, fun D nD => ?_⟩
    refine lc_list (K := K) (a := b) (xs := vi (zs m)) (fun t H' => Same H H' ∧ H' D = some (.lst (vi (picks n v i (m.take t))))) ⟨same_upd nD, upd_same⟩ (fun t H' _ ⟨sm, _⟩ => sm.seq hB) ?_ ?_
    · rintro t x H1 hx ⟨sm, hD⟩
      obtain ⟨j, hj, rfl⟩ := zs_get hx
      have hjn : j < n := hm j (List.mem_of_getElem? hj)
      refine ⟨rfl, .int (j : Int), rfl, .int (i : Int), rfl, rfl, _, rfl, ?_⟩
      refine ite2 (fun e => ?_) (fun e => ?_)
      · have e0 : ¬ j = i := fun z => by
          rw [z] at e
          simp at e
        have hlt := at_lt hi hjn
        have el : v[i * n + j]? = some (v.getD (i * n + j) 0) := by
          rw [List.getD_eq_getElem?_getD, List.getElem?_eq_getElem (by omega)]
          rfl
        refine ⟨.ref a, rfl, .int (i : Int), rfl, .int (n : Int), rfl, _, _, rfl, rfl, .inl ⟨by omega, by omega⟩, .int (j : Int), rfl, _, _, rfl, rfl, a, _, _, .int (v.getD (i * n + j) 0), rfl, rfl, sm.seq hA, at_of (j := i * n + j) (by rw [Int.natCast_add, Int.natCast_mul]) (by rw [List.getElem?_map, el]; rfl), _, hD, ?_, same_upd' nD sm, ?_⟩
        · rw [List.length_map]
          refine room (Nat.le_trans (picks_len ..) (Nat.le_trans ?_ hml))
          rw [List.length_take]
          omega
        · rw [upd_same, take_snoc hj, picks_snoc, if_neg e0, ← vi_snoc]
      · have e0 : j = i := by
          apply Decidable.byContradiction
          intro z
          refine e ?_
          have : ¬ (V.int (j : Int) = V.int (i : Int)) := fun y => z (by have := V.int.inj y; omega)
          simp [this]
        refine ⟨sm, ?_⟩
        rw [take_snoc hj, picks_snoc, if_pos e0]
        exact hD
    · rintro H1 ⟨sm, hD⟩
      rw [List.length_map, List.length_map, List.take_length] at hD
      refine ⟨D, picks n v i m, rfl, SqL.of hD, ?_⟩
      rw [picks_sum]
      exact q H1 sm

/-! ### is_welcome -/
def spWelc (K : PySem.W.Frag) : Sp := fun vs H Q _ => ∃ (a b : Addr) (n i : Nat) (v : List Int) (m : List Nat), vs = [.int (n : Int), .ref a, .int (i : Int), .ref b] ∧ SqL K H a (vi v) ∧ SqL K H b (vi (zs m)) ∧ n ≤ 5 ∧ i < n ∧ v.length = n * n ∧ (∀ j ∈ m, j < n) ∧ m.length ≤ 1000 ∧
  ∀ H', Same H H' → Q (.bl (welc n v i m)) H'
theorem scWelc : FnScope ["n", "worth", "person", "joined", "other"] ["n", "worth", "person", "joined"] (defScope sWelc) := ⟨rfl, rfl, rfl, by decide +kernel, rfl, by decide +kernel, by decide +kernel⟩
theorem ok_welc {f : Addr} {fd : FuncData} {k : Nat} (F : Fun K "is_welcome" "is_welcome" sWelc f fd) (ma : mg "all" = none) : FnOk P w K mg base CX0 (k + 1) f fd ["n", "worth", "person", "joined"] (spWelc K) := by
  refine F.ok scWelc (fun vs H Q E h => ?_) (fun cdv A outer s H vs Q E hr h => ?_)
  · obtain ⟨a, b, n, i, v, m, rfl, _⟩ := h
    rfl
  · obtain ⟨a, b, n, i, v, m, rfl, hA, hB, hn, hi, hv, hm, hml, q⟩ := h
    refine ⟨_, pss_one (ps_ret (pe_callB (cr_all (by rfl)) (by rfl) ma (by decide +kernel) (pa_cons (pe_lc (own := [("other", 4)]) (g := gName 4) (by rfl) scWelc.nd (pi_list (pv 3))
      (blkOk_by (N := ["n", "worth", "person", "joined", "other"]) (sc := defScope sWelc) (by decide +kernel)) (fun _ _ _ _ _ => pg_name (i := 4) scWelc.nd rfl (Or.inl rfl))
      (fun _ _ _ _ _ => pts_nil) (fun _ _ _ _ _ => pe_cmpR op_ge (pe_ix (r := rIxL K) ix_list (pv 1) (pe_op op_add (pe_op op_mul (pv 4) (pv 0)) (pv 2)) (fun _ _ => rfl)) pe_int (nomark _))) pa_nil))), ?_⟩
    refine ⟨.ref b, rfl, b, rfl, ⟨_, hB⟩, fun D nD => ?_⟩
    refine lc_list (K := K) (a := b) (xs := vi (zs m)) (fun t H' => Same H H' ∧ H' D = some (.lst (((m.take t).map fun j => decide (0 ≤ v.getD (j * n + i) 0)).map V.bl))) ⟨same_upd nD, upd_same⟩ (fun t H' _ ⟨sm, _⟩ => sm.seq hB) ?_ ?_
    · rintro t x H1 hx ⟨sm, hD⟩
      obtain ⟨j, hj, rfl⟩ := zs_get hx
      have hjn : j < n := hm j (List.mem_of_getElem? hj)
      have hlt := at_lt hjn hi
      have el : v[j * n + i]? = some (v.getD (j * n + i) 0) := by
        rw [List.getD_eq_getElem?_getD, List.getElem?_eq_getElem (by omega)]
        rfl
      refine ⟨rfl, .ref a, rfl, .int (j : Int), rfl, .int (n : Int), rfl, _, _, rfl, rfl, .inl ⟨by omega, by omega⟩, .int (i : Int), rfl, _, _, rfl, rfl, a, _, _, .int (v.getD (j * n + i) 0), rfl, rfl, sm.seq hA, at_of (j := j * n + i) (by rw [Int.natCast_add, Int.natCast_mul]) (by rw [List.getElem?_map, el]; rfl), _, _, rfl, rfl, _, hD, ?_, same_upd' nD sm, ?_⟩
      · rw [List.length_map, List.length_map, List.length_take]
        exact room (by omega)
      · rw [upd_same, take_snoc hj, List.map_append, List.map_append]
        rfl
    · rintro H1 ⟨sm, hD⟩
      rw [List.length_map, List.length_map, List.take_length] at hD
      refine ⟨D, _, rfl, SqL.of hD, ?_⟩
      have z := q H1 sm
      unfold welc at z
      rw [List.all_map]
      exact z

/-! ### is_let_go -/
def spLeto (K : PySem.W.Frag) : Sp := fun vs H Q _ => ∃ (a b : Addr) (n i : Nat) (v : List Int) (m : List Nat), vs = [.int (n : Int), .ref a, .int (i : Int), .ref b] ∧ SqL K H a (vi v) ∧ SqL K H b (vi (zs m)) ∧ n ≤ 5 ∧ i < n ∧ v.length = n * n ∧ (∀ j ∈ m, j < n) ∧ m.length ≤ 1000 ∧
  ∀ H', Same H H' → Q (.bl (leto n v i m)) H'
theorem scLeto : FnScope ["n", "worth", "person", "left", "other"] ["n", "worth", "person", "left"] (defScope sLeto) := ⟨rfl, rfl, rfl, by decide +kernel, rfl, by decide +kernel, by decide +kernel⟩
theorem others_snoc (i : Nat) (s : List Nat) (j : Nat) : ((s ++ [j]).filter fun j => decide (¬ j = i)) = if j = i then s.filter (fun j => decide (¬ j = i)) else s.filter (fun j => decide (¬ j = i)) ++ [j] := by
  rw [List.filter_append]
  by_cases h : j = i
  · rw [if_pos h, List.filter_cons, if_neg (by simp [h])]
    simp
  · rw [if_neg h, List.filter_cons, if_pos (by simp [h])]
    simp
theorem ok_leto {f : Addr} {fd : FuncData} {k : Nat} (F : Fun K "is_let_go" "is_let_go" sLeto f fd) (ma : mg "all" = none) : FnOk P w K mg base CX0 (k + 1) f fd ["n", "worth", "person", "left"] (spLeto K) := by
  refine F.ok scLeto (fun vs H Q E h => ?_) (fun cdv A outer s H vs Q E hr h => ?_)
  · obtain ⟨a, b, n, i, v, m, rfl, _⟩ := h
    rfl
  · obtain ⟨a, b, n, i, v, m, rfl, hA, hB, hn, hi, hv, hm, hml, q⟩ := h
    refine ⟨_, pss_one (ps_ret (pe_callB (cr_all (by rfl)) (by rfl) ma (by decide +kernel) (pa_cons (pe_lc (own := [("other", 4)]) (g := gName 4) (by rfl) scLeto.nd (pi_list (pv 3))
      (blkOk_by (N := ["n", "worth", "person", "left", "other"]) (sc := defScope sLeto) (by decide +kernel)) (fun _ _ _ _ _ => pg_name (i := 4) scLeto.nd rfl (Or.inl rfl))
      (fun _ _ _ _ _ => pts_one (pt_cmpR op_ne (pv 4) (pv 2) (nomark _))) (fun _ _ _ _ _ => pe_cmpR op_le (pe_ix (r := rIxL K) ix_list (pv 1) (pe_op op_add (pe_op op_mul (pv 4) (pv 0)) (pv 2)) (fun _ _ => rfl)) pe_int (nomark _))) pa_nil))), ?_⟩
    refine ⟨.ref b, rfl, b, rfl, ⟨_, hB⟩, fun D nD => ?_⟩
    refine lc_list (K := K) (a := b) (xs := vi (zs m)) (fun t H' => Same H H' ∧ H' D = some (.lst ((((m.take t).filter fun j => decide (¬ j = i)).map fun j => decide (v.getD (j * n + i) 0 ≤ 0)).map V.bl))) ⟨same_upd nD, upd_same⟩ (fun t H' _ ⟨sm, _⟩ => sm.seq hB) ?_ ?_
    · rintro t x H1 hx ⟨sm, hD⟩
      obtain ⟨j, hj, rfl⟩ := zs_get hx
      have hjn : j < n := hm j (List.mem_of_getElem? hj)
      have hlt := at_lt hjn hi
      have el : v[j * n + i]? = some (v.getD (j * n + i) 0) := by
        rw [List.getD_eq_getElem?_getD, List.getElem?_eq_getElem (by omega)]
        rfl
      refine ⟨rfl, .int (j : Int), rfl, .int (i : Int), rfl, rfl, _, rfl, ?_⟩
      refine ite2 (fun e => ?_) (fun e => ?_)
      · have e0 : ¬ j = i := fun z => by
          rw [z] at e
          simp at e
        refine ⟨.ref a, rfl, .int (j : Int), rfl, .int (n : Int), rfl, _, _, rfl, rfl, .inl ⟨by omega, by omega⟩, .int (i : Int), rfl, _, _, rfl, rfl, a, _, _, .int (v.getD (j * n + i) 0), rfl, rfl, sm.seq hA, at_of (j := j * n + i) (by rw [Int.natCast_add, Int.natCast_mul]) (by rw [List.getElem?_map, el]; rfl), _, _, rfl, rfl, _, hD, ?_, same_upd' nD sm, ?_⟩
        · rw [List.length_map, List.length_map]
          refine room (Nat.le_trans (List.length_filter_le _ _) ?_)
          rw [List.length_take]
          omega
        · rw [upd_same, take_snoc hj, others_snoc, if_neg e0, List.map_append, List.map_append]
          rfl
      · have e0 : j = i := by
          apply Decidable.byContradiction
          intro z
          refine e ?_
          have : ¬ (V.int (j : Int) = V.int (i : Int)) := fun y => z (by have := V.int.inj y; omega)
          simp [this]
        refine ⟨sm, ?_⟩
        rw [take_snoc hj, others_snoc, if_pos e0]
        exact hD
    · rintro H1 ⟨sm, hD⟩
      rw [List.length_map, List.length_map, List.take_length] at hD
      refine ⟨D, _, rfl, SqL.of hD, ?_⟩
      have z := q H1 sm
      unfold leto at z
      rw [List.all_map]
      exact z

/-! ### may_go -/
def spMay (K : PySem.W.Frag) : Sp := fun vs H Q _ => ∃ (a b c : Addr) (n w i : Nat) (v : List Int) (l m : List Nat), vs = [.int (n : Int), .int (w : Int), .ref a, .int (i : Int), .ref b, .ref c] ∧ SqL K H a (vi v) ∧ SqL K H b (vi (zs l)) ∧ SqL K H c (vi (zs m)) ∧ n ≤ 5 ∧ i < n ∧ v.length = n * n ∧ (∀ j ∈ l, j < n) ∧ l.length ≤ 1000 ∧ (∀ j ∈ m, j < n) ∧ m.length ≤ 1000 ∧
  ∀ H', Same H H' → Q (.bl (mayv n v w i l m)) H'
theorem scMay : FnScope ["n", "w", "worth", "person", "left", "joined"] ["n", "w", "worth", "person", "left", "joined"] (defScope sMay) := ⟨rfl, rfl, rfl, by decide +kernel, rfl, by decide +kernel, by decide +kernel⟩
theorem ok_may {f f1 f2 f3 : Addr} {fd fd1 fd2 fd3 : FuncData} {k : Nat} {t1 t2 : Tok} (F : Fun K "may_go" "may_go" sMay f fd)
    (F1 : Fun K "has_with" "has_with" sHas f1 fd1) (b1 : Binds K fd1 ["n", "worth", "person", "members"] []) (g1 : mg "has_with" = some (.ref f1)) (G1 : FnOk P w K mg base CX0 (k + 1) f1 fd1 ["n", "worth", "person", "members"] (spHas K))
    (F2 : Fun K "is_welcome" "is_welcome" sWelc f2 fd2) (b2 : Binds K fd2 ["n", "worth", "person", "joined"] []) (g2 : mg "is_welcome" = some (.ref f2)) (G2 : FnOk P w K mg base CX0 (k + 1) f2 fd2 ["n", "worth", "person", "joined"] (spWelc K))
    (F3 : Fun K "is_let_go" "is_let_go" sLeto f3 fd3) (b3 : Binds K fd3 ["n", "worth", "person", "left"] []) (g3 : mg "is_let_go" = some (.ref f3)) (G3 : FnOk P w K mg base CX0 (k + 1) f3 fd3 ["n", "worth", "person", "left"] (spLeto K))
    (m1 : mg "WHERE_WELCOME" = some (.int 1 t1)) (m2 : mg "WHERE_LET_GO" = some (.int 2 t2)) : FnOk P w K mg base CX0 (k + 2) f fd ["n", "w", "worth", "person", "left", "joined"] (spMay K) := by
  refine F.ok scMay (fun vs H Q E h => ?_) (fun cdv A outer s H vs Q E hr h => ?_)
  · obtain ⟨a, b, c, n, w, i, v, l, m, rfl, _⟩ := h
    rfl
  · obtain ⟨a, b, c, n, w, i, v, l, m, rfl, hA, hB, hC, hn, hi, hv, hl, hll, hm, hml, q⟩ := h
    refine ⟨_, pss_cons (ps_if (pt_cmpR op_le (pe_call G1 hr (by rfl) g1 F1.kp b1 .nil pass0 (pa_cons (pv 0) (pa_cons (pv 2) (pa_cons (pv 3) (pa_cons (pv 5) pa_nil))))) (pe_call G1 hr (by rfl) g1 F1.kp b1 .nil pass0 (pa_cons (pv 0) (pa_cons (pv 2) (pa_cons (pv 3) (pa_cons (pv 4) pa_nil))))) (nomark _))
        (pss_one (ps_ret pe_bl)) pss_nil)
      (pss_cons (ps_if (PW.pt (pw_and (pt_cmpR op_ge (pv 1) (pe_glob (v := .int 1) (by rfl) m1 ⟨_, rfl⟩) (nomark _)) (pw_and1 (pt_not (pt_val (pe_call G2 hr (by rfl) g2 F2.kp b2 .nil pass0 (pa_cons (pv 0) (pa_cons (pv 2) (pa_cons (pv 3) (pa_cons (pv 5) pa_nil))))))))))
        (pss_one (ps_ret pe_bl)) pss_nil)
      (pss_one (ps_ret (pe_or (pe_cmpR op_lt (pv 1) (pe_glob (v := .int 2) (by rfl) m2 ⟨_, rfl⟩) (nomark _)) (pe_one (pe_call G3 hr (by rfl) g3 F3.kp b3 .nil pass0 (pa_cons (pv 0) (pa_cons (pv 2) (pa_cons (pv 3) (pa_cons (pv 4) pa_nil)))))))))), ?_⟩
    refine ⟨.int (n : Int), rfl, .ref a, rfl, .int (i : Int), rfl, .ref c, rfl, a, c, n, i, v, m, rfl, hA, hC, hn, hi, hv, hm, hml, fun H1 s1 => ?_⟩
    refine ⟨.int (n : Int), rfl, .ref a, rfl, .int (i : Int), rfl, .ref b, rfl, a, b, n, i, v, l, rfl, s1.seq hA, s1.seq hB, hn, hi, hv, hl, hll, fun H2 s2 => ?_⟩
    have s12 := s1.trans s2
    have last : ¬ with_ ⟨n, v⟩ i m ≤ with_ ⟨n, v⟩ i l → ¬ (1 ≤ w ∧ welc n v i m = false) → ∀ H3, Same H H3 → (tOrV (tOp (rI0 fun i j => .bl (decide (i < j))) (tVar 1) (tC (.int 2))) (tCall (spLeto K) [] E0 (tCons (tVar 0) (tCons (tVar 2) (tCons (tVar 3) (tCons (tVar 4) tNil)))))) [some (.int (n : Int)), some (.int (w : Int)), some (.ref a), some (.int (i : Int)), some (.ref b), some (.ref c)] H3 Q := by
      intro e1 e2 H3 s3
      have q' : ∀ H', Same H H' → Q (.bl (decide (w < 2) || leto n v i l)) H' := fun H' s' => by
        have z := q H' s'
        unfold mayv at z
        rw [if_neg e1, if_neg e2] at z
        exact z
      refine ⟨.int (w : Int), rfl, _, _, rfl, rfl, _, rfl, ite2 (fun e => ?_) (fun e => ?_)⟩
      · have e := of_decide_eq_true e
        have z := q' H3 s3
        rw [decide_eq_true (show w < 2 by omega)] at z
        exact z
      · have e : ¬ w < 2 := fun z => e (decide_eq_true (show (w : Int) < 2 by omega))
        refine ⟨.int (n : Int), rfl, .ref a, rfl, .int (i : Int), rfl, .ref b, rfl, a, b, n, i, v, l, rfl, s3.seq hA, s3.seq hB, hn, hi, hv, hl, hll, fun H4 s4 => ?_⟩
        have z := q' H4 (s3.trans s4)
        rw [decide_eq_false e, Bool.false_or] at z
        exact z
    refine ⟨_, _, rfl, rfl, _, rfl, ite2 (fun e => ?_) (fun e => ?_)⟩
    · have e := of_decide_eq_true e
      have z := q H2 s12
      unfold mayv at z
      rw [if_pos e] at z
      exact z
    have e1 : ¬ with_ ⟨n, v⟩ i m ≤ with_ ⟨n, v⟩ i l := fun z => e (decide_eq_true z)
    refine ⟨.int (w : Int), rfl, _, _, rfl, rfl, _, rfl, ite2 (fun e => ?_) (fun e => ?_)⟩
    · have e := of_decide_eq_true e
      refine ⟨.int (n : Int), rfl, .ref a, rfl, .int (i : Int), rfl, .ref c, rfl, a, c, n, i, v, m, rfl, s12.seq hA, s12.seq hC, hn, hi, hv, hm, hml, fun H3 s3 => ⟨_, rfl, ?_⟩⟩
      cases ew : welc n v i m with
      | false =>
        have z := q H3 (s12.trans s3)
        unfold mayv at z
        rw [if_neg e1, if_pos ⟨by omega, ew⟩] at z
        exact z
      | true => exact last e1 (fun z => by rw [ew] at z; cases z.2) H3 (s12.trans s3)
    · have e : ¬ 1 ≤ w := fun z => e (decide_eq_true (show (w : Int) ≥ 1 by omega))
      exact last e1 (fun z => e z.1) H2 s12

/-! ### members_of -/
def spMembers (K : PySem.W.Frag) : Sp := fun vs H Q _ => ∃ (a : Addr) (g : List Nat) (k : Nat), vs = [.ref a, .int (k : Int)] ∧ SqL K H a (vi (zs g)) ∧ g.length ≤ 1000 ∧
  ∀ H' p, Same H H' → H p = none → H' p = some (.lst (vi (zs (members g k)))) → Q (.ref p) H'
theorem scMembers : FnScope ["way", "number", "person"] ["way", "number"] (defScope sMembers) := ⟨rfl, rfl, rfl, by decide +kernel, rfl, by decide +kernel, by decide +kernel⟩
theorem ok_members {f : Addr} {fd : FuncData} {k : Nat} (F : Fun K "members_of" "members_of" sMembers f fd) (mr : mg "range" = none) (ml : mg "len" = none) : FnOk P w K mg base CX0 (k + 1) f fd ["way", "number"] (spMembers K) := by
  refine F.ok scMembers (fun vs H Q E h => ?_) (fun cdv A outer s H vs Q E hr h => ?_)
  · obtain ⟨a, g, k, rfl, _⟩ := h
    rfl
  · obtain ⟨a, g, k, rfl, hS, hlen, q⟩ := h
    refine ⟨_, pss_one (ps_ret (pe_lc (own := [("person", 2)]) (g := gName 2) (by rfl) scMembers.nd (pi_range1 (by rfl) mr (pa_cons (pe_callB call_len_seq (by rfl) ml PySem.boot_len (pa_cons (pv 0) pa_nil)) pa_nil))
      (blkOk_by (N := ["way", "number", "person"]) (sc := defScope sMembers) (by decide +kernel)) (fun _ _ _ _ _ => pg_name (i := 2) scMembers.nd rfl (Or.inl rfl))
      (fun _ _ _ _ _ => pts_one (pt_cmpR op_eq (pe_ix (r := rIxL K) ix_list (pv 0) (pv 2) (fun _ _ => rfl)) (pv 1) (nomark _))) (fun _ _ _ _ _ => pv 2))), ?_⟩
    have el : (vi (zs g)).length = g.length := by rw [List.length_map, zs_len]
    refine ⟨.ref a, rfl, a, _, rfl, .inl hS, _, rfl, ?_, ?_, fun D nD => ?_⟩
    · rw [el]; omega
    · rw [el]; omega
    rw [el]
    refine lc_range (lo := 0) (n := ((g.length : Nat) : Int).toNat) (fun i H' => Same H H' ∧ H' D = some (.lst (vi (zs ((List.range i).filter fun j => g.getD j 0 == k))))) ⟨same_upd nD, upd_same⟩ ?_ ?_
    · rintro i H1 hi ⟨sm, hD⟩
      have hi' : i < g.length := by omega
      refine ⟨rfl, .ref a, rfl, .int (0 + (i : Int)), rfl, a, _, _, _, rfl, rfl, sm.seq hS, at_of (j := i) (by omega) (zs_at hi'), .int (k : Int), rfl, rfl, _, rfl, ?_⟩
      have e1 : (List.range (i + 1)).filter (fun j => g.getD j 0 == k) = (List.range i).filter (fun j => g.getD j 0 == k) ++ (if g.getD i 0 == k then [i] else []) := by
        rw [List.range_succ, List.filter_append, List.filter_cons, List.filter_nil]
      refine ite2 (fun e => ?_) (fun e => ?_)
      · have e0 : g.getD i 0 = k := by
          have := V.int.inj (of_decide_eq_true e)
          omega
        refine ⟨.int (0 + (i : Int)), rfl, _, hD, ?_, same_upd' nD sm, ?_⟩
        · rw [List.length_map, zs_len]
          refine room (Nat.le_trans (List.length_filter_le _ _) ?_)
          rw [List.length_range]
          omega
        · rw [upd_same, e1, if_pos (beq_iff_eq.mpr e0), ← zs_snoc, ← vi_snoc, Int.zero_add]
      · have e0 : ¬ g.getD i 0 = k := fun z => e (by rw [z]; simp)
        refine ⟨sm, ?_⟩
        rw [e1, if_neg (fun z => e0 (beq_iff_eq.mp z)), List.append_nil]
        exact hD
    · rintro H1 ⟨sm, hD⟩
      exact q H1 D sm nD (by rw [Int.toNat_natCast] at hD; exact hD)

/-! ### is_at_rest -/
def spRest (K : PySem.W.Frag) : Sp := fun vs H Q _ => ∃ (a b : Addr) (n w : Nat) (v : List Int) (g : List Nat), vs = [.int (n : Int), .int (w : Int), .ref a, .ref b] ∧ SqL K H a (vi v) ∧ SqL K H b (vi (zs g)) ∧ 1 ≤ n ∧ n ≤ 5 ∧ w ≤ 2 ∧ v.length = n * n ∧ g.length = n ∧ cnt g ≤ 5 ∧
  ∀ H', Same H H' → Q (.bl (Ks565.rests ⟨n, v⟩ w g)) H'
theorem scRest : FnScope ["n", "w", "worth", "way", "person", "number"] ["n", "w", "worth", "way"] (defScope sRest) := ⟨rfl, rfl, rfl, by decide +kernel, rfl, by decide +kernel, by decide +kernel⟩
theorem ok_rest {f f1 f2 f3 : Addr} {fd fd1 fd2 fd3 : FuncData} {k : Nat} (F : Fun K "is_at_rest" "is_at_rest" sRest f fd)
    (F1 : Fun K "count_groups" "count_groups" sCount f1 fd1) (b1 : Binds K fd1 ["way"] []) (g1 : mg "count_groups" = some (.ref f1)) (G1 : FnOk P w K mg base CX0 (k + 2) f1 fd1 ["way"] (spCount K))
    (F2 : Fun K "may_go" "may_go" sMay f2 fd2) (b2 : Binds K fd2 ["n", "w", "worth", "person", "left", "joined"] []) (g2 : mg "may_go" = some (.ref f2)) (G2 : FnOk P w K mg base CX0 (k + 2) f2 fd2 ["n", "w", "worth", "person", "left", "joined"] (spMay K))
    (F3 : Fun K "members_of" "members_of" sMembers f3 fd3) (b3 : Binds K fd3 ["way", "number"] []) (g3 : mg "members_of" = some (.ref f3)) (G3 : FnOk P w K mg base CX0 (k + 2) f3 fd3 ["way", "number"] (spMembers K))
    (mr : mg "range" = none) : FnOk P w K mg base CX0 (k + 3) f fd ["n", "w", "worth", "way"] (spRest K) := by
  refine F.ok scRest (fun vs H Q E h => ?_) (fun cdv A outer s H vs Q E hr h => ?_)
  · obtain ⟨a, b, n, w, v, g, rfl, _⟩ := h
    rfl
  · obtain ⟨a, b, n, w, v, g, rfl, hA, hB, hn1, hn, hw, hv, hg, hc, q⟩ := h
    have hne : g ≠ [] := fun z => by
      rw [z] at hg
      simp at hg
      omega
    have hgr : groups g = cnt g := groups_cnt hne
    refine ⟨_, pss_cons (ps_for PassesOwn.never rfl (pi_range1 (by rfl) mr (pa_cons (pv 0) pa_nil)) (pg_name (i := 4) scRest.nd rfl (.inl rfl))
        (pss_one (ps_for PassesOwn.never rfl (pi_range1 (by rfl) mr (pa_cons (pe_op op_add (pe_call G1 hr (by rfl) g1 F1.kp b1 .nil pass0 (pa_cons (pv 3) pa_nil)) pe_int) pa_nil)) (pg_name (i := 5) scRest.nd rfl (.inl rfl))
          (pss_one (ps_if (pt_val (pe_call G2 hr (by rfl) g2 F2.kp b2 .nil pass0 (pa_cons (pv 0) (pa_cons (pv 1) (pa_cons (pv 2) (pa_cons (pv 4)
            (pa_cons (pe_call G3 hr (by rfl) g3 F3.kp b3 .nil pass0 (pa_cons (pv 3) (pa_cons (pe_ix ix_list (pv 3) (pv 4) (fun _ _ => rfl)) pa_nil))) (pa_cons (pe_call G3 hr (by rfl) g3 F3.kp b3 .nil pass0 (pa_cons (pv 3) (pa_cons (pv 5) pa_nil))) pa_nil))))))))
            (pss_one (ps_ret pe_bl)) pss_nil)))))
      (pss_one (ps_ret pe_bl)), ?_⟩
    refine ⟨.int (n : Int), rfl, _, rfl, by omega, by omega, for_range (lo := 0) (n := ((n : Nat) : Int).toNat) (fun i σ H' => ∃ y4 y5, σ = [some (.int (n : Int)), some (.int (w : Int)), some (.ref a), some (.ref b), y4, y5] ∧ Same H H' ∧ ∀ i', i' < i → ∀ k', k' < cnt g + 1 → Ks565.may ⟨n, v⟩ w g i' k' = false)
      ⟨none, none, rfl, Same.refl _, fun i' hi' => absurd hi' (Nat.not_lt_zero _)⟩ ?_ ?_⟩
    · rintro i σ H1 hi ⟨y4, y5, rfl, sm, hno⟩
      have hi' : i < n := by omega
      refine ⟨.ref b, rfl, b, g, rfl, sm.seq hB, _, _, rfl, rfl, _, rfl, by omega, by omega, for_range (lo := 0) (n := ((cnt g : Nat) + 1 : Int).toNat) (fun j σ H' => ∃ y5, σ = [some (.int (n : Int)), some (.int (w : Int)), some (.ref a), some (.ref b), some (.int (0 + (i : Int))), y5] ∧ Same H H' ∧ ∀ k', k' < j → Ks565.may ⟨n, v⟩ w g i k' = false)
        ⟨_, rfl, sm, fun k' hk' => absurd hk' (Nat.not_lt_zero _)⟩ ?_ ?_⟩
      · rintro j σ H2 hj ⟨y5, rfl, s2, hno2⟩
        have hj' : j < cnt g + 1 := by omega
        refine ⟨.int (n : Int), rfl, .int (w : Int), rfl, .ref a, rfl, .int (0 + (i : Int)), rfl, .ref b, rfl, .ref b, rfl, .int (0 + (i : Int)), rfl, b, _, _, _, rfl, rfl, s2.seq hB, at_of (j := i) (by omega) (zs_at (by omega)), b, g, g.getD i 0, rfl, s2.seq hB, by omega, fun H3 p3 s3 n3 hp3 => ?_⟩
        refine ⟨.ref b, rfl, .int (0 + (j : Int)), rfl, b, g, j, by rw [Int.zero_add]; rfl, (s2.trans s3).seq hB, by omega, fun H4 p4 s4 n4 hp4 => ?_⟩
        have s24 := (s2.trans s3).trans s4
        refine ⟨a, p3, p4, n, w, i, v, members g (g.getD i 0), members g j, by rw [Int.zero_add]; rfl, s24.seq hA, SqL.of (s4 _ _ hp3), SqL.of hp4, hn, hi', hv, fun j hj => by have := members_lt hj; omega, by have := members_len g (g.getD i 0); omega, fun x hx => by have := members_lt hx; omega, by have := members_len g j; omega, fun H5 s5 => ⟨_, rfl, ?_⟩⟩
        rw [mayv_is hw (by omega)]
        cases em : Ks565.may ⟨n, v⟩ w g i j with
        | true =>
          have z := q H5 (s24.trans s5)
          have er : Ks565.rests ⟨n, v⟩ w g = false := by
            cases e : Ks565.rests ⟨n, v⟩ w g with
            | false => rfl
            | true =>
              rw [rests_iff.mp e i hi' j (by omega)] at em
              cases em
          rw [er] at z
          exact z
        | false =>
          refine ⟨_, rfl, s24.trans s5, fun k' hk' => ?_⟩
          by_cases e : k' = j
          · rw [e]
            exact em
          · exact hno2 k' (by omega)
      · rintro σ H2 ⟨y5, rfl, s2, hno2⟩
        refine ⟨_, _, rfl, s2, fun i' hi'' k' hk' => ?_⟩
        by_cases e : i' = i
        · rw [e]
          exact hno2 k' (by omega)
        · exact hno i' (by omega) k' hk'
    · rintro σ H1 ⟨y4, y5, rfl, sm, hno⟩
      have z := q H1 sm
      have er : Ks565.rests ⟨n, v⟩ w g = true := rests_iff.mpr fun i hi k' hk' => hno i (by show i < (n : Int).toNat; have : i < n := hi; omega) k' (by omega)
      rw [er] at z
      exact z

/-! ### what_each_has -/
def spEach (K : PySem.W.Frag) : Sp := fun vs H Q _ => ∃ (a b : Addr) (n : Nat) (v : List Int) (g : List Nat), vs = [.int (n : Int), .ref a, .ref b] ∧ SqL K H a (vi v) ∧ SqL K H b (vi (zs g)) ∧ n ≤ 5 ∧ v.length = n * n ∧ g.length = n ∧
  ∀ H' p, Same H H' → H p = none → H' p = some (.lst (vi (Ks568.worths ⟨n, v⟩ g))) → Q (.ref p) H'
theorem scEach : FnScope ["n", "worth", "way", "person"] ["n", "worth", "way"] (defScope sEach) := ⟨rfl, rfl, rfl, by decide +kernel, rfl, by decide +kernel, by decide +kernel⟩
theorem ok_each {f f1 f2 : Addr} {fd fd1 fd2 : FuncData} {k : Nat} (F : Fun K "what_each_has" "what_each_has" sEach f fd)
    (F1 : Fun K "has_with" "has_with" sHas f1 fd1) (b1 : Binds K fd1 ["n", "worth", "person", "members"] []) (g1 : mg "has_with" = some (.ref f1)) (G1 : FnOk P w K mg base CX0 (k + 1) f1 fd1 ["n", "worth", "person", "members"] (spHas K))
    (F2 : Fun K "members_of" "members_of" sMembers f2 fd2) (b2 : Binds K fd2 ["way", "number"] []) (g2 : mg "members_of" = some (.ref f2)) (G2 : FnOk P w K mg base CX0 (k + 1) f2 fd2 ["way", "number"] (spMembers K))
    (mr : mg "range" = none) : FnOk P w K mg base CX0 (k + 2) f fd ["n", "worth", "way"] (spEach K) := by
  refine F.ok scEach (fun vs H Q E h => ?_) (fun cdv A outer s H vs Q E hr h => ?_)
  · obtain ⟨a, b, n, v, g, rfl, _⟩ := h
    rfl
  · obtain ⟨a, b, n, v, g, rfl, hA, hB, hn, hv, hg, q⟩ := h
    refine ⟨_, pss_one (ps_ret (pe_lc (own := [("person", 3)]) (g := gName 3) (by rfl) scEach.nd (pi_range1 (by rfl) mr (pa_cons (pv 0) pa_nil))
      (blkOk_by (N := ["n", "worth", "way", "person"]) (sc := defScope sEach) (by decide +kernel)) (fun _ _ _ _ _ => pg_name (i := 3) scEach.nd rfl (Or.inl rfl))
      (fun _ _ _ _ _ => pts_nil) (fun _ _ _ _ _ => pe_call G1 hr (by rfl) g1 F1.kp b1 .nil pass0 (pa_cons (pv 0) (pa_cons (pv 1) (pa_cons (pv 3) (pa_cons (pe_call G2 hr (by rfl) g2 F2.kp b2 .nil pass0 (pa_cons (pv 2) (pa_cons (pe_ix (r := rIxL K) ix_list (pv 2) (pv 3) (fun _ _ => rfl)) pa_nil))) pa_nil))))))), ?_⟩
    refine ⟨.int (n : Int), rfl, _, rfl, by omega, by omega, fun D nD => ?_⟩
    refine lc_range (lo := 0) (n := ((n : Nat) : Int).toNat) (fun i H' => Same H H' ∧ H' D = some (.lst (vi ((List.range i).map (worth ⟨n, v⟩ g))))) ⟨same_upd nD, upd_same⟩ ?_ ?_
    · rintro i H1 hi ⟨sm, hD⟩
      have hi' : i < n := by omega
      refine ⟨rfl, .int (n : Int), rfl, .ref a, rfl, .int (0 + (i : Int)), rfl, .ref b, rfl, .ref b, rfl, .int (0 + (i : Int)), rfl, b, _, _, _, rfl, rfl, sm.seq hB, at_of (j := i) (by omega) (zs_at (by omega)), b, g, g.getD i 0, rfl, sm.seq hB, by omega, fun H2 p s2 np hp => ?_⟩
      refine ⟨a, p, n, i, v, members g (g.getD i 0), ?_, (sm.trans s2).seq hA, SqL.of hp, hn, hi', hv, fun j hj => ?_, ?_, fun H3 s3 => ?_⟩
      · rw [Int.zero_add]
        rfl
      · have := members_lt hj
        omega
      · have := members_len g (g.getD i 0)
        omega
      · refine ⟨_, s3 _ _ (s2 _ _ hD), ?_, same_upd' nD ((sm.trans s2).trans s3), ?_⟩
        · rw [List.length_map, List.length_map, List.length_range]
          exact room (by omega)
        · rw [upd_same, vi_snoc, List.range_succ, List.map_append]
          rfl
    · rintro H1 ⟨sm, hD⟩
      exact q H1 D sm nD (by rw [Int.toNat_natCast] at hD; exact hD)

/-! ### all_sets -/
def spSets (_ : PySem.W.Frag) : Sp := fun vs H Q _ => ∃ (n : Nat), vs = [.int (n : Int)] ∧ n ≤ 5 ∧
  ∀ H' p cs, Same H H' → H' p = some (.lst (cs.map V.ref)) → Items H' cs (subs n).tail → Q (.ref p) H'
theorem scSets : FnScope ["n", "sets", "person", "members"] ["n"] (defScope sSets) := ⟨rfl, rfl, rfl, by decide +kernel, rfl, by decide +kernel, by decide +kernel⟩
theorem cut_one : ∀ xs : List V, cutV xs (some 1) none = xs.tail
  | [] => rfl
  | x :: r => by
    have e : HT.sIx (r.length + 1) 0 (some 1) = 1 := (HT.sIx_nat (r.length + 1) 0 1).trans (by omega)
    show ((x :: r).drop (HT.sIx (r.length + 1) 0 (some 1))).take (HT.sIx (r.length + 1) (r.length + 1) none - HT.sIx (r.length + 1) 0 (some 1)) = r
    rw [e, HT.sIx_none, Nat.add_sub_cancel]
    exact List.take_length
theorem Items.tail {H : Hp} {as : List Addr} {L : List (List Nat)} (I : Items H as L) : Items H as.tail L.tail := by
  refine ⟨by rw [List.length_tail, List.length_tail, I.len], fun j q h => ?_⟩
  rw [List.getElem?_tail] at h ⊢
  exact I.at_ _ q h
theorem ok_sets {f : Addr} {fd : FuncData} {k : Nat} (F : Fun K "all_sets" "all_sets" sSets f fd) (mr : mg "range" = none) : FnOk P w K mg base CX0 (k + 1) f fd ["n"] (spSets K) := by
  refine F.ok scSets (fun vs H Q E h => ?_) (fun cdv A outer s H vs Q E hr h => ?_)
  · obtain ⟨n, rfl, _⟩ := h
    rfl
  · obtain ⟨n, rfl, hn, q⟩ := h
    refine ⟨_, pss_cons (ps_set (i := 1) scSets.nd rfl (.inl rfl) (pe_lst (pa_cons (pe_lst pa_nil) pa_nil)))
      (pss_cons (ps_for PassesOwn.never rfl (pi_range1 (by rfl) mr (pa_cons (pv 0) pa_nil)) (pg_name (i := 2) scSets.nd rfl (.inr rfl))
        (pss_one (ps_set (i := 1) scSets.nd rfl (.inl rfl) (pe_op op_cat (pv 1) (pe_lc (own := [("members", 3)]) (g := gName 3) (by rfl) scSets.nd (pi_list (pv 1))
          (blkOk_by (N := ["n", "sets", "person", "members"]) (sc := defScope sSets) (by decide +kernel)) (fun _ _ _ _ _ => pg_name (i := 3) scSets.nd rfl (Or.inl rfl))
          (fun _ _ _ _ _ => pts_nil) (fun _ _ _ _ _ => pe_op op_cat (pv 3) (pe_lst (pa_cons (pv 2) pa_nil))))))))
      (pss_one (ps_ret (pe_slice sl_list (pv 1) (po_some pe_int) po_none)))), ?_⟩
    refine ⟨Nat.zero_le _, fun p0 n0 => ⟨Nat.le_of_lt (room (by show 1 ≤ 1000; omega)), fun p1 n1 => ?_⟩⟩
    have s0 := same_upd (o := HO.lst []) n0
    have s1 := same_upd (o := HO.lst [V.ref p0]) n1
    refine ⟨.int (n : Int), rfl, _, rfl, by omega, by omega, for_range (lo := 0) (n := ((n : Nat) : Int).toNat) (fun i σ H' => ∃ b as y2 y3, σ = [some (.int (n : Int)), some (.ref b), y2, y3] ∧ Same H H' ∧ H' b = some (.lst (as.map V.ref)) ∧ Items H' as (subs i))
      ⟨p1, [p0], none, none, rfl, s0.trans s1, upd_same, Items.one (g := []) (s1 _ _ upd_same)⟩ ?_ ?_⟩
    · rintro i σ H1 hi ⟨b, as, y2, y3, rfl, sm, hb, hI⟩
      have hi' : i < n := by omega
      have hpow : 2 ^ (i + 1) ≤ 2 ^ 5 := Nat.pow_le_pow_right (by decide) (by omega)
      have hpow' : 2 ^ (i + 1) = 2 ^ i + 2 ^ i := by rw [Nat.pow_succ]; omega
      refine ⟨.ref b, rfl, .ref b, rfl, b, rfl, ⟨_, SqL.of hb⟩, fun D nD => ?_⟩
      refine lc_list (K := K) (a := b) (xs := as.map V.ref) (fun j H3 => ∃ cs, Same H1 H3 ∧ H3 D = some (.lst (cs.map V.ref)) ∧ Items H3 cs (((subs i).take j).map fun m => m ++ [i]) ∧ ∀ c ∈ cs, c ≠ D)
        ⟨[], same_upd nD, upd_same, Items.nil, fun c h => by cases h⟩ (fun j H3 _ ⟨_, s3, _⟩ => SqL.of (s3 _ _ hb)) ?_ ?_
      · rintro j y H3 hj ⟨cs, s3, hD, hC, hf⟩
        obtain ⟨d, hd, rfl⟩ := refs_get hj
        obtain ⟨m, hm, hHd⟩ := hI.at_ j d hd
        have hmm := subs_lt i m (List.mem_of_getElem? hm)
        refine ⟨rfl, .ref d, rfl, .int (0 + (i : Int)), rfl, Nat.le_of_lt (room (by show 1 ≤ 1000; omega)), fun q1 m1 => ?_⟩
        have s4 := same_upd (o := HO.lst [V.int (0 + (i : Int))]) m1
        refine ⟨d, q1, _, _, rfl, rfl, s4 _ _ (s3 _ _ hHd), upd_same, ?_, fun q2 m2 => ?_⟩
        · rw [List.length_map, zs_len]
          exact Nat.le_of_lt (room (by show m.length + 1 ≤ 1000; omega))
        have s5 := same_upd (o := HO.lst (vi (zs m) ++ [V.int (0 + (i : Int))])) m2
        have f2 : H3 q2 = none := s4.free m2
        have ne2 : q2 ≠ D := fun e => by
          rw [e, hD] at f2
          cases f2
        refine ⟨_, s5 _ _ (s4 _ _ hD), ?_, cs ++ [q2], same_upd' nD ((s3.trans s4).trans s5), ?_, ?_, fun c hc' => ?_⟩
        · rw [List.length_map, hC.len, List.length_map, List.length_take, subs_len]
          exact room (by omega)
        · rw [upd_same, List.map_append]
          rfl
        · have I2 : Items (upd (upd H3 q1 (HO.lst [V.int (0 + (i : Int))])) q2 (HO.lst (vi (zs m) ++ [V.int (0 + (i : Int))]))) (cs ++ [q2]) ((((subs i).take j).map fun m => m ++ [i]) ++ [m ++ [i]]) := by
            refine (hC.same (s4.trans s5)).append (Items.one ?_)
            rw [upd_same, Int.zero_add, ← zs_snoc, ← vi_snoc]
          rw [take_snoc hm, List.map_append]
          refine Items.but (D := D) I2 (fun b o hb e => ?_) fun c hc' => ?_
          · rw [upd_ne hb]
            exact e
          · rcases List.mem_append.mp hc' with h | h
            · exact hf c h
            · have : c = q2 := by simpa using h
              rw [this]
              exact ne2
        · rcases List.mem_append.mp hc' with h | h
          · exact hf c h
          · have : c = q2 := by simpa using h
            rw [this]
            exact ne2
      · rintro H3 ⟨cs, s3, hD, hC, hf⟩
        rw [List.length_map, hI.len, List.take_length] at hC
        refine ⟨b, D, _, _, rfl, rfl, s3 _ _ hb, hD, ?_, fun e ne => ?_⟩
        · rw [List.length_map, List.length_map, hC.len, hI.len, List.length_map, subs_len]
          exact Nat.le_of_lt (room (by omega))
        have s6 := same_upd (o := HO.lst (as.map V.ref ++ cs.map V.ref)) ne
        refine ⟨e, as ++ cs, _, _, rfl, (sm.trans s3).trans s6, ?_, ?_⟩
        · rw [upd_same, List.map_append]
        · exact ((hI.same s3).append hC).same s6
    · rintro σ H1 ⟨b, as, y2, y3, rfl, sm, hb, hI⟩
      rw [Int.toNat_natCast] at hI
      refine ⟨.ref b, rfl, 1, rfl, b, _, rfl, SqL.of hb, fun e ne => ?_⟩
      have s6 := same_upd (o := HO.lst (cutV (as.map V.ref) (some 1) none)) ne
      refine q _ e as.tail (sm.trans s6) ?_ (hI.same s6).tail
      rw [upd_same, cut_one, List.map_tail]

/-! ### gains -/
def spGain (K : PySem.W.Frag) : Sp := fun vs H Q _ => ∃ (a b c : Addr) (n : Nat) (v : List Int) (g m : List Nat), vs = [.int (n : Int), .ref a, .ref b, .ref c] ∧ SqL K H a (vi v) ∧ SqL K H b (vi (Ks568.worths ⟨n, v⟩ g)) ∧ SqL K H c (vi (zs m)) ∧ n ≤ 5 ∧ v.length = n * n ∧ (∀ j ∈ m, j < n) ∧ m.length ≤ 1000 ∧
  ∀ H' p, Same H H' → H' p = some (.lst (vi (gain n v g m))) → Q (.ref p) H'
theorem scGain : FnScope ["n", "worth", "has", "members", "person"] ["n", "worth", "has", "members"] (defScope sGain) := ⟨rfl, rfl, rfl, by decide +kernel, rfl, by decide +kernel, by decide +kernel⟩
theorem worths_at {n : Nat} {v : List Int} {g : List Nat} {i : Nat} (h : i < n) : (vi (Ks568.worths ⟨n, v⟩ g))[i]? = some (.int (worth ⟨n, v⟩ g i)) := by
  unfold vi Ks568.worths
  rw [List.getElem?_map, List.getElem?_map, List.getElem?_range h]
  rfl
theorem ok_gain {f f1 : Addr} {fd fd1 : FuncData} {k : Nat} (F : Fun K "gains" "gains" sGain f fd)
    (F1 : Fun K "has_with" "has_with" sHas f1 fd1) (b1 : Binds K fd1 ["n", "worth", "person", "members"] []) (g1 : mg "has_with" = some (.ref f1)) (G1 : FnOk P w K mg base CX0 (k + 1) f1 fd1 ["n", "worth", "person", "members"] (spHas K)) : FnOk P w K mg base CX0 (k + 2) f fd ["n", "worth", "has", "members"] (spGain K) := by
  refine F.ok scGain (fun vs H Q E h => ?_) (fun cdv A outer s H vs Q E hr h => ?_)
  · obtain ⟨a, b, c, n, v, g, m, rfl, _⟩ := h
    rfl
  · obtain ⟨a, b, c, n, v, g, m, rfl, hA, hB, hC, hn, hv, hm, hml, q⟩ := h
    refine ⟨_, pss_one (ps_ret (pe_lc (own := [("person", 4)]) (g := gName 4) (by rfl) scGain.nd (pi_list (pv 3))
      (blkOk_by (N := ["n", "worth", "has", "members", "person"]) (sc := defScope sGain) (by decide +kernel)) (fun _ _ _ _ _ => pg_name (i := 4) scGain.nd rfl (Or.inl rfl))
      (fun _ _ _ _ _ => pts_nil) (fun _ _ _ _ _ => pe_op op_sub (pe_call G1 hr (by rfl) g1 F1.kp b1 .nil pass0 (pa_cons (pv 0) (pa_cons (pv 1) (pa_cons (pv 4) (pa_cons (pv 3) pa_nil))))) (pe_ix (r := rIxL K) ix_list (pv 2) (pv 4) (fun _ _ => rfl))))), ?_⟩
    refine ⟨.ref c, rfl, c, rfl, ⟨_, hC⟩, fun D nD => ?_⟩
    refine lc_list (K := K) (a := c) (xs := vi (zs m)) (fun t H' => Same H H' ∧ H' D = some (.lst (vi ((m.take t).map fun i => with_ ⟨n, v⟩ i m - worth ⟨n, v⟩ g i)))) ⟨same_upd nD, upd_same⟩ (fun t H' _ ⟨sm, _⟩ => sm.seq hC) ?_ ?_
    · rintro t x H1 hx ⟨sm, hD⟩
      obtain ⟨j, hj, rfl⟩ := zs_get hx
      have hjn : j < n := hm j (List.mem_of_getElem? hj)
      refine ⟨rfl, .int (n : Int), rfl, .ref a, rfl, .int (j : Int), rfl, .ref c, rfl, a, c, n, j, v, m, rfl, sm.seq hA, sm.seq hC, hn, hjn, hv, hm, hml, fun H2 s2 => ?_⟩
      refine ⟨.ref b, rfl, .int (j : Int), rfl, b, _, _, _, rfl, rfl, (sm.trans s2).seq hB, at_of (j := j) rfl (worths_at hjn), _, _, rfl, rfl, _, s2 _ _ hD, ?_, same_upd' nD (sm.trans s2), ?_⟩
      · rw [List.length_map, List.length_map, List.length_take]
        exact room (by omega)
      · rw [upd_same, vi_snoc, take_snoc hj, List.map_append]
        rfl
    · rintro H1 ⟨sm, hD⟩
      rw [List.length_map, List.length_map, List.take_length] at hD
      exact q H1 D sm hD

/-! ### is_better -/
def spBett (K : PySem.W.Frag) : Sp := fun vs H Q _ => ∃ (a : Addr) (l : List Int), vs = [.ref a] ∧ SqL K H a (vi l) ∧ 0 < l.length ∧ Q (.bl (bett l)) H
theorem scBett : FnScope ["gained"] ["gained"] (defScope sBett) := ⟨rfl, rfl, rfl, by decide +kernel, rfl, by decide +kernel, by decide +kernel⟩
theorem ok_bett {f : Addr} {fd : FuncData} {k : Nat} (F : Fun K "is_better" "is_better" sBett f fd) (mi : mg "min" = none) (ma : mg "max" = none) : FnOk P w K mg base CX0 (k + 1) f fd ["gained"] (spBett K) := by
  refine F.ok scBett (fun vs H Q E h => ?_) (fun cdv A outer s H vs Q E hr h => ?_)
  · obtain ⟨a, l, rfl, _⟩ := h
    rfl
  · obtain ⟨a, l, rfl, hA, hl, q⟩ := h
    refine ⟨_, pss_one (ps_ret (pe_and (pe_cmpR op_ge (pe_callB (cr_min (by rfl)) (by rfl) mi (by decide +kernel) (pa_cons (pv 0) pa_nil)) pe_int (nomark _)) (pe_one (pe_cmpR op_gt (pe_callB (cr_max (by rfl)) (by rfl) ma (by decide +kernel) (pa_cons (pv 0) pa_nil)) pe_int (nomark _))))), ?_⟩
    unfold bett at q
    refine ⟨.ref a, rfl, a, l, rfl, hA, hl, fun m h1 h2 => ⟨_, _, rfl, rfl, _, rfl, ite2 (fun e => ?_) (fun e => ?_)⟩⟩
    · have em : 0 ≤ m := of_decide_eq_true e
      refine ⟨.ref a, rfl, a, l, rfl, hA, hl, fun x h3 h4 => ⟨_, _, rfl, rfl, ?_⟩⟩
      have eq : ((l.all fun y => decide (0 ≤ y)) && (l.any fun y => decide (0 < y))) = decide (x > 0) := by
        rw [show (l.all fun y => decide (0 ≤ y)) = true from List.all_eq_true.mpr fun y hy => decide_eq_true (by have := h2 y hy; omega), Bool.true_and, Bool.eq_iff_iff, List.any_eq_true, decide_eq_true_eq]
        constructor
        · rintro ⟨y, hy, hp⟩
          have := h4 y hy
          have := of_decide_eq_true hp
          omega
        · intro hp
          exact ⟨x, h3, decide_eq_true hp⟩
      rw [eq] at q
      exact q
    · have em : ¬ 0 ≤ m := fun z => e (decide_eq_true z)
      have eq : ((l.all fun y => decide (0 ≤ y)) && (l.any fun y => decide (0 < y))) = false := by
        rw [show (l.all fun y => decide (0 ≤ y)) = false from ?_, Bool.false_and]
        rw [List.all_eq_false]
        exact ⟨m, h1, by simpa using em⟩
      rw [eq] at q
      exact q

/-! ### would_leave -/
def spLeav (K : PySem.W.Frag) : Sp := fun vs H Q _ => ∃ (a : Addr) (w : Nat) (l : List Int), vs = [.int (w : Int), .ref a] ∧ SqL K H a (vi l) ∧ 0 < l.length ∧ Q (.bl (leav w l)) H
theorem scLeav : FnScope ["w", "gained"] ["w", "gained"] (defScope sLeav) := ⟨rfl, rfl, rfl, by decide +kernel, rfl, by decide +kernel, by decide +kernel⟩
theorem ok_leav {f f1 : Addr} {fd fd1 : FuncData} {k : Nat} {t1 : Tok} (F : Fun K "would_leave" "would_leave" sLeav f fd)
    (F1 : Fun K "is_better" "is_better" sBett f1 fd1) (b1 : Binds K fd1 ["gained"] []) (g1 : mg "is_better" = some (.ref f1)) (G1 : FnOk P w K mg base CX0 (k + 1) f1 fd1 ["gained"] (spBett K))
    (mi : mg "min" = none) (m1 : mg "HOLDING_WEAKLY" = some (.int 4 t1)) : FnOk P w K mg base CX0 (k + 2) f fd ["w", "gained"] (spLeav K) := by
  refine F.ok scLeav (fun vs H Q E h => ?_) (fun cdv A outer s H vs Q E hr h => ?_)
  · obtain ⟨a, w, l, rfl, _⟩ := h
    rfl
  · obtain ⟨a, w, l, rfl, hA, hl, q⟩ := h
    refine ⟨_, pss_cons (ps_if (pt_cmpR op_eq (pv 0) (pe_glob (v := .int 4) (by rfl) m1 ⟨_, rfl⟩) (nomark _))
        (pss_one (ps_ret (pe_call G1 hr (by rfl) g1 F1.kp b1 .nil pass0 (pa_cons (pv 1) pa_nil)))) pss_nil)
      (pss_one (ps_ret (pe_cmpR op_gt (pe_callB (cr_min (by rfl)) (by rfl) mi (by decide +kernel) (pa_cons (pv 1) pa_nil)) pe_int (nomark _)))), ?_⟩
    refine ⟨.int (w : Int), rfl, rfl, _, rfl, ite2 (fun e => ?_) (fun e => ?_)⟩
    · have e0 : w = 4 := by
        have := V.int.inj (of_decide_eq_true e)
        omega
      unfold leav at q
      rw [if_pos e0] at q
      exact ⟨.ref a, rfl, a, l, rfl, hA, hl, q⟩
    · have e0 : ¬ w = 4 := fun z => e (by rw [z]; rfl)
      unfold leav at q
      rw [if_neg e0] at q
      refine ⟨.ref a, rfl, a, l, rfl, hA, hl, fun m h1 h2 => ⟨_, _, rfl, rfl, ?_⟩⟩
      have eq : (l.all fun y => decide (0 < y)) = decide (m > 0) := by
        rw [Bool.eq_iff_iff, List.all_eq_true, decide_eq_true_eq]
        constructor
        · intro h
          exact of_decide_eq_true (h m h1)
        · intro h y hy
          exact decide_eq_true (by have := h2 y hy; omega)
      rw [eq] at q
      exact q

/-! ### does_hold -/
def spHold (K : PySem.W.Frag) : Sp := fun vs H Q _ => ∃ (a b : Addr) (n w : Nat) (v : List Int) (g : List Nat), vs = [.int (n : Int), .int (w : Int), .ref a, .ref b] ∧ SqL K H a (vi v) ∧ SqL K H b (vi (zs g)) ∧ n ≤ 5 ∧ (w = 3 ∨ w = 4) ∧ v.length = n * n ∧ g.length = n ∧
  ∀ H', Same H H' → Q (.bl (Ks566.holds ⟨n, v⟩ (w - 3) g)) H'
theorem scHold : FnScope ["n", "w", "worth", "way", "has", "members"] ["n", "w", "worth", "way"] (defScope sHold) := ⟨rfl, rfl, rfl, by decide +kernel, rfl, by decide +kernel, by decide +kernel⟩
theorem ok_hold {f f1 f2 f3 f4 : Addr} {fd fd1 fd2 fd3 fd4 : FuncData} {k : Nat} (F : Fun K "does_hold" "does_hold" sHold f fd)
    (F1 : Fun K "what_each_has" "what_each_has" sEach f1 fd1) (b1 : Binds K fd1 ["n", "worth", "way"] []) (g1 : mg "what_each_has" = some (.ref f1)) (G1 : FnOk P w K mg base CX0 (k + 2) f1 fd1 ["n", "worth", "way"] (spEach K))
    (F2 : Fun K "all_sets" "all_sets" sSets f2 fd2) (b2 : Binds K fd2 ["n"] []) (g2 : mg "all_sets" = some (.ref f2)) (G2 : FnOk P w K mg base CX0 (k + 2) f2 fd2 ["n"] (spSets K))
    (F3 : Fun K "gains" "gains" sGain f3 fd3) (b3 : Binds K fd3 ["n", "worth", "has", "members"] []) (g3 : mg "gains" = some (.ref f3)) (G3 : FnOk P w K mg base CX0 (k + 2) f3 fd3 ["n", "worth", "has", "members"] (spGain K))
    (F4 : Fun K "would_leave" "would_leave" sLeav f4 fd4) (b4 : Binds K fd4 ["w", "gained"] []) (g4 : mg "would_leave" = some (.ref f4)) (G4 : FnOk P w K mg base CX0 (k + 2) f4 fd4 ["w", "gained"] (spLeav K)) : FnOk P w K mg base CX0 (k + 3) f fd ["n", "w", "worth", "way"] (spHold K) := by
  refine F.ok scHold (fun vs H Q E h => ?_) (fun cdv A outer s H vs Q E hr h => ?_)
  · obtain ⟨a, b, n, w, v, g, rfl, _⟩ := h
    rfl
  · obtain ⟨a, b, n, w, v, g, rfl, hA, hB, hn, hw, hv, hg, q⟩ := h
    refine ⟨_, pss_cons (ps_set (i := 4) scHold.nd rfl (.inl rfl) (pe_call G1 hr (by rfl) g1 F1.kp b1 .nil pass0 (pa_cons (pv 0) (pa_cons (pv 2) (pa_cons (pv 3) pa_nil)))))
      (pss_cons (ps_for PassesOwn.never rfl (pi_list (pe_call G2 hr (by rfl) g2 F2.kp b2 .nil pass0 (pa_cons (pv 0) pa_nil))) (pg_name (i := 5) scHold.nd rfl (.inl rfl))
        (pss_one (ps_if (pt_val (pe_call G4 hr (by rfl) g4 F4.kp b4 .nil pass0 (pa_cons (pv 1) (pa_cons (pe_call G3 hr (by rfl) g3 F3.kp b3 .nil pass0 (pa_cons (pv 0) (pa_cons (pv 2) (pa_cons (pv 4) (pa_cons (pv 5) pa_nil))))) pa_nil))))
          (pss_one (ps_ret pe_bl)) pss_nil)))
      (pss_one (ps_ret pe_bl))), ?_⟩
    refine ⟨.int (n : Int), rfl, .ref a, rfl, .ref b, rfl, a, b, n, v, g, rfl, hA, hB, hn, hv, hg, fun H1 p1 s1 n1 hp1 => ?_⟩
    refine ⟨.int (n : Int), rfl, n, rfl, hn, fun H2 p2 cs s2 hp2 hI => ?_⟩
    refine ⟨p2, rfl, ⟨_, SqL.of hp2⟩, for_list (K := K) (a := p2) (xs := cs.map V.ref) (fun i σ H' => ∃ y5, σ = [some (.int (n : Int)), some (.int (w : Int)), some (.ref a), some (.ref b), some (.ref p1), y5] ∧ Same H2 H' ∧ ∀ m ∈ (subs n).tail.take i, leav w (gain n v g m) = false)
      ⟨none, rfl, Same.refl _, fun m hm => by cases hm⟩ (fun i σ H' _ ⟨_, _, s5, _⟩ => SqL.of (s5 _ _ hp2)) ?_ ?_⟩
    · rintro i y σ H3 hi ⟨y5, rfl, s3, hno⟩
      obtain ⟨d, hd, rfl⟩ := refs_get hi
      obtain ⟨m, hm, hHd⟩ := hI.at_ i d hd
      have hmt : m ∈ (subs n).tail := List.mem_of_getElem? hm
      have hms : m ∈ subs n := List.mem_of_mem_tail hmt
      obtain ⟨hml, hmn⟩ := subs_lt n m hms
      have hne := tail_ne n m hmt
      have s13 := (s1.trans s2).trans s3
      refine ⟨.int (w : Int), rfl, .int (n : Int), rfl, .ref a, rfl, .ref p1, rfl, .ref d, rfl, a, p1, d, n, v, g, m, rfl, s13.seq hA, SqL.of (s3 _ _ (s2 _ _ hp1)), SqL.of (s3 _ _ hHd), hn, hv, hmn, by omega, fun H4 p4 s4 hp4 => ?_⟩
      refine ⟨p4, w, gain n v g m, rfl, SqL.of hp4, ?_, _, rfl, ?_⟩
      · unfold gain
        rw [List.length_map]
        exact List.length_pos_iff.mpr hne
      cases el : leav w (gain n v g m) with
      | true =>
        have z := q H4 (s13.trans s4)
        have er : Ks566.holds ⟨n, v⟩ (w - 3) g = false := by
          cases e : Ks566.holds ⟨n, v⟩ (w - 3) g with
          | false => rfl
          | true =>
            rw [(holds_is hn hw).mp e m hmt] at el
            cases el
        rw [er] at z
        exact z
      | false =>
        refine ⟨_, rfl, s3.trans s4, fun m' hm' => ?_⟩
        rw [take_snoc hm] at hm'
        rcases List.mem_append.mp hm' with h | h
        · exact hno m' h
        · have : m' = m := by simpa using h
          rw [this]
          exact el
    · rintro σ H3 ⟨y5, rfl, s3, hno⟩
      rw [List.length_map, hI.len, List.take_length] at hno
      have z := q H3 ((s1.trans s2).trans s3)
      rw [(holds_is hn hw).mpr hno] at z
      exact z

/-! ### is_of_kind -/
def spKind (K : PySem.W.Frag) : Sp := fun vs H Q _ => ∃ (a b : Addr) (n w : Nat) (v : List Int) (g : List Nat), vs = [.int (n : Int), .int (w : Int), .ref a, .ref b] ∧ SqL K H a (vi v) ∧ SqL K H b (vi (zs g)) ∧ 1 ≤ n ∧ n ≤ 5 ∧ w ≤ 4 ∧ v.length = n * n ∧ g.length = n ∧ cnt g ≤ 5 ∧
  ∀ H', Same H H' → Q (.bl (ofKind n v w g)) H'
theorem scKind : FnScope ["n", "w", "worth", "way"] ["n", "w", "worth", "way"] (defScope sKind) := ⟨rfl, rfl, rfl, by decide +kernel, rfl, by decide +kernel, by decide +kernel⟩
theorem ok_kind {f f1 f2 : Addr} {fd fd1 fd2 : FuncData} {k : Nat} {t1 : Tok} (F : Fun K "is_of_kind" "is_of_kind" sKind f fd)
    (F1 : Fun K "is_at_rest" "is_at_rest" sRest f1 fd1) (b1 : Binds K fd1 ["n", "w", "worth", "way"] []) (g1 : mg "is_at_rest" = some (.ref f1)) (G1 : FnOk P w K mg base CX0 (k + 3) f1 fd1 ["n", "w", "worth", "way"] (spRest K))
    (F2 : Fun K "does_hold" "does_hold" sHold f2 fd2) (b2 : Binds K fd2 ["n", "w", "worth", "way"] []) (g2 : mg "does_hold" = some (.ref f2)) (G2 : FnOk P w K mg base CX0 (k + 3) f2 fd2 ["n", "w", "worth", "way"] (spHold K))
    (m1 : mg "HOLDING" = some (.int 3 t1)) : FnOk P w K mg base CX0 (k + 4) f fd ["n", "w", "worth", "way"] (spKind K) := by
  refine F.ok scKind (fun vs H Q E h => ?_) (fun cdv A outer s H vs Q E hr h => ?_)
  · obtain ⟨a, b, n, w, v, g, rfl, _⟩ := h
    rfl
  · obtain ⟨a, b, n, w, v, g, rfl, hA, hB, hn1, hn, hw, hv, hg, hc, q⟩ := h
    refine ⟨_, pss_cons (ps_if (pt_cmpR op_lt (pv 1) (pe_glob (v := .int 3) (by rfl) m1 ⟨_, rfl⟩) (nomark _))
        (pss_one (ps_ret (pe_call G1 hr (by rfl) g1 F1.kp b1 .nil pass0 (pa_cons (pv 0) (pa_cons (pv 1) (pa_cons (pv 2) (pa_cons (pv 3) pa_nil))))))) pss_nil)
      (pss_one (ps_ret (pe_call G2 hr (by rfl) g2 F2.kp b2 .nil pass0 (pa_cons (pv 0) (pa_cons (pv 1) (pa_cons (pv 2) (pa_cons (pv 3) pa_nil))))))), ?_⟩
    refine ⟨.int (w : Int), rfl, _, _, rfl, rfl, _, rfl, ite2 (fun e => ?_) (fun e => ?_)⟩
    · have e := of_decide_eq_true e
      refine ⟨.int (n : Int), rfl, .int (w : Int), rfl, .ref a, rfl, .ref b, rfl, a, b, n, w, v, g, rfl, hA, hB, hn1, hn, by omega, hv, hg, hc, fun H1 s1 => ?_⟩
      have z := q H1 s1
      unfold ofKind at z
      rw [if_pos (by omega)] at z
      exact z
    · have e : ¬ w < 3 := fun z => e (decide_eq_true (show (w : Int) < 3 by omega))
      refine ⟨.int (n : Int), rfl, .int (w : Int), rfl, .ref a, rfl, .ref b, rfl, a, b, n, w, v, g, rfl, hA, hB, hn, by omega, hv, hg, fun H1 s1 => ?_⟩
      have z := q H1 s1
      unfold ofKind at z
      rw [if_neg e] at z
      exact z

/-! ### ways_of_kind -/
def spWok (K : PySem.W.Frag) : Sp := fun vs H Q _ => ∃ (a : Addr) (n w : Nat) (v : List Int), vs = [.int (n : Int), .int (w : Int), .ref a] ∧ SqL K H a (vi v) ∧ 1 ≤ n ∧ n ≤ 5 ∧ w ≤ 4 ∧ v.length = n * n ∧
  ∀ H' p cs, Same H H' → H' p = some (.lst (cs.map V.ref)) → Items H' cs ((all n).filter (ofKind n v w)) → Q (.ref p) H'
theorem scWok : FnScope ["n", "w", "worth", "way"] ["n", "w", "worth"] (defScope sWok) := ⟨rfl, rfl, rfl, by decide +kernel, rfl, by decide +kernel, by decide +kernel⟩
theorem ok_wok {f f1 f2 : Addr} {fd fd1 fd2 : FuncData} {k : Nat} (F : Fun K "ways_of_kind" "ways_of_kind" sWok f fd)
    (F1 : Fun K "all_ways" "all_ways" sWays f1 fd1) (b1 : Binds K fd1 ["n"] []) (g1 : mg "all_ways" = some (.ref f1)) (G1 : FnOk P w K mg base CX0 (k + 4) f1 fd1 ["n"] (spWays K))
    (F2 : Fun K "is_of_kind" "is_of_kind" sKind f2 fd2) (b2 : Binds K fd2 ["n", "w", "worth", "way"] []) (g2 : mg "is_of_kind" = some (.ref f2)) (G2 : FnOk P w K mg base CX0 (k + 4) f2 fd2 ["n", "w", "worth", "way"] (spKind K)) : FnOk P w K mg base CX0 (k + 5) f fd ["n", "w", "worth"] (spWok K) := by
  refine F.ok scWok (fun vs H Q E h => ?_) (fun cdv A outer s H vs Q E hr h => ?_)
  · obtain ⟨a, n, w, v, rfl, _⟩ := h
    rfl
  · obtain ⟨a, n, w, v, rfl, hA, h1, h2, hw, h3, q⟩ := h
    refine ⟨_, pss_one (ps_ret (pe_lc (own := [("way", 3)]) (g := gName 3) (by rfl) scWok.nd (pi_list (pe_call G1 hr (by rfl) g1 F1.kp b1 .nil pass0 (pa_cons (pv 0) pa_nil)))
        (blkOk_by (N := ["n", "w", "worth", "way"]) (sc := defScope sWok) (by decide +kernel)) (fun _ _ _ _ _ => pg_name (i := 3) scWok.nd rfl (Or.inl rfl))
        (fun _ _ _ _ _ => pts_one (pt_val (pe_call G2 hr (by rfl) g2 F2.kp b2 .nil pass0 (pa_cons (pv 0) (pa_cons (pv 1) (pa_cons (pv 2) (pa_cons (pv 3) pa_nil))))))) (fun _ _ _ _ _ => pv 3))), ?_⟩
    refine ⟨.int (n : Int), rfl, n, rfl, h2, fun H2 p2 as s2 hp2 hI => ⟨p2, rfl, ⟨_, SqL.of hp2⟩, fun D nD => ?_⟩⟩
    refine lc_list (K := K) (a := p2) (xs := as.map V.ref) (fun j H3 => ∃ cs, Same H2 H3 ∧ H3 D = some (.lst (cs.map V.ref)) ∧ Items H3 cs (((all n).take j).filter (ofKind n v w)) ∧ ∀ c ∈ cs, c ≠ D)
      ⟨[], same_upd nD, upd_same, Items.nil, fun c h => by cases h⟩ (fun j H3 _ ⟨_, s3, _⟩ => SqL.of (s3 _ _ hp2)) ?_ ?_
    · rintro j y H3 hj ⟨cs, s3, hD, hC, hf⟩
      obtain ⟨d, hd, rfl⟩ := refs_get hj
      obtain ⟨g, hg, hHd⟩ := hI.at_ j d hd
      have hgm : g ∈ all n := List.mem_of_getElem? hg
      have hcg := all_cnt n g hgm
      refine ⟨rfl, .int (n : Int), rfl, .int (w : Int), rfl, .ref a, rfl, .ref d, rfl, a, d, n, w, v, g, rfl, (s2.trans s3).seq hA, SqL.of (s3 _ _ hHd), h1, h2, hw, h3, all_len n g hgm, by omega, fun H4 s4 => ⟨_, rfl, ?_⟩⟩
      have et : ((all n).take (j + 1)).filter (ofKind n v w) = ((all n).take j).filter (ofKind n v w) ++ (if ofKind n v w g then [g] else []) := by
        rw [take_snoc hg, List.filter_append, List.filter_cons, List.filter_nil]
      rw [et]
      cases ek : ofKind n v w g with
      | true =>
        have hf' : ∀ c ∈ cs ++ [d], c ≠ D := fun c hc => by
          rcases List.mem_append.mp hc with h | h
          · exact hf c h
          · have : c = d := by simpa using h
            rw [this]
            exact ne_of_none hHd nD
        refine ⟨.ref d, rfl, _, s4 _ _ hD, ?_, cs ++ [d], same_upd' nD (s3.trans s4), ?_, ?_, hf'⟩
        · rw [List.length_map, hC.len]
          refine room (Nat.le_trans (List.length_filter_le _ _) ?_)
          rw [List.length_take]
          have := all_size (k := n) h2
          omega
        · rw [upd_same, List.map_append]
          rfl
        · refine Items.but (D := D) ((hC.same s4).append (Items.one (s4 _ _ (s3 _ _ hHd)))) (fun c o hc e => ?_) hf'
          rw [upd_ne hc]
          exact e
      | false =>
        refine ⟨cs, s3.trans s4, s4 _ _ hD, ?_, hf⟩
        show Items H4 cs (((all n).take j).filter (ofKind n v w) ++ [])
        rw [List.append_nil]
        exact hC.same s4
    · rintro H3 ⟨cs, s3, hD, hC, _⟩
      rw [List.length_map, hI.len, List.take_length] at hC
      exact q H3 D cs (s2.trans s3) hD hC

/-! ### measure -/
def spMeas (K : PySem.W.Frag) : Sp := fun vs H Q _ => ∃ (a : Addr) (k : Nat) (l : List Int), vs = [.int (k : Int), .ref a] ∧ SqL K H a (vi l) ∧ 0 < l.length ∧ Q (.int (meas k l)) H
theorem scMeas : FnScope ["k", "has"] ["k", "has"] (defScope sMeas) := ⟨rfl, rfl, rfl, by decide +kernel, rfl, by decide +kernel, by decide +kernel⟩
theorem ok_meas {f : Addr} {fd : FuncData} {k : Nat} {tt : Tok} (F : Fun K "measure" "measure" sMeas f fd) (ms : mg "sum" = none) (mi : mg "min" = none) (mt : mg "TOGETHER" = some (.int 0 tt)) : FnOk P w K mg base CX0 (k + 1) f fd ["k", "has"] (spMeas K) := by
  refine F.ok scMeas (fun vs H Q E h => ?_) (fun cdv A outer s H vs Q E hr h => ?_)
  · obtain ⟨a, k, l, rfl, _⟩ := h
    rfl
  · obtain ⟨a, k, l, rfl, hA, hl, q⟩ := h
    refine ⟨_, pss_cons (ps_if (pt_cmpR op_eq (pv 0) (pe_glob (v := .int 0) (by rfl) mt ⟨_, rfl⟩) (nomark _)) (pss_one (ps_ret (pe_callB (cr_sum (by rfl)) (by rfl) ms (by decide +kernel) (pa_cons (pv 1) pa_nil)))) pss_nil)
      (pss_one (ps_ret (pe_callB (cr_min (by rfl)) (by rfl) mi (by decide +kernel) (pa_cons (pv 1) pa_nil)))), ?_⟩
    refine ⟨.int (k : Int), rfl, rfl, _, rfl, ite2 (fun e => ?_) (fun e => ?_)⟩
    · have e0 : k = 0 := by
        have := V.int.inj (of_decide_eq_true e)
        omega
      refine ⟨.ref a, rfl, a, l, rfl, hA, ?_⟩
      unfold meas at q
      rw [if_pos e0] at q
      exact q
    · have e0 : ¬ k = 0 := fun z => e (by rw [z]; rfl)
      refine ⟨.ref a, rfl, a, l, rfl, hA, hl, fun m h1 h2 => ?_⟩
      unfold meas at q
      rw [if_neg e0, least_of h1 h2] at q
      exact q

/-! ### had_together -/
def spHadt (K : PySem.W.Frag) : Sp := fun vs H Q _ => ∃ (a b : Addr) (n : Nat) (v : List Int) (as : List Addr) (L : List (List Nat)), vs = [.int (n : Int), .ref a, .ref b] ∧ SqL K H a (vi v) ∧ SqL K H b (as.map V.ref) ∧ Items H as L ∧ L.length ≤ 1000 ∧ (∀ g ∈ L, g.length = n) ∧ 1 ≤ n ∧ n ≤ 5 ∧ v.length = n * n ∧
  ∀ H' p, Same H H' → H' p = some (.lst (vi (L.map (Ks567.total ⟨n, v⟩)))) → Q (.ref p) H'
theorem scHadt : FnScope ["n", "worth", "ways", "way"] ["n", "worth", "ways"] (defScope sHadt) := ⟨rfl, rfl, rfl, by decide +kernel, rfl, by decide +kernel, by decide +kernel⟩
theorem meas_total (n : Nat) (v : List Int) (g : List Nat) : meas 0 (Ks568.worths ⟨n, v⟩ g) = Ks567.total ⟨n, v⟩ g := by
  unfold meas
  rw [if_pos rfl, total_sum]
theorem ok_hadt {f f1 f2 : Addr} {fd fd1 fd2 : FuncData} {k : Nat} {t1 : Tok} (F : Fun K "had_together" "had_together" sHadt f fd)
    (F1 : Fun K "what_each_has" "what_each_has" sEach f1 fd1) (b1 : Binds K fd1 ["n", "worth", "way"] []) (g1 : mg "what_each_has" = some (.ref f1)) (G1 : FnOk P w K mg base CX0 (k + 2) f1 fd1 ["n", "worth", "way"] (spEach K))
    (F2 : Fun K "measure" "measure" sMeas f2 fd2) (b2 : Binds K fd2 ["k", "has"] []) (g2 : mg "measure" = some (.ref f2)) (G2 : FnOk P w K mg base CX0 (k + 2) f2 fd2 ["k", "has"] (spMeas K))
    (m1 : mg "TOGETHER" = some (.int 0 t1)) : FnOk P w K mg base CX0 (k + 3) f fd ["n", "worth", "ways"] (spHadt K) := by
  refine F.ok scHadt (fun vs H Q E h => ?_) (fun cdv A outer s H vs Q E hr h => ?_)
  · obtain ⟨a, b, n, v, as, L, rfl, _⟩ := h
    rfl
  · obtain ⟨a, b, n, v, as, L, rfl, hA, hB, hI, hL, hg, hn1, hn, hv, q⟩ := h
    refine ⟨_, pss_one (ps_ret (pe_lc (own := [("way", 3)]) (g := gName 3) (by rfl) scHadt.nd (pi_list (pv 2))
      (blkOk_by (N := ["n", "worth", "ways", "way"]) (sc := defScope sHadt) (by decide +kernel)) (fun _ _ _ _ _ => pg_name (i := 3) scHadt.nd rfl (Or.inl rfl))
      (fun _ _ _ _ _ => pts_nil) (fun _ _ _ _ _ => pe_call G2 hr (by rfl) g2 F2.kp b2 .nil pass0 (pa_cons (pe_glob (v := .int 0) (by rfl) m1 ⟨_, rfl⟩) (pa_cons (pe_call G1 hr (by rfl) g1 F1.kp b1 .nil pass0 (pa_cons (pv 0) (pa_cons (pv 1) (pa_cons (pv 3) pa_nil)))) pa_nil))))), ?_⟩
    refine ⟨.ref b, rfl, b, rfl, ⟨_, hB⟩, fun D nD => ?_⟩
    refine lc_list (K := K) (a := b) (xs := as.map V.ref) (fun t H' => Same H H' ∧ H' D = some (.lst (vi ((L.take t).map (Ks567.total ⟨n, v⟩))))) ⟨same_upd nD, upd_same⟩ (fun t H' _ ⟨sm, _⟩ => sm.seq hB) ?_ ?_
    · rintro t x H1 hx ⟨sm, hD⟩
      obtain ⟨d, hd, rfl⟩ := refs_get hx
      obtain ⟨g, hgt, hHd⟩ := hI.at_ t d hd
      refine ⟨rfl, .int (n : Int), rfl, .ref a, rfl, .ref d, rfl, a, d, n, v, g, rfl, sm.seq hA, SqL.of (sm _ _ hHd), hn, hv, hg g (List.mem_of_getElem? hgt), fun H2 p2 s2 n2 hp2 => ?_⟩
      refine ⟨p2, 0, _, rfl, SqL.of hp2, worths_pos hn1, ?_⟩
      rw [meas_total]
      refine ⟨_, s2 _ _ hD, ?_, same_upd' nD (sm.trans s2), ?_⟩
      · rw [List.length_map, List.length_map, List.length_take]
        exact room (by omega)
      · rw [upd_same, vi_snoc, take_snoc hgt, List.map_append]
        rfl
    · rintro H1 ⟨sm, hD⟩
      rw [List.length_map, hI.len, List.take_length] at hD
      exact q H1 D sm hD

/-! ### price -/
def spPrice (K : PySem.W.Frag) : Sp := fun vs H Q _ => ∃ (a : Addr) (n w : Nat) (v : List Int), vs = [.int (n : Int), .int (w : Int), .ref a] ∧ SqL K H a (vi v) ∧ n < 4294967296 ∧ v.length ≤ 27 ∧
  ∀ H' p, H' p = some (.lst (vi (PyKs568.price n w v))) → Q (.ref p) H'
theorem price_eq (n w : Nat) (v : List Int) : PyKs568.price n w v = Ks568Neutral.out (Ks568.answer (.price n w v)) := rfl
theorem price_no {n w : Nat} {v : List Int} (h : told n v = false ∨ 4 < w) : PyKs568.price n w v = [-22] := by
  rw [price_eq]
  show Ks568Neutral.out (Ks565.folk n v _) = _
  unfold Ks565.folk
  cases e : told n v with
  | false =>
    rw [told_not e]
    rfl
  | true =>
    rw [told_folk e]
    rcases h with h | h
    · rw [e] at h
      cases h
    · show Ks568Neutral.out (if 4 < w then _ else _) = _
      rw [if_pos h]
      rfl
/-- what price tells of three lists -/
def three (t : Folk) (m : Nat) : Option Groups → Option Groups → Option Groups → List Int
  | some g, some h, some x => [(m : Int), Ks567.total t g, Ks567.total t h, Ks567.total t x]
  | _, _, _ => [-33]
theorem price_at {n w : Nat} {v : List Int} (h : told n v = true) (hw : ¬ 4 < w) : PyKs568.price n w v = three ⟨n, v⟩ ((all n).filter (ofKind n v w)).length (Ks568.best ⟨n, v⟩ 0 (all n)) (Ks568.best ⟨n, v⟩ 0 ((all n).filter (ofKind n v w))) (Ks568.worst ⟨n, v⟩ 0 ((all n).filter (ofKind n v w))) := by
  rw [price_eq]
  show Ks568Neutral.out (Ks565.folk n v _) = _
  unfold Ks565.folk
  rw [told_folk h]
  show Ks568Neutral.out (if 4 < w then _ else match Ks568.best ⟨n, v⟩ 0 (all n), Ks568.best ⟨n, v⟩ 0 (Ks568.kind ⟨n, v⟩ w), Ks568.worst ⟨n, v⟩ 0 (Ks568.kind ⟨n, v⟩ w) with | some g, some h, some x => _ | _, _, _ => _) = _
  rw [if_neg hw, kind_is]
  cases Ks568.best ⟨n, v⟩ 0 (all n) with
  | none => rfl
  | some g =>
    cases Ks568.best ⟨n, v⟩ 0 ((all n).filter (ofKind n v w)) with
    | none => rfl
    | some h =>
      cases Ks568.worst ⟨n, v⟩ 0 ((all n).filter (ofKind n v w)) with
      | none => rfl
      | some x => rfl
theorem price_none {n w : Nat} {v : List Int} (h : told n v = true) (hw : ¬ 4 < w) (hb : (all n).filter (ofKind n v w) = []) : PyKs568.price n w v = [-33] := by
  rw [price_at h hw, hb]
  cases Ks568.best ⟨n, v⟩ 0 (all n) <;> rfl
theorem value_total (t : Folk) (g : Groups) : Ks568.value t 0 g = Ks567.total t g := by
  unfold Ks568.value
  rw [if_pos rfl]
theorem best_is {t : Folk} {L : List Groups} {m : Int} (h1 : m ∈ L.map (Ks567.total t)) (h2 : ∀ y ∈ L.map (Ks567.total t), y ≤ m) : ∃ g, Ks568.best t 0 L = some g ∧ Ks567.total t g = m := by
  obtain ⟨x, hx, rfl⟩ := List.mem_map.mp h1
  obtain ⟨g, hg⟩ := best_some (t := t) (k := 0) (L := L) (fun z => by rw [z] at hx; cases hx)
  refine ⟨g, hg, ?_⟩
  have a1 := best_most hg x hx
  rw [value_total, value_total] at a1
  have a2 := h2 _ (List.mem_map.mpr ⟨g, best_mem hg, rfl⟩)
  omega
theorem worst_is {t : Folk} {L : List Groups} {m : Int} (h1 : m ∈ L.map (Ks567.total t)) (h2 : ∀ y ∈ L.map (Ks567.total t), m ≤ y) : ∃ g, Ks568.worst t 0 L = some g ∧ Ks567.total t g = m := by
  obtain ⟨x, hx, rfl⟩ := List.mem_map.mp h1
  obtain ⟨g, hg⟩ : ∃ g, Ks568.worst t 0 L = some g := by
    cases L with
    | nil => cases hx
    | cons y r => exact ⟨_, rfl⟩
  refine ⟨g, hg, ?_⟩
  have a1 := worst_least hg x hx
  rw [value_total, value_total] at a1
  have a2 := h2 _ (List.mem_map.mpr ⟨g, worst_mem hg, rfl⟩)
  omega
theorem scPrice : FnScope ["n", "w", "worth", "had"] ["n", "w", "worth"] (defScope sPrice) := ⟨rfl, rfl, rfl, by decide +kernel, rfl, by decide +kernel, by decide +kernel⟩
theorem ok_price {f f1 f2 f3 f4 : Addr} {fd fd1 fd2 fd3 fd4 : FuncData} {k : Nat} {t1 t2 t3 : Tok} (F : Fun K "price" "price" sPrice f fd)
    (F1 : Fun K "is_as_told" "is_as_told" sTold f1 fd1) (b1 : Binds K fd1 ["n", "worth"] []) (g1 : mg "is_as_told" = some (.ref f1)) (G1 : FnOk P w K mg base CX0 (k + 5) f1 fd1 ["n", "worth"] (spTold K))
    (F2 : Fun K "ways_of_kind" "ways_of_kind" sWok f2 fd2) (b2 : Binds K fd2 ["n", "w", "worth"] []) (g2 : mg "ways_of_kind" = some (.ref f2)) (G2 : FnOk P w K mg base CX0 (k + 5) f2 fd2 ["n", "w", "worth"] (spWok K))
    (F3 : Fun K "had_together" "had_together" sHadt f3 fd3) (b3 : Binds K fd3 ["n", "worth", "ways"] []) (g3 : mg "had_together" = some (.ref f3)) (G3 : FnOk P w K mg base CX0 (k + 5) f3 fd3 ["n", "worth", "ways"] (spHadt K))
    (F4 : Fun K "all_ways" "all_ways" sWays f4 fd4) (b4 : Binds K fd4 ["n"] []) (g4 : mg "all_ways" = some (.ref f4)) (G4 : FnOk P w K mg base CX0 (k + 5) f4 fd4 ["n"] (spWays K))
    (ml : mg "len" = none) (ma : mg "max" = none) (mi : mg "min" = none) (m1 : mg "REFUSED" = some (.int (-22) t1)) (m2 : mg "NONE_OF_KIND" = some (.int (-33) t2)) (m3 : mg "LAST_KIND" = some (.int 4 t3)) : FnOk P w K mg base CX0 (k + 6) f fd ["n", "w", "worth"] (spPrice K) := by
  refine F.ok scPrice (fun vs H Q E h => ?_) (fun cdv A outer s H vs Q E hr h => ?_)
  · obtain ⟨a, n, w, v, rfl, _⟩ := h
    rfl
  · obtain ⟨a, n, w, v, rfl, hA, hn, hv, q⟩ := h
    refine ⟨_, pss_cons (ps_if (PW.pt (pw_or (pt_not (pt_val (pe_call G1 hr (by rfl) g1 F1.kp b1 .nil pass0 (pa_cons (pv 0) (pa_cons (pv 2) pa_nil))))) (pw_or1 (pt_cmpR op_gt (pv 1) (pe_glob (v := .int 4) (by rfl) m3 ⟨_, rfl⟩) (nomark _)))))
        (pss_one (ps_ret (pe_lst (pa_cons (pe_glob (v := .int (-22)) (by rfl) m1 ⟨_, rfl⟩) pa_nil)))) pss_nil)
      (pss_cons (ps_set (i := 3) scPrice.nd rfl (.inl rfl) (pe_call G3 hr (by rfl) g3 F3.kp b3 .nil pass0 (pa_cons (pv 0) (pa_cons (pv 2) (pa_cons (pe_call G2 hr (by rfl) g2 F2.kp b2 .nil pass0 (pa_cons (pv 0) (pa_cons (pv 1) (pa_cons (pv 2) pa_nil)))) pa_nil)))))
      (pss_cons (ps_if (pt_cmpR op_eq (pe_callB call_len_seq (by rfl) ml PySem.boot_len (pa_cons (pv 3) pa_nil)) pe_int (nomark _))
        (pss_one (ps_ret (pe_lst (pa_cons (pe_glob (v := .int (-33)) (by rfl) m2 ⟨_, rfl⟩) pa_nil)))) pss_nil)
      (pss_one (ps_ret (pe_lst (pa_cons (pe_callB call_len_seq (by rfl) ml PySem.boot_len (pa_cons (pv 3) pa_nil))
        (pa_cons (pe_callB (cr_max (by rfl)) (by rfl) ma (by decide +kernel) (pa_cons (pe_call G3 hr (by rfl) g3 F3.kp b3 .nil pass0 (pa_cons (pv 0) (pa_cons (pv 2) (pa_cons (pe_call G4 hr (by rfl) g4 F4.kp b4 .nil pass0 (pa_cons (pv 0) pa_nil)) pa_nil)))) pa_nil))
        (pa_cons (pe_callB (cr_max (by rfl)) (by rfl) ma (by decide +kernel) (pa_cons (pv 3) pa_nil))
        (pa_cons (pe_callB (cr_min (by rfl)) (by rfl) mi (by decide +kernel) (pa_cons (pv 3) pa_nil)) pa_nil))))))))), ?_⟩
    refine ⟨.int (n : Int), rfl, .ref a, rfl, a, n, v, rfl, hA, hn, hv, fun H1 s1 => ⟨_, rfl, ?_⟩⟩
    cases et : told n v with
    | false =>
      refine ⟨Nat.le_of_lt (room (by show 1 ≤ 1000; omega)), fun p np => q _ p ?_⟩
      rw [upd_same, price_no (.inl et)]
      rfl
    | true =>
      obtain ⟨h1, h2, h3, _⟩ := told_iff.mp et
      have hsz := all_size (k := n) h2
      refine ⟨.int (w : Int), rfl, _, _, rfl, rfl, _, rfl, ite2 (fun e => ?_) (fun e => ?_)⟩
      · have e := of_decide_eq_true e
        refine ⟨Nat.le_of_lt (room (by show 1 ≤ 1000; omega)), fun p np => q _ p ?_⟩
        rw [upd_same, price_no (.inr (by omega))]
        rfl
      have e1 : ¬ 4 < w := fun z => e (decide_eq_true (show (w : Int) > 4 by omega))
      refine ⟨.int (n : Int), rfl, .ref a, rfl, .int (n : Int), rfl, .int (w : Int), rfl, .ref a, rfl, a, n, w, v, rfl, s1.seq hA, h1, h2, by omega, h3, fun H3 p3 cs s3 hp3 hC => ?_⟩
      have s13 := s1.trans s3
      have hfl : ((all n).filter (ofKind n v w)).length ≤ 1000 := Nat.le_trans (List.length_filter_le _ _) (by omega)
      refine ⟨a, p3, n, v, cs, _, rfl, s13.seq hA, SqL.of hp3, hC, hfl, fun g hg => all_len n g (List.mem_filter.mp hg).1, h1, h2, h3, fun H4 D s4 hD => ?_⟩
      have s14 := s13.trans s4
      have ld : (vi (((all n).filter (ofKind n v w)).map (Ks567.total ⟨n, v⟩))).length = ((all n).filter (ofKind n v w)).length := by
        rw [List.length_map, List.length_map]
      refine ⟨.ref D, rfl, D, _, rfl, .inl (SqL.of hD), rfl, _, rfl, ite2 (fun e => ?_) (fun e => ?_)⟩
      · have e := V.int.inj (of_decide_eq_true e)
        rw [ld] at e
        have e : (all n).filter (ofKind n v w) = [] := List.length_eq_zero_iff.mp (by omega)
        refine ⟨Nat.le_of_lt (room (by show 1 ≤ 1000; omega)), fun p np => q _ p ?_⟩
        rw [upd_same, price_none et e1 e]
        rfl
      have hne : 0 < ((all n).filter (ofKind n v w)).length := by
        apply Nat.pos_of_ne_zero
        intro z
        refine e (decide_eq_true ?_)
        rw [ld, z]
        rfl
      refine ⟨.ref D, rfl, D, _, rfl, .inl (SqL.of hD), ?_⟩
      refine ⟨.int (n : Int), rfl, .ref a, rfl, .int (n : Int), rfl, n, rfl, h2, fun H5 p5 ds s5 hp5 hA5 => ?_⟩
      have s15 := s14.trans s5
      refine ⟨a, p5, n, v, ds, _, rfl, s15.seq hA, SqL.of hp5, hA5, by omega, fun g hg => all_len n g hg, h1, h2, h3, fun H6 p6 s6 hp6 => ?_⟩
      refine ⟨p6, _, rfl, SqL.of hp6, ?_, fun x1 c1 d1 => ?_⟩
      · rw [List.length_map]
        cases c : all n with
        | nil => exact absurd c (all_ne n)
        | cons y r => exact Nat.zero_lt_succ _
      have hD6 := s6 _ _ (s5 _ _ hD)
      have hp : 0 < (((all n).filter (ofKind n v w)).map (Ks567.total ⟨n, v⟩)).length := by
        rw [List.length_map]
        exact hne
      refine ⟨.ref D, rfl, D, _, rfl, SqL.of hD6, hp, fun x2 c2 d2 => ?_⟩
      refine ⟨.ref D, rfl, D, _, rfl, SqL.of hD6, hp, fun x3 c3 d3 => ?_⟩
      refine ⟨Nat.le_of_lt (room (by show 4 ≤ 1000; omega)), fun p np => q _ p ?_⟩
      obtain ⟨y1, e1', z1⟩ := best_is c1 d1
      obtain ⟨y2, e2', z2⟩ := best_is c2 d2
      obtain ⟨y3, e3', z3⟩ := worst_is c3 d3
      rw [upd_same, price_at et e1, e1', e2', e3', ld, ← z1, ← z2, ← z3]
      rfl

end
theorem all_mk {P : Program} {w : World} {K : PySem.W.Frag} {h : Heap} {mg : Str → Option Value} {fa f1 f2 f3 f4 f5 f6 f7 f8 f9 f10 f11 f12 f13 f14 f15 f16 f17 f18 f19 f20 f21 : Addr} (X : K.In h) (G : h.Ns mainGlobals mg) (hfa : mg "price" = some (.ref fa))
    {od1 an1 od2 an2 od3 an3 od4 an4 od5 an5 od6 an6 od7 an7 od8 an8 od9 an9 od10 an10 od11 an11 od12 an12 od13 an13 od14 an14 od15 an15 od16 an16 od17 an17 od18 an18 od19 an19 od20 an20 od21 an21 : Option Addr} {sl1 sl2 sl3 sl4 sl5 sl6 sl7 sl8 sl9 sl10 sl11 sl12 sl13 sl14 sl15 sl16 sl17 sl18 sl19 sl20 sl21 : Array (Option Value)} {oc1 kV1 dc1 pm1 cd1 ct1 oc2 kV2 dc2 pm2 cd2 ct2 oc3 kV3 dc3 pm3 cd3 ct3 oc4 kV4 dc4 pm4 cd4 ct4 oc5 kV5 dc5 pm5 cd5 ct5 oc6 kV6 dc6 pm6 cd6 ct6 oc7 kV7 dc7 pm7 cd7 ct7 oc8 kV8 dc8 pm8 cd8 ct8 oc9 kV9 dc9 pm9 cd9 ct9 oc10 kV10 dc10 pm10 cd10 ct10 oc11 kV11 dc11 pm11 cd11 ct11 oc12 kV12 dc12 pm12 cd12 ct12 oc13 kV13 dc13 pm13 cd13 ct13 oc14 kV14 dc14 pm14 cd14 ct14 oc15 kV15 dc15 pm15 cd15 ct15 oc16 kV16 dc16 pm16 cd16 ct16 oc17 kV17 dc17 pm17 cd17 ct17 oc18 kV18 dc18 pm18 cd18 ct18 oc19 kV19 dc19 pm19 cd19 ct19 oc20 kV20 dc20 pm20 cd20 ct20 oc21 kV21 dc21 pm21 cd21 ct21 : Value} {tMOST_PEOPLE tMOST_WORTH tWHERE_WELCOME tWHERE_LET_GO tHOLDING_WEAKLY tHOLDING tTOGETHER tREFUSED tNONE_OF_KIND tLAST_KIND : Tok}
    (a1 : PySem.W.nsIn K mainGlobals "price" = some (some (.ref f1))) (l1 : K.lookup f1 = some ⟨oc1, od1, .func (PySem.W.fnOf "price" "price" (defArgs sPrice) (defBody sPrice) (defScope sPrice) .none kV1 dc1 pm1 an1 cd1 ct1), sl1⟩) (c1 : PySem.W.codeIn K cd1 "price" = true) (k1 : PySem.W.keepIn K (.ref f1) = true)
    (a2 : PySem.W.nsIn K mainGlobals "is_as_told" = some (some (.ref f2))) (l2 : K.lookup f2 = some ⟨oc2, od2, .func (PySem.W.fnOf "is_as_told" "is_as_told" (defArgs sTold) (defBody sTold) (defScope sTold) .none kV2 dc2 pm2 an2 cd2 ct2), sl2⟩) (c2 : PySem.W.codeIn K cd2 "is_as_told" = true) (k2 : PySem.W.keepIn K (.ref f2) = true)
    (a3 : PySem.W.nsIn K mainGlobals "all_ways" = some (some (.ref f3))) (l3 : K.lookup f3 = some ⟨oc3, od3, .func (PySem.W.fnOf "all_ways" "all_ways" (defArgs sWays) (defBody sWays) (defScope sWays) .none kV3 dc3 pm3 an3 cd3 ct3), sl3⟩) (c3 : PySem.W.codeIn K cd3 "all_ways" = true) (k3 : PySem.W.keepIn K (.ref f3) = true)
    (a4 : PySem.W.nsIn K mainGlobals "ways_with_one_more" = some (some (.ref f4))) (l4 : K.lookup f4 = some ⟨oc4, od4, .func (PySem.W.fnOf "ways_with_one_more" "ways_with_one_more" (defArgs sMore) (defBody sMore) (defScope sMore) .none kV4 dc4 pm4 an4 cd4 ct4), sl4⟩) (c4 : PySem.W.codeIn K cd4 "ways_with_one_more" = true) (k4 : PySem.W.keepIn K (.ref f4) = true)
    (a5 : PySem.W.nsIn K mainGlobals "count_groups" = some (some (.ref f5))) (l5 : K.lookup f5 = some ⟨oc5, od5, .func (PySem.W.fnOf "count_groups" "count_groups" (defArgs sCount) (defBody sCount) (defScope sCount) .none kV5 dc5 pm5 an5 cd5 ct5), sl5⟩) (c5 : PySem.W.codeIn K cd5 "count_groups" = true) (k5 : PySem.W.keepIn K (.ref f5) = true)
    (a6 : PySem.W.nsIn K mainGlobals "members_of" = some (some (.ref f6))) (l6 : K.lookup f6 = some ⟨oc6, od6, .func (PySem.W.fnOf "members_of" "members_of" (defArgs sMembers) (defBody sMembers) (defScope sMembers) .none kV6 dc6 pm6 an6 cd6 ct6), sl6⟩) (c6 : PySem.W.codeIn K cd6 "members_of" = true) (k6 : PySem.W.keepIn K (.ref f6) = true)
    (a7 : PySem.W.nsIn K mainGlobals "has_with" = some (some (.ref f7))) (l7 : K.lookup f7 = some ⟨oc7, od7, .func (PySem.W.fnOf "has_with" "has_with" (defArgs sHas) (defBody sHas) (defScope sHas) .none kV7 dc7 pm7 an7 cd7 ct7), sl7⟩) (c7 : PySem.W.codeIn K cd7 "has_with" = true) (k7 : PySem.W.keepIn K (.ref f7) = true)
    (a8 : PySem.W.nsIn K mainGlobals "what_each_has" = some (some (.ref f8))) (l8 : K.lookup f8 = some ⟨oc8, od8, .func (PySem.W.fnOf "what_each_has" "what_each_has" (defArgs sEach) (defBody sEach) (defScope sEach) .none kV8 dc8 pm8 an8 cd8 ct8), sl8⟩) (c8 : PySem.W.codeIn K cd8 "what_each_has" = true) (k8 : PySem.W.keepIn K (.ref f8) = true)
    (a9 : PySem.W.nsIn K mainGlobals "measure" = some (some (.ref f9))) (l9 : K.lookup f9 = some ⟨oc9, od9, .func (PySem.W.fnOf "measure" "measure" (defArgs sMeas) (defBody sMeas) (defScope sMeas) .none kV9 dc9 pm9 an9 cd9 ct9), sl9⟩) (c9 : PySem.W.codeIn K cd9 "measure" = true) (k9 : PySem.W.keepIn K (.ref f9) = true)
    (a10 : PySem.W.nsIn K mainGlobals "had_together" = some (some (.ref f10))) (l10 : K.lookup f10 = some ⟨oc10, od10, .func (PySem.W.fnOf "had_together" "had_together" (defArgs sHadt) (defBody sHadt) (defScope sHadt) .none kV10 dc10 pm10 an10 cd10 ct10), sl10⟩) (c10 : PySem.W.codeIn K cd10 "had_together" = true) (k10 : PySem.W.keepIn K (.ref f10) = true)
    (a11 : PySem.W.nsIn K mainGlobals "ways_of_kind" = some (some (.ref f11))) (l11 : K.lookup f11 = some ⟨oc11, od11, .func (PySem.W.fnOf "ways_of_kind" "ways_of_kind" (defArgs sWok) (defBody sWok) (defScope sWok) .none kV11 dc11 pm11 an11 cd11 ct11), sl11⟩) (c11 : PySem.W.codeIn K cd11 "ways_of_kind" = true) (k11 : PySem.W.keepIn K (.ref f11) = true)
    (a12 : PySem.W.nsIn K mainGlobals "is_of_kind" = some (some (.ref f12))) (l12 : K.lookup f12 = some ⟨oc12, od12, .func (PySem.W.fnOf "is_of_kind" "is_of_kind" (defArgs sKind) (defBody sKind) (defScope sKind) .none kV12 dc12 pm12 an12 cd12 ct12), sl12⟩) (c12 : PySem.W.codeIn K cd12 "is_of_kind" = true) (k12 : PySem.W.keepIn K (.ref f12) = true)
    (a13 : PySem.W.nsIn K mainGlobals "is_at_rest" = some (some (.ref f13))) (l13 : K.lookup f13 = some ⟨oc13, od13, .func (PySem.W.fnOf "is_at_rest" "is_at_rest" (defArgs sRest) (defBody sRest) (defScope sRest) .none kV13 dc13 pm13 an13 cd13 ct13), sl13⟩) (c13 : PySem.W.codeIn K cd13 "is_at_rest" = true) (k13 : PySem.W.keepIn K (.ref f13) = true)
    (a14 : PySem.W.nsIn K mainGlobals "may_go" = some (some (.ref f14))) (l14 : K.lookup f14 = some ⟨oc14, od14, .func (PySem.W.fnOf "may_go" "may_go" (defArgs sMay) (defBody sMay) (defScope sMay) .none kV14 dc14 pm14 an14 cd14 ct14), sl14⟩) (c14 : PySem.W.codeIn K cd14 "may_go" = true) (k14 : PySem.W.keepIn K (.ref f14) = true)
    (a15 : PySem.W.nsIn K mainGlobals "is_welcome" = some (some (.ref f15))) (l15 : K.lookup f15 = some ⟨oc15, od15, .func (PySem.W.fnOf "is_welcome" "is_welcome" (defArgs sWelc) (defBody sWelc) (defScope sWelc) .none kV15 dc15 pm15 an15 cd15 ct15), sl15⟩) (c15 : PySem.W.codeIn K cd15 "is_welcome" = true) (k15 : PySem.W.keepIn K (.ref f15) = true)
    (a16 : PySem.W.nsIn K mainGlobals "is_let_go" = some (some (.ref f16))) (l16 : K.lookup f16 = some ⟨oc16, od16, .func (PySem.W.fnOf "is_let_go" "is_let_go" (defArgs sLeto) (defBody sLeto) (defScope sLeto) .none kV16 dc16 pm16 an16 cd16 ct16), sl16⟩) (c16 : PySem.W.codeIn K cd16 "is_let_go" = true) (k16 : PySem.W.keepIn K (.ref f16) = true)
    (a17 : PySem.W.nsIn K mainGlobals "does_hold" = some (some (.ref f17))) (l17 : K.lookup f17 = some ⟨oc17, od17, .func (PySem.W.fnOf "does_hold" "does_hold" (defArgs sHold) (defBody sHold) (defScope sHold) .none kV17 dc17 pm17 an17 cd17 ct17), sl17⟩) (c17 : PySem.W.codeIn K cd17 "does_hold" = true) (k17 : PySem.W.keepIn K (.ref f17) = true)
    (a18 : PySem.W.nsIn K mainGlobals "all_sets" = some (some (.ref f18))) (l18 : K.lookup f18 = some ⟨oc18, od18, .func (PySem.W.fnOf "all_sets" "all_sets" (defArgs sSets) (defBody sSets) (defScope sSets) .none kV18 dc18 pm18 an18 cd18 ct18), sl18⟩) (c18 : PySem.W.codeIn K cd18 "all_sets" = true) (k18 : PySem.W.keepIn K (.ref f18) = true)
    (a19 : PySem.W.nsIn K mainGlobals "gains" = some (some (.ref f19))) (l19 : K.lookup f19 = some ⟨oc19, od19, .func (PySem.W.fnOf "gains" "gains" (defArgs sGain) (defBody sGain) (defScope sGain) .none kV19 dc19 pm19 an19 cd19 ct19), sl19⟩) (c19 : PySem.W.codeIn K cd19 "gains" = true) (k19 : PySem.W.keepIn K (.ref f19) = true)
    (a20 : PySem.W.nsIn K mainGlobals "would_leave" = some (some (.ref f20))) (l20 : K.lookup f20 = some ⟨oc20, od20, .func (PySem.W.fnOf "would_leave" "would_leave" (defArgs sLeav) (defBody sLeav) (defScope sLeav) .none kV20 dc20 pm20 an20 cd20 ct20), sl20⟩) (c20 : PySem.W.codeIn K cd20 "would_leave" = true) (k20 : PySem.W.keepIn K (.ref f20) = true)
    (a21 : PySem.W.nsIn K mainGlobals "is_better" = some (some (.ref f21))) (l21 : K.lookup f21 = some ⟨oc21, od21, .func (PySem.W.fnOf "is_better" "is_better" (defArgs sBett) (defBody sBett) (defScope sBett) .none kV21 dc21 pm21 an21 cd21 ct21), sl21⟩) (c21 : PySem.W.codeIn K cd21 "is_better" = true) (k21 : PySem.W.keepIn K (.ref f21) = true)
    (mMOST_PEOPLE : PySem.W.nsIn K mainGlobals "MOST_PEOPLE" = some (some (.int 5 tMOST_PEOPLE))) (mMOST_WORTH : PySem.W.nsIn K mainGlobals "MOST_WORTH" = some (some (.int 20 tMOST_WORTH))) (mWHERE_WELCOME : PySem.W.nsIn K mainGlobals "WHERE_WELCOME" = some (some (.int 1 tWHERE_WELCOME))) (mWHERE_LET_GO : PySem.W.nsIn K mainGlobals "WHERE_LET_GO" = some (some (.int 2 tWHERE_LET_GO))) (mHOLDING_WEAKLY : PySem.W.nsIn K mainGlobals "HOLDING_WEAKLY" = some (some (.int 4 tHOLDING_WEAKLY))) (mHOLDING : PySem.W.nsIn K mainGlobals "HOLDING" = some (some (.int 3 tHOLDING))) (mTOGETHER : PySem.W.nsIn K mainGlobals "TOGETHER" = some (some (.int 0 tTOGETHER))) (mREFUSED : PySem.W.nsIn K mainGlobals "REFUSED" = some (some (.int (-22) tREFUSED))) (mNONE_OF_KIND : PySem.W.nsIn K mainGlobals "NONE_OF_KIND" = some (some (.int (-33) tNONE_OF_KIND))) (mLAST_KIND : PySem.W.nsIn K mainGlobals "LAST_KIND" = some (some (.int 4 tLAST_KIND)))
    (zlen : PySem.W.nsIn K mainGlobals "len" = some none) (zall : PySem.W.nsIn K mainGlobals "all" = some none) (zabs : PySem.W.nsIn K mainGlobals "abs" = some none) (zmax : PySem.W.nsIn K mainGlobals "max" = some none) (zrange : PySem.W.nsIn K mainGlobals "range" = some none) (zsum : PySem.W.nsIn K mainGlobals "sum" = some none) (zmin : PySem.W.nsIn K mainGlobals "min" = some none) :
    ∃ fd : FuncData, (∀ (s : Shared) (us : List Value), us.length = (["n", "w", "worth"] : List Str).length → BindsTo s fd ⟨us, []⟩ ((["n", "w", "worth"] : List Str).zip us)) ∧ ∀ base : Heap, K.In base → base.Ns mainGlobals mg → FnOk P w K mg base CX0 6 fa fd ["n", "w", "worth"] (spPrice K) := by
  have e := hfa.symm.trans (PySem.W.mg_of X G a1)
  cases e
  have F1 := fun_mk (st := sPrice) l1 c1 k1
  have F2 := fun_mk (st := sTold) l2 c2 k2
  have F3 := fun_mk (st := sWays) l3 c3 k3
  have F4 := fun_mk (st := sMore) l4 c4 k4
  have F5 := fun_mk (st := sCount) l5 c5 k5
  have F6 := fun_mk (st := sMembers) l6 c6 k6
  have F7 := fun_mk (st := sHas) l7 c7 k7
  have F8 := fun_mk (st := sEach) l8 c8 k8
  have F9 := fun_mk (st := sMeas) l9 c9 k9
  have F10 := fun_mk (st := sHadt) l10 c10 k10
  have F11 := fun_mk (st := sWok) l11 c11 k11
  have F12 := fun_mk (st := sKind) l12 c12 k12
  have F13 := fun_mk (st := sRest) l13 c13 k13
  have F14 := fun_mk (st := sMay) l14 c14 k14
  have F15 := fun_mk (st := sWelc) l15 c15 k15
  have F16 := fun_mk (st := sLeto) l16 c16 k16
  have F17 := fun_mk (st := sHold) l17 c17 k17
  have F18 := fun_mk (st := sSets) l18 c18 k18
  have F19 := fun_mk (st := sGain) l19 c19 k19
  have F20 := fun_mk (st := sLeav) l20 c20 k20
  have F21 := fun_mk (st := sBett) l21 c21 k21
  have b2 := F2.binds (ps := ["n", "worth"]) fun _ _ _ _ _ _ us hl => match us, hl with | [_, _], _ => rfl
  have g2 := PySem.W.mg_of X G a2
  have b3 := F3.binds (ps := ["n"]) fun _ _ _ _ _ _ us hl => match us, hl with | [_], _ => rfl
  have g3 := PySem.W.mg_of X G a3
  have b4 := F4.binds (ps := ["way"]) fun _ _ _ _ _ _ us hl => match us, hl with | [_], _ => rfl
  have g4 := PySem.W.mg_of X G a4
  have b5 := F5.binds (ps := ["way"]) fun _ _ _ _ _ _ us hl => match us, hl with | [_], _ => rfl
  have g5 := PySem.W.mg_of X G a5
  have b6 := F6.binds (ps := ["way", "number"]) fun _ _ _ _ _ _ us hl => match us, hl with | [_, _], _ => rfl
  have g6 := PySem.W.mg_of X G a6
  have b7 := F7.binds (ps := ["n", "worth", "person", "members"]) fun _ _ _ _ _ _ us hl => match us, hl with | [_, _, _, _], _ => rfl
  have g7 := PySem.W.mg_of X G a7
  have b8 := F8.binds (ps := ["n", "worth", "way"]) fun _ _ _ _ _ _ us hl => match us, hl with | [_, _, _], _ => rfl
  have g8 := PySem.W.mg_of X G a8
  have b9 := F9.binds (ps := ["k", "has"]) fun _ _ _ _ _ _ us hl => match us, hl with | [_, _], _ => rfl
  have g9 := PySem.W.mg_of X G a9
  have b10 := F10.binds (ps := ["n", "worth", "ways"]) fun _ _ _ _ _ _ us hl => match us, hl with | [_, _, _], _ => rfl
  have g10 := PySem.W.mg_of X G a10
  have b11 := F11.binds (ps := ["n", "w", "worth"]) fun _ _ _ _ _ _ us hl => match us, hl with | [_, _, _], _ => rfl
  have g11 := PySem.W.mg_of X G a11
  have b12 := F12.binds (ps := ["n", "w", "worth", "way"]) fun _ _ _ _ _ _ us hl => match us, hl with | [_, _, _, _], _ => rfl
  have g12 := PySem.W.mg_of X G a12
  have b13 := F13.binds (ps := ["n", "w", "worth", "way"]) fun _ _ _ _ _ _ us hl => match us, hl with | [_, _, _, _], _ => rfl
  have g13 := PySem.W.mg_of X G a13
  have b14 := F14.binds (ps := ["n", "w", "worth", "person", "left", "joined"]) fun _ _ _ _ _ _ us hl => match us, hl with | [_, _, _, _, _, _], _ => rfl
  have g14 := PySem.W.mg_of X G a14
  have b15 := F15.binds (ps := ["n", "worth", "person", "joined"]) fun _ _ _ _ _ _ us hl => match us, hl with | [_, _, _, _], _ => rfl
  have g15 := PySem.W.mg_of X G a15
  have b16 := F16.binds (ps := ["n", "worth", "person", "left"]) fun _ _ _ _ _ _ us hl => match us, hl with | [_, _, _, _], _ => rfl
  have g16 := PySem.W.mg_of X G a16
  have b17 := F17.binds (ps := ["n", "w", "worth", "way"]) fun _ _ _ _ _ _ us hl => match us, hl with | [_, _, _, _], _ => rfl
  have g17 := PySem.W.mg_of X G a17
  have b18 := F18.binds (ps := ["n"]) fun _ _ _ _ _ _ us hl => match us, hl with | [_], _ => rfl
  have g18 := PySem.W.mg_of X G a18
  have b19 := F19.binds (ps := ["n", "worth", "has", "members"]) fun _ _ _ _ _ _ us hl => match us, hl with | [_, _, _, _], _ => rfl
  have g19 := PySem.W.mg_of X G a19
  have b20 := F20.binds (ps := ["w", "gained"]) fun _ _ _ _ _ _ us hl => match us, hl with | [_, _], _ => rfl
  have g20 := PySem.W.mg_of X G a20
  have b21 := F21.binds (ps := ["gained"]) fun _ _ _ _ _ _ us hl => match us, hl with | [_], _ => rfl
  have g21 := PySem.W.mg_of X G a21
  have ylen := PySem.W.mg_none_of X G zlen
  have yall := PySem.W.mg_none_of X G zall
  have yabs := PySem.W.mg_none_of X G zabs
  have ymax := PySem.W.mg_none_of X G zmax
  have yrange := PySem.W.mg_none_of X G zrange
  have ysum := PySem.W.mg_none_of X G zsum
  have ymin := PySem.W.mg_none_of X G zmin
  have yMOST_PEOPLE := PySem.W.mg_of X G mMOST_PEOPLE
  have yMOST_WORTH := PySem.W.mg_of X G mMOST_WORTH
  have yWHERE_WELCOME := PySem.W.mg_of X G mWHERE_WELCOME
  have yWHERE_LET_GO := PySem.W.mg_of X G mWHERE_LET_GO
  have yHOLDING_WEAKLY := PySem.W.mg_of X G mHOLDING_WEAKLY
  have yHOLDING := PySem.W.mg_of X G mHOLDING
  have yTOGETHER := PySem.W.mg_of X G mTOGETHER
  have yREFUSED := PySem.W.mg_of X G mREFUSED
  have yNONE_OF_KIND := PySem.W.mg_of X G mNONE_OF_KIND
  have yLAST_KIND := PySem.W.mg_of X G mLAST_KIND
  refine ⟨PySem.W.fnOf "price" "price" (defArgs sPrice) (defBody sPrice) (defScope sPrice) .none kV1 dc1 pm1 an1 cd1 ct1, fun s us hu => match us, hu with | [_, _, _], _ => .of_eq rfl, fun base _ _ => ?_⟩
  have G2_5 := ok_told (P := P) (w := w) (base := base) (k := 4) F2 ylen yall yabs yMOST_PEOPLE yMOST_WORTH
  have G5_2 := ok_count (P := P) (w := w) (base := base) (k := 1) F5 ymax
  have G4_3 := ok_more (P := P) (w := w) (base := base) (k := 1) F4 F5 b5 g5 G5_2 yrange
  have G3_4 := ok_ways (P := P) (w := w) (base := base) (k := 1) F3 F4 b4 g4 G4_3 yrange
  have G7_1 := ok_has (P := P) (w := w) (base := base) (k := 0) F7 ysum
  have G15_1 := ok_welc (P := P) (w := w) (base := base) (k := 0) F15 yall
  have G16_1 := ok_leto (P := P) (w := w) (base := base) (k := 0) F16 yall
  have G14_2 := ok_may (P := P) (w := w) (base := base) (k := 0) F14 F7 b7 g7 G7_1 F15 b15 g15 G15_1 F16 b16 g16 G16_1 yWHERE_WELCOME yWHERE_LET_GO
  have G6_2 := ok_members (P := P) (w := w) (base := base) (k := 1) F6 yrange ylen
  have G13_3 := ok_rest (P := P) (w := w) (base := base) (k := 0) F13 F5 b5 g5 G5_2 F14 b14 g14 G14_2 F6 b6 g6 G6_2 yrange
  have G6_1 := ok_members (P := P) (w := w) (base := base) (k := 0) F6 yrange ylen
  have G8_2 := ok_each (P := P) (w := w) (base := base) (k := 0) F8 F7 b7 g7 G7_1 F6 b6 g6 G6_1 yrange
  have G18_2 := ok_sets (P := P) (w := w) (base := base) (k := 1) F18 yrange
  have G19_2 := ok_gain (P := P) (w := w) (base := base) (k := 0) F19 F7 b7 g7 G7_1
  have G21_1 := ok_bett (P := P) (w := w) (base := base) (k := 0) F21 ymin ymax
  have G20_2 := ok_leav (P := P) (w := w) (base := base) (k := 0) F20 F21 b21 g21 G21_1 ymin yHOLDING_WEAKLY
  have G17_3 := ok_hold (P := P) (w := w) (base := base) (k := 0) F17 F8 b8 g8 G8_2 F18 b18 g18 G18_2 F19 b19 g19 G19_2 F20 b20 g20 G20_2
  have G12_4 := ok_kind (P := P) (w := w) (base := base) (k := 0) F12 F13 b13 g13 G13_3 F17 b17 g17 G17_3 yHOLDING
  have G11_5 := ok_wok (P := P) (w := w) (base := base) (k := 0) F11 F3 b3 g3 G3_4 F12 b12 g12 G12_4
  have G7_3 := ok_has (P := P) (w := w) (base := base) (k := 2) F7 ysum
  have G6_3 := ok_members (P := P) (w := w) (base := base) (k := 2) F6 yrange ylen
  have G8_4 := ok_each (P := P) (w := w) (base := base) (k := 2) F8 F7 b7 g7 G7_3 F6 b6 g6 G6_3 yrange
  have G9_4 := ok_meas (P := P) (w := w) (base := base) (k := 3) F9 ysum ymin yTOGETHER
  have G10_5 := ok_hadt (P := P) (w := w) (base := base) (k := 2) F10 F8 b8 g8 G8_4 F9 b9 g9 G9_4 yTOGETHER
  have G5_3 := ok_count (P := P) (w := w) (base := base) (k := 2) F5 ymax
  have G4_4 := ok_more (P := P) (w := w) (base := base) (k := 2) F4 F5 b5 g5 G5_3 yrange
  have G3_5 := ok_ways (P := P) (w := w) (base := base) (k := 2) F3 F4 b4 g4 G4_4 yrange
  have G1_6 := ok_price (P := P) (w := w) (base := base) (k := 0) F1 F2 b2 g2 G2_5 F11 b11 g11 G11_5 F10 b10 g10 G10_5 F3 b3 g3 G3_5 ylen ymax ymin yREFUSED yNONE_OF_KIND yLAST_KIND
  exact G1_6
end Cir
open PySem PySem.W PyProof.Rows
set_option maxRecDepth 100000 in
set_option maxHeartbeats 0 in
theorem PySem.Challenge.cw_circles_s06_price_holds : PySem.Challenge.rw_circles_s06_price.Holds := by
  w_on; k_headS; (case hw => exact ⟨[.int 0, .int 0, .list []], by decide +kernel, by decide +kernel⟩)
  k_fillS
  refine L2.walk_specK (r := PySem.Challenge.rw_circles_s06_price) (k := 6) (CX := L2.CX0) (ps := ["n", "w", "worth"]) (sp := Cir.spPrice) (by decide +kernel) rfl rfl ⟨rfl, by decide, by decide⟩ (fun w h Y => PySem.W.kIn_of Y) ?F ?S (fun _ _ _ _ z => z)
  case F =>
    intro w mg fa h Y KX G hmg
    refine' Cir.all_mk KX G hmg ?a1 ?l1 ?c1 ?k1 ?a2 ?l2 ?c2 ?k2 ?a3 ?l3 ?c3 ?k3 ?a4 ?l4 ?c4 ?k4 ?a5 ?l5 ?c5 ?k5 ?a6 ?l6 ?c6 ?k6 ?a7 ?l7 ?c7 ?k7 ?a8 ?l8 ?c8 ?k8 ?a9 ?l9 ?c9 ?k9 ?a10 ?l10 ?c10 ?k10 ?a11 ?l11 ?c11 ?k11 ?a12 ?l12 ?c12 ?k12 ?a13 ?l13 ?c13 ?k13 ?a14 ?l14 ?c14 ?k14 ?a15 ?l15 ?c15 ?k15 ?a16 ?l16 ?c16 ?k16 ?a17 ?l17 ?c17 ?k17 ?a18 ?l18 ?c18 ?k18 ?a19 ?l19 ?c19 ?k19 ?a20 ?l20 ?c20 ?k20 ?a21 ?l21 ?c21 ?k21 ?mMOST_PEOPLE ?mMOST_WORTH ?mWHERE_WELCOME ?mWHERE_LET_GO ?mHOLDING_WEAKLY ?mHOLDING ?mTOGETHER ?mREFUSED ?mNONE_OF_KIND ?mLAST_KIND ?zlen ?zall ?zabs ?zmax ?zrange ?zsum ?zmin
    (case a1 => k_is); (case l1 => k_is); (case c1 => k_is); (case k1 => k_is); (case a2 => k_is); (case l2 => k_is); (case c2 => k_is); (case k2 => k_is); (case a3 => k_is); (case l3 => k_is); (case c3 => k_is); (case k3 => k_is)
    (case a4 => k_is); (case l4 => k_is); (case c4 => k_is); (case k4 => k_is); (case a5 => k_is); (case l5 => k_is); (case c5 => k_is); (case k5 => k_is); (case a6 => k_is); (case l6 => k_is); (case c6 => k_is); (case k6 => k_is)
    (case a7 => k_is); (case l7 => k_is); (case c7 => k_is); (case k7 => k_is); (case a8 => k_is); (case l8 => k_is); (case c8 => k_is); (case k8 => k_is); (case a9 => k_is); (case l9 => k_is); (case c9 => k_is); (case k9 => k_is)
    (case a10 => k_is); (case l10 => k_is); (case c10 => k_is); (case k10 => k_is); (case a11 => k_is); (case l11 => k_is); (case c11 => k_is); (case k11 => k_is); (case a12 => k_is); (case l12 => k_is); (case c12 => k_is); (case k12 => k_is)
    (case a13 => k_is); (case l13 => k_is); (case c13 => k_is); (case k13 => k_is); (case a14 => k_is); (case l14 => k_is); (case c14 => k_is); (case k14 => k_is); (case a15 => k_is); (case l15 => k_is); (case c15 => k_is); (case k15 => k_is)
    (case a16 => k_is); (case l16 => k_is); (case c16 => k_is); (case k16 => k_is); (case a17 => k_is); (case l17 => k_is); (case c17 => k_is); (case k17 => k_is); (case a18 => k_is); (case l18 => k_is); (case c18 => k_is); (case k18 => k_is)
    (case a19 => k_is); (case l19 => k_is); (case c19 => k_is); (case k19 => k_is); (case a20 => k_is); (case l20 => k_is); (case c20 => k_is); (case k20 => k_is); (case a21 => k_is); (case l21 => k_is); (case c21 => k_is); (case k21 => k_is)
    (case mMOST_PEOPLE => k_is); (case mMOST_WORTH => k_is); (case mWHERE_WELCOME => k_is); (case mWHERE_LET_GO => k_is); (case mHOLDING_WEAKLY => k_is); (case mHOLDING => k_is); (case mTOGETHER => k_is); (case mREFUSED => k_is); (case mNONE_OF_KIND => k_is); (case mLAST_KIND => k_is); (case zlen => k_is); (case zall => k_is)
    (case zabs => k_is); (case zmax => k_is); (case zrange => k_is); (case zsum => k_is); (case zmin => k_is)
  case S =>
    intro K H xs a hO hwi hask hx
    obtain ⟨x1, x2, x3, u⟩ := a
    have q : (PySem.W.Codec.inInt 0 4294967295 x1 && (PySem.W.Codec.inInt 0 4294967295 x2 && ((PySem.W.Codec.inLen 0 27 x3 && x3.all (PySem.W.Codec.inInt (-2147483648) 2147483647)) && true))) = true := hwi
    obtain ⟨v1, r1, rfl, h1, g1⟩ := Cir.dw_cons hx
    have e1 := Cir.dw_int_inv h1
    subst e1
    obtain ⟨q1, q⟩ := Cir.in_int q
    obtain ⟨v2, r2, rfl, h2, g2⟩ := Cir.dw_cons g1
    have e2 := Cir.dw_int_inv h2
    subst e2
    obtain ⟨q2, q⟩ := Cir.in_int q
    obtain ⟨v3, r3, rfl, h3, g3⟩ := Cir.dw_cons g2
    obtain ⟨a3, w3, rfl, s3, d3⟩ := Cir.dw_list_inv h3
    have e3 := L2.ints_dw x3 _ d3
    subst e3
    obtain ⟨l3, m3, q⟩ := Cir.in_list q
    have ex := Cir.dw_nil g3
    subst ex
    obtain ⟨x1, rfl⟩ : ∃ m : Nat, x1 = (m : Int) := Int.eq_ofNat_of_zero_le q1.1
    obtain ⟨x2, rfl⟩ : ∃ m : Nat, x2 = (m : Int) := Int.eq_ofNat_of_zero_le q2.1
    exact ⟨_, x1, x2, x3, rfl, s3, by omega, l3, fun H' p hp => .lst (L2.SqL.of hp) (L2.dw_ints _)⟩
#print axioms PySem.Challenge.cw_circles_s06_price_holds

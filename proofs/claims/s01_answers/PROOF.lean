import PyProof.Rows.All
import Wide.All
import OpenK.AllK
import Wide.FinOn
import Open.SpecLaws
import KE.OsGo
import HandS.ForSpec
import HandS.ForMost
import HandS.Zip
import HandS.Evl
import HandS.Steps
import KE.KMinKey
import KE.KLam
import HandS.Lambda
import KE.KRevIter
import HandS.Rev
import KE.KNest
import PySem.Challenge.RW_earthmoved_s01_answers
set_option Elab.async false
namespace EM
/-- sums of whole numbers over the places below n -/
def S : Nat → (Nat → Int) → Int
  | 0, _ => 0
  | n + 1, f => S n f + f n

theorem S_congr {f g : Nat → Int} : ∀ {n : Nat}, (∀ k, k < n → f k = g k) → S n f = S n g
  | 0, _ => rfl
  | n + 1, h => by
    show S n f + f n = S n g + g n
    rw [S_congr (n := n) (fun k hk => h k (by omega)), h n (by omega)]

theorem S_add (f g : Nat → Int) : ∀ n, S n (fun k => f k + g k) = S n f + S n g
  | 0 => rfl
  | n + 1 => by
    show S n _ + (f n + g n) = (S n f + f n) + (S n g + g n)
    rw [S_add f g n]; omega

theorem S_sub (f g : Nat → Int) : ∀ n, S n (fun k => f k - g k) = S n f - S n g
  | 0 => rfl
  | n + 1 => by
    show S n _ + (f n - g n) = (S n f + f n) - (S n g + g n)
    rw [S_sub f g n]; omega

theorem S_mulL (c : Int) (f : Nat → Int) : ∀ n, S n (fun k => c * f k) = c * S n f
  | 0 => by simp [S]
  | n + 1 => by
    show S n _ + _ = c * (S n f + f n)
    rw [S_mulL c f n, Int.mul_add]

theorem S_mulR (c : Int) (f : Nat → Int) : ∀ n, S n (fun k => f k * c) = S n f * c
  | 0 => by simp [S]
  | n + 1 => by
    show S n _ + _ = (S n f + f n) * c
    rw [S_mulR c f n, Int.add_mul]

theorem S_zero : ∀ n, S n (fun _ => 0) = 0
  | 0 => rfl
  | n + 1 => by show S n _ + 0 = 0; rw [S_zero n]; rfl

theorem S_le {f g : Nat → Int} : ∀ {n : Nat}, (∀ k, k < n → f k ≤ g k) → S n f ≤ S n g
  | 0, _ => Int.le_refl _
  | n + 1, h => by
    show S n f + f n ≤ S n g + g n
    have := S_le (n := n) (fun k hk => h k (by omega))
    have := h n (by omega)
    omega

theorem S_nonneg {f : Nat → Int} {n : Nat} (h : ∀ k, k < n → 0 ≤ f k) : 0 ≤ S n f := by
  have := S_le (f := fun _ => 0) (g := f) (n := n) h
  rw [S_zero] at this; exact this

theorem S_swap (f : Nat → Nat → Int) (n : Nat) : ∀ m, S m (fun i => S n (fun j => f i j)) = S n (fun j => S m (fun i => f i j))
  | 0 => by show 0 = S n (fun j => 0); rw [S_zero]
  | m + 1 => by
    show S m (fun i => S n (fun j => f i j)) + S n (fun j => f m j) = S n (fun j => S m (fun i => f i j) + f m j)
    rw [S_swap f n m, S_add]

theorem S_single (i : Nat) (c : Int) : ∀ n, i < n → S n (fun k => if k = i then c else 0) = c
  | 0, h => by omega
  | n + 1, h => by
    show S n _ + (if n = i then c else 0) = c
    by_cases e : n = i
    · rw [S_congr (g := fun _ => 0), S_zero, if_pos e]; · omega
      intro k hk; rw [if_neg (by omega)]
    · rw [S_single i c n (by omega), if_neg e]; omega

theorem S_none (i : Nat) (c : Int) (n : Nat) (h : n ≤ i) : S n (fun k => if k = i then c else 0) = 0 := by
  rw [S_congr (g := fun _ => 0), S_zero]
  intro k hk; rw [if_neg (by omega)]

theorem S_pos {f : Nat → Int} : ∀ {n : Nat}, 0 < S n f → ∃ k, k < n ∧ 0 < f k
  | 0, h => by simp [S] at h
  | n + 1, h => by
    change 0 < S n f + f n at h
    by_cases e : 0 < f n
    · exact ⟨n, by omega, e⟩
    · obtain ⟨k, hk, hf⟩ := S_pos (f := f) (n := n) (by omega)
      exact ⟨k, by omega, hf⟩

theorem S_term {f : Nat → Int} {n i : Nat} (h : ∀ k, k < n → 0 ≤ f k) (hi : i < n) : f i ≤ S n f := by
  have := S_le (f := fun k => if k = i then f i else 0) (g := f) (n := n) (by
    intro k hk
    by_cases e : k = i
    · simp [e]
    · simp [e]; exact h k hk)
  rw [S_single i _ n hi] at this; exact this

theorem S_eq_of_le {f g : Nat → Int} : ∀ {n : Nat}, (∀ k, k < n → f k ≤ g k) → S n g ≤ S n f → ∀ k, k < n → f k = g k
  | 0, _, _, k, hk => by omega
  | n + 1, h, e, k, hk => by
    change S n g + g n ≤ S n f + f n at e
    have h1 := h n (by omega)
    have h2 := S_le (n := n) (fun k hk => h k (by omega))
    by_cases ek : k = n
    · subst ek; omega
    · exact S_eq_of_le (n := n) (fun k hk => h k (by omega)) (by omega) k (by omega)

theorem S_lt_exists {f g : Nat → Int} {n : Nat} (h : S n f < S n g) : ∃ k, k < n ∧ f k < g k := by
  have := S_pos (f := fun k => g k - f k) (n := n) (by rw [S_sub]; omega)
  obtain ⟨k, hk, h2⟩ := this
  exact ⟨k, hk, by omega⟩

/-- sums of lists -/
def sumI : List Int → Int
  | [] => 0
  | x :: l => x + sumI l

theorem sumI_append : ∀ a b : List Int, sumI (a ++ b) = sumI a + sumI b
  | [], b => by simp [sumI]
  | x :: a, b => by simp only [List.cons_append, sumI, sumI_append a b]; omega

theorem foldl_add (l : List Nat) : ∀ a : Nat, l.foldl (fun (a x : Nat) => a + x) a = a + Kp218.sumOf l := by
  induction l with
  | nil => intro a; simp [Kp218.sumOf]
  | cons x l ih =>
    intro a
    have e1 : Kp218.sumOf (x :: l) = l.foldl (fun (a x : Nat) => a + x) (0 + x) := rfl
    rw [e1, ih, List.foldl_cons, ih]; omega

theorem sumOf_nil : Kp218.sumOf [] = 0 := rfl
theorem sumOf_cons (x : Nat) (l : List Nat) : Kp218.sumOf (x :: l) = x + Kp218.sumOf l := by
  have e1 : Kp218.sumOf (x :: l) = l.foldl (fun (a x : Nat) => a + x) (0 + x) := rfl
  rw [e1, foldl_add]; omega
theorem sumOf_append : ∀ a b : List Nat, Kp218.sumOf (a ++ b) = Kp218.sumOf a + Kp218.sumOf b
  | [], b => by simp [sumOf_nil]
  | x :: a, b => by rw [List.cons_append, sumOf_cons, sumOf_append a b, sumOf_cons]; omega
theorem sumOf_sumI : ∀ l : List Nat, (Kp218.sumOf l : Int) = sumI (l.map fun (x : Nat) => (x : Int))
  | [] => rfl
  | x :: l => by rw [sumOf_cons, List.map_cons, sumI, ← sumOf_sumI l]; omega

theorem sumI_range (f : Nat → Int) : ∀ n, sumI ((List.range n).map f) = S n f
  | 0 => rfl
  | n + 1 => by
    rw [List.range_succ, List.map_append, sumI_append, sumI_range f n]
    simp [sumI, S]

theorem sumOf_range (f : Nat → Nat) (n : Nat) : (Kp218.sumOf ((List.range n).map f) : Int) = S n (fun k => (f k : Int)) := by
  rw [sumOf_sumI, List.map_map, ← sumI_range]; rfl

theorem sumI_getD : ∀ l : List Int, sumI l = S l.length (fun k => l.getD k 0) := by
  intro l
  rw [← sumI_range]
  congr 1
  apply List.ext_getElem
  · simp
  · intro i h1 h2; simp [List.getD, h1]

theorem sumOf_getD (l : List Nat) : (Kp218.sumOf l : Int) = S l.length (fun k => ((l.getD k 0 : Nat) : Int)) := by
  rw [← sumOf_range]
  congr 2
  apply List.ext_getElem
  · simp
  · intro i h1 h2; simp [List.getD, h1]

theorem sumI_flatMap (g : Nat → List Int) : ∀ n, sumI ((List.range n).flatMap g) = S n (fun i => sumI (g i))
  | 0 => rfl
  | n + 1 => by
    rw [List.range_succ, List.flatMap_append, sumI_append, sumI_flatMap g n]
    simp [S]

theorem sumOf_flatMap (m n : Nat) (g : Nat → Nat → Nat) : (Kp218.sumOf ((List.range m).flatMap fun i => (List.range n).map fun j => g i j) : Int) = S m (fun i => S n (fun j => (g i j : Int))) := by
  rw [sumOf_sumI, List.map_flatMap, sumI_flatMap]
  apply S_congr
  intro i _
  rw [List.map_map, ← sumI_range]
  rfl
end EM
namespace EM
open Kp218
abbrev O := Option (Int × Nat)
/-- the fold of `less` over a list of places, each with a value or none -/
def pick (g : Nat → Option Int) (b : O) (i : Nat) : O := match g i with
  | none => b
  | some x => less b (some (x, i))

theorem less_some (b : O) (x : Int) (i : Nat) : (less b (some (x, i)) = b ∧ ∃ y, b = some y ∧ y.1 ≤ x) ∨ (less b (some (x, i)) = some (x, i) ∧ ∀ y, b = some y → x < y.1) := by
  cases b with
  | none => right; exact ⟨rfl, fun y h => by cases h⟩
  | some y =>
    unfold less
    by_cases h : x < y.1
    · right
      simp only [h, if_true, true_and]
      intro z hz; cases hz; exact h
    · left
      simp only [h, if_false, true_and]
      exact ⟨y, rfl, by omega⟩

theorem pick_fold (g : Nat → Option Int) : ∀ (l : List Nat) (b : O),
    (l.foldl (pick g) b = b ∨ ∃ i, i ∈ l ∧ ∃ x, g i = some x ∧ l.foldl (pick g) b = some (x, i) ∧ ∀ y, b = some y → x < y.1) ∧
    (∀ y, b = some y → ∃ z, l.foldl (pick g) b = some z ∧ z.1 ≤ y.1) ∧
    (∀ i x, i ∈ l → g i = some x → ∃ z, l.foldl (pick g) b = some z ∧ z.1 ≤ x)
  | [], b => by
    refine ⟨Or.inl rfl, fun y h => ⟨y, h, Int.le_refl _⟩, fun i x h => by cases h⟩
  | a :: l, b => by
    obtain ⟨h1, h2, h3⟩ := pick_fold g l (pick g b a)
    rw [List.foldl_cons]
    cases hg : g a with
    | none =>
      have e : pick g b a = b := by simp [pick, hg]
      rw [e] at h1 h2 h3 ⊢
      refine ⟨?_, h2, ?_⟩
      · rcases h1 with h1 | ⟨i, hi, x, hx, h4, h5⟩
        · exact Or.inl h1
        · exact Or.inr ⟨i, List.mem_cons_of_mem _ hi, x, hx, h4, h5⟩
      · intro i x hi hx
        rcases List.mem_cons.1 hi with rfl | hi
        · rw [hg] at hx; cases hx
        · exact h3 i x hi hx
    | some x0 =>
      have e : pick g b a = less b (some (x0, a)) := by simp [pick, hg]
      rw [e] at h1 h2 h3 ⊢
      rcases less_some b x0 a with ⟨e1, y0, hy0, hle⟩ | ⟨e1, hlt⟩
      · rw [e1] at h1 h2 h3 ⊢
        refine ⟨?_, h2, ?_⟩
        · rcases h1 with h1 | ⟨i, hi, x, hx, h4, h5⟩
          · exact Or.inl h1
          · exact Or.inr ⟨i, List.mem_cons_of_mem _ hi, x, hx, h4, h5⟩
        · intro i x hi hx
          rcases List.mem_cons.1 hi with rfl | hi
          · rw [hg] at hx; cases hx
            obtain ⟨z, hz, hz2⟩ := h2 y0 hy0
            exact ⟨z, hz, by omega⟩
          · exact h3 i x hi hx
      · rw [e1] at h1 h2 h3 ⊢
        refine ⟨?_, ?_, ?_⟩
        · rcases h1 with h1 | ⟨i, hi, x, hx, h4, h5⟩
          · exact Or.inr ⟨a, List.mem_cons_self, x0, hg, h1, hlt⟩
          · refine Or.inr ⟨i, List.mem_cons_of_mem _ hi, x, hx, h4, ?_⟩
            intro y hy
            have := hlt y hy
            have := h5 _ rfl
            simp only at this
            omega
        · intro y hy
          obtain ⟨z, hz, hz2⟩ := h2 _ rfl
          have := hlt y hy
          exact ⟨z, hz, by simp only at hz2; omega⟩
        · intro i x hi hx
          rcases List.mem_cons.1 hi with rfl | hi
          · rw [hg] at hx; cases hx
            exact h2 _ rfl
          · exact h3 i x hi hx

/-- what one round does, place by place -/
structure Round (m n : Nat) (c : Nat → Nat → Int) (g : Nat → Nat → Nat) (s t s' t' : Nat → O) : Prop where
  t1 : ∀ j, j < n → ∀ y, t j = some y → ∃ z, t' j = some z ∧ z.1 ≤ y.1
  t2 : ∀ i j x, i < m → j < n → s i = some x → ∃ z, t' j = some z ∧ z.1 ≤ x.1 + c i j
  t3 : ∀ j, j < n → t' j = t j ∨ ∃ i, i < m ∧ ∃ x, s i = some x ∧ t' j = some (x.1 + c i j, i) ∧ ∀ y, t j = some y → x.1 + c i j < y.1
  s1 : ∀ i, i < m → ∀ y, s i = some y → ∃ z, s' i = some z ∧ z.1 ≤ y.1
  s2 : ∀ i j x, i < m → j < n → g i j ≠ 0 → t' j = some x → ∃ z, s' i = some z ∧ z.1 ≤ x.1 - c i j
  s3 : ∀ i, i < m → s' i = s i ∨ ∃ j, j < n ∧ g i j ≠ 0 ∧ ∃ x, t' j = some x ∧ s' i = some (x.1 - c i j, j) ∧ ∀ y, s i = some y → x.1 - c i j < y.1

theorem foldl_congr' {α β : Type} {f g : β → α → β} : ∀ (l : List α) (b : β), (∀ b a, f b a = g b a) → l.foldl f b = l.foldl g b
  | [], _, _ => rfl
  | a :: l, b, h => by rw [List.foldl_cons, List.foldl_cons, h, foldl_congr' l _ h]

theorem getD_map_range {α : Type} (f : Nat → α) (d : α) (n k : Nat) (h : k < n) : ((List.range n).map f).getD k d = f k := by
  simp [List.getD, h]

theorem round_once (w : Job) (p : Plan) (m n : Nat) (r : Reach × Reach) :
    Round m n (fun i j => (price w i j : Int)) (goes p) (fun i => r.1.getD i none) (fun j => r.2.getD j none)
      (fun i => (once w p m n r).1.getD i none) (fun j => (once w p m n r).2.getD j none) := by
  have ht : ∀ j, j < n → (once w p m n r).2.getD j none = (List.range m).foldl (pick (fun i => match r.1.getD i none with | none => none | some x => some (x.1 + (price w i j : Int)))) (r.2.getD j none) := by
    intro j hj
    show ((List.range n).map _).getD j none = _
    rw [getD_map_range _ _ _ _ hj]
    apply foldl_congr'
    intro b i
    unfold pick
    dsimp only
    cases r.1.getD i none <;> rfl
  have hs : ∀ i, i < m → (once w p m n r).1.getD i none = (List.range n).foldl (pick (fun j => if goes p i j = 0 then none else match (once w p m n r).2.getD j none with | none => none | some x => some (x.1 - (price w i j : Int)))) (r.1.getD i none) := by
    intro i hi
    show ((List.range m).map _).getD i none = _
    rw [getD_map_range _ _ _ _ hi]
    apply foldl_congr'
    intro b j
    unfold pick
    by_cases hg : goes p i j = 0
    · simp only [hg, if_true]
    · simp only [hg, if_false]
      show (match (once w p m n r).2.getD j none with | none => b | some x => less b (some (x.1 - (price w i j : Int), j))) = _
      cases (once w p m n r).2.getD j none <;> rfl
  generalize (once w p m n r) = q at ht hs ⊢
  constructor
  · intro j hj y hy
    simp only [ht j hj]
    exact (pick_fold _ _ _).2.1 y hy
  · intro i j x hi hj hx
    simp only [ht j hj]
    apply (pick_fold _ _ _).2.2 i _ (List.mem_range.2 hi)
    simp only [hx]
  · intro j hj
    simp only [ht j hj]
    rcases (pick_fold (fun i => match r.1.getD i none with | none => none | some x => some (x.1 + (price w i j : Int))) (List.range m) (r.2.getD j none)).1 with h | ⟨i, hi, x, hx, h4, h5⟩
    · exact Or.inl h
    · refine Or.inr ⟨i, List.mem_range.1 hi, ?_⟩
      cases hr : r.1.getD i none with
      | none => simp only [hr] at hx; cases hx
      | some z =>
        simp only [hr] at hx; cases hx
        exact ⟨z, rfl, h4, h5⟩
  · intro i hi y hy
    simp only [hs i hi]
    exact (pick_fold _ _ _).2.1 y hy
  · intro i j x hi hj hg hx
    simp only [hs i hi]
    apply (pick_fold _ _ _).2.2 j _ (List.mem_range.2 hj)
    simp only [hx, hg, if_false]
  · intro i hi
    simp only [hs i hi]
    rcases (pick_fold (fun j => if goes p i j = 0 then none else match q.2.getD j none with | none => none | some x => some (x.1 - (price w i j : Int))) (List.range n) (r.1.getD i none)).1 with h | ⟨j, hj, x, hx, h4, h5⟩
    · exact Or.inl h
    · by_cases hg : goes p i j = 0
      · simp only [hg, if_true] at hx; cases hx
      · simp only [hg, if_false] at hx
        refine Or.inr ⟨j, List.mem_range.1 hj, hg, ?_⟩
        cases hr : q.2.getD j none with
        | none => simp only [hr] at hx; cases hx
        | some z =>
          simp only [hr] at hx; cases hx
          exact ⟨z, rfl, h4, h5⟩
end EM
namespace EM
open Kp218

/-- a list of unlike places below m is no longer than m -/
theorem nodup_le : ∀ (m : Nat) (l : List Nat), l.Nodup → (∀ a, a ∈ l → a < m) → l.length ≤ m
  | 0, l, _, h => by
    cases l with
    | nil => simp
    | cons a l => have := h a List.mem_cons_self; omega
  | m + 1, l, hd, h => by
    have h1 := nodup_le m (l.erase m) (hd.erase m) (by
      intro a ha
      have h2 := h a (List.mem_of_mem_erase ha)
      have h3 : a ≠ m := by
        intro e; subst e
        exact (List.Nodup.not_mem_erase hd) ha
      omega)
    have := List.length_erase_le (a := m) (l := l)
    by_cases hm : m ∈ l
    · have := List.length_erase_of_mem hm; omega
    · rw [List.erase_of_not_mem hm] at h1; omega

/-- what holds after k rounds; u, v: prices at which nothing that goes could be bettered -/
structure Inv (m n : Nat) (c : Nat → Nat → Int) (g : Nat → Nat → Nat) (lf fr : Nat → Nat) (u : Nat → Int) (k : Nat) (s t : Nat → O) : Prop where
  b : ∀ i j x, i < m → j < n → g i j ≠ 0 → t j = some x → ∃ z, s i = some z ∧ z.1 ≤ x.1 - c i j
  a : ∀ i y, i < m → s i = some y → (∀ j, j < n → ∃ x, t j = some x ∧ x.1 ≤ y.1 + c i j) ∨
    (∃ L : List Nat, L.length = k + 1 ∧ L.Nodup ∧ ∀ a, a ∈ L → a < m ∧ ∃ z, s a = some z ∧ z.1 - u a ≤ y.1 - u i)
  src : ∀ i, i < m → lf i ≠ 0 → ∃ y, s i = some y
  act : ∀ i y, i < m → s i = some y → fr i ≠ 0

structure Rank (m n : Nat) (c : Nat → Nat → Int) (g : Nat → Nat → Nat) (lf : Nat → Nat) (k : Nat) (s t : Nat → O) (rs rt : Nat → Nat) : Prop where
  bs : ∀ i, rs i ≤ 2 * k
  bt : ∀ j, j < n → t j ≠ none → rt j + 1 ≤ 2 * k
  ft : ∀ j x, j < n → t j = some x → x.2 < m ∧ ∃ y, s x.2 = some y ∧ y.1 + c x.2 j ≤ x.1 ∧ (y.1 + c x.2 j = x.1 → rs x.2 < rt j)
  fs : ∀ i y, i < m → s i = some y → lf i ≠ 0 ∨ (y.2 < n ∧ g i y.2 ≠ 0 ∧ ∃ x, t y.2 = some x ∧ x.1 - c i y.2 ≤ y.1 ∧ (x.1 - c i y.2 = y.1 → rt y.2 < rs i))

theorem Inv.step {m n : Nat} {c : Nat → Nat → Int} {g : Nat → Nat → Nat} {lf fr : Nat → Nat} {u v : Nat → Int} {k : Nat} {s t s' t' : Nat → O}
    (p1 : ∀ i j, i < m → j < n → fr i ≠ 0 → v j ≤ u i + c i j) (p2 : ∀ i j, i < m → j < n → g i j ≠ 0 → v j = u i + c i j ∧ fr i ≠ 0)
    (h : Inv m n c g lf fr u k s t) (r : Round m n c g s t s' t') : Inv m n c g lf fr u (k + 1) s' t' := by
  constructor
  · intro i j x hi hj hg hx
    exact r.s2 i j x hi hj hg hx
  · intro i y hi hy
    rcases r.s3 i hi with e | ⟨j, hj, hg, x, hx, e, hlt⟩
    · left
      intro j hj
      rw [e] at hy
      exact r.t2 i j y hi hj hy
    · right
      rw [e] at hy; cases hy
      rcases r.t3 j hj with e2 | ⟨i0, hi0, x0, hx0, e2, hlt2⟩
      · rw [e2] at hx
        obtain ⟨z, hz, hz2⟩ := h.b i j x hi hj hg hx
        have := hlt z hz
        omega
      · rw [e2] at hx; cases hx
        have hL : ∃ L : List Nat, L.length = k + 1 ∧ L.Nodup ∧ ∀ a, a ∈ L → a < m ∧ ∃ z, s a = some z ∧ z.1 - u a ≤ x0.1 - u i0 := by
          rcases h.a i0 x0 hi0 hx0 with h1 | h1
          · obtain ⟨x1, hx1, hle⟩ := h1 j hj
            have := hlt2 x1 hx1
            omega
          · exact h1
        obtain ⟨L, hl, hd, hm⟩ := hL
        have e3 := (p2 i j hi hj hg).1
        have e4 := p1 i0 j hi0 hj (h.act i0 x0 hi0 hx0)
        refine ⟨i :: L, by simp [hl], ?_, ?_⟩
        · refine List.nodup_cons.2 ⟨?_, hd⟩
          intro hin
          obtain ⟨_, z, hz, hz2⟩ := hm i hin
          have := hlt z hz
          simp only at this
          omega
        · intro a ha
          rcases List.mem_cons.1 ha with rfl | ha
          · exact ⟨hi, _, e, Int.le_refl _⟩
          · obtain ⟨ham, z, hz, hz2⟩ := hm a ha
            obtain ⟨z', hz', hle⟩ := r.s1 a ham z hz
            refine ⟨ham, z', hz', ?_⟩
            simp only
            omega
  · intro i hi hl
    obtain ⟨y, hy⟩ := h.src i hi hl
    obtain ⟨z, hz, _⟩ := r.s1 i hi y hy
    exact ⟨z, hz⟩
  · intro i y hi hy
    rcases r.s3 i hi with e | ⟨j, hj, hg, x, hx, e, hlt⟩
    · rw [e] at hy; exact h.act i y hi hy
    · exact (p2 i j hi hj hg).2

theorem Rank.step {m n : Nat} {c : Nat → Nat → Int} {g : Nat → Nat → Nat} {lf : Nat → Nat} {k : Nat} {s t s' t' : Nat → O} {rs rt : Nat → Nat}
    (h : Rank m n c g lf k s t rs rt) (r : Round m n c g s t s' t') :
    Rank m n c g lf (k + 1) s' t' (fun i => if s' i = s i then rs i else 2 * k + 2) (fun j => if t' j = t j then rt j else 2 * k + 1) := by
  constructor
  · intro i
    have := h.bs i
    split <;> omega
  · intro j hj hn
    split
    · rename_i e
      rw [e] at hn
      have := h.bt j hj hn
      omega
    · omega
  · intro j x hj hx
    rcases r.t3 j hj with e | ⟨i, hi, x0, hx0, e, hlt⟩
    · have hx' := hx
      rw [e] at hx'
      obtain ⟨hm, y, hy, hle, hrk⟩ := h.ft j x hj hx'
      obtain ⟨z, hz, hz2⟩ := r.s1 _ hm y hy
      refine ⟨hm, z, hz, by omega, ?_⟩
      intro heq
      have e5 : s' x.2 = s x.2 := by
        rcases r.s3 _ hm with e6 | ⟨j2, _, _, x2, _, e6, hlt6⟩
        · exact e6
        · have := hlt6 y hy
          rw [e6] at hz; cases hz
          simp only at heq hz2
          omega
      have e7 : z = y := by rw [e5, hy] at hz; cases hz; rfl
      subst e7
      simp only [e5, e, if_true]
      exact hrk heq
    · have e0 := e
      rw [hx] at e; cases e
      obtain ⟨z, hz, hz2⟩ := r.s1 _ hi x0 hx0
      refine ⟨hi, z, hz, by simp only; omega, ?_⟩
      intro heq
      simp only at heq
      have e5 : s' i = s i := by
        rcases r.s3 _ hi with e6 | ⟨j2, _, _, x2, _, e6, hlt6⟩
        · exact e6
        · have := hlt6 x0 hx0
          rw [e6] at hz; cases hz
          simp only at heq hz2
          omega
      have e8 : ¬ t' j = t j := by
        intro e9
        rw [hx] at e9
        have := hlt _ e9.symm
        simp only at this
        omega
      simp only [e5, if_true, e8, if_false]
      have := h.bs i
      omega
  · intro i y hi hy
    rcases r.s3 i hi with e | ⟨j, hj, hg, x, hx, e, hlt⟩
    · have hy' := hy
      rw [e] at hy'
      rcases h.fs i y hi hy' with h1 | ⟨hn, hg, x, hx, hle, hrk⟩
      · exact Or.inl h1
      · right
        obtain ⟨z, hz, hz2⟩ := r.t1 _ hn x hx
        refine ⟨hn, hg, z, hz, by omega, ?_⟩
        intro heq
        have e5 : t' y.2 = t y.2 := by
          rcases r.t3 _ hn with e6 | ⟨i2, _, x2, _, e6, hlt6⟩
          · exact e6
          · have := hlt6 x hx
            rw [e6] at hz; cases hz
            simp only at heq hz2
            omega
        have e7 : z = x := by rw [e5, hx] at hz; cases hz; rfl
        subst e7
        simp only [e5, e, if_true]
        exact hrk heq
    · right
      have e0 := e
      rw [hy] at e; cases e
      refine ⟨hj, hg, x, hx, Int.le_refl _, ?_⟩
      intro _
      have e8 : ¬ s' i = s i := by
        intro e9
        rw [hy] at e9
        have := hlt _ e9.symm
        simp only at this
        omega
      simp only [e8, if_false]
      split
      · rename_i e9
        have := h.bt j hj (by rw [← e9, hx]; exact fun h => by cases h)
        omega
      · omega

/-- what holds when the rounds are over -/
structure Settled (m n : Nat) (c : Nat → Nat → Int) (g : Nat → Nat → Nat) (lf fr : Nat → Nat) (K : Nat) (s t : Nat → O) : Prop where
  a : ∀ i j y, i < m → j < n → s i = some y → ∃ x, t j = some x ∧ x.1 ≤ y.1 + c i j
  b : ∀ i j x, i < m → j < n → g i j ≠ 0 → t j = some x → ∃ z, s i = some z ∧ z.1 ≤ x.1 - c i j
  src : ∀ i, i < m → lf i ≠ 0 → ∃ y, s i = some y
  act : ∀ i y, i < m → s i = some y → fr i ≠ 0
  rank : ∃ rs rt, Rank m n c g lf K s t rs rt

theorem Rank.mono {m n : Nat} {c : Nat → Nat → Int} {g : Nat → Nat → Nat} {lf : Nat → Nat} {k K : Nat} {s t : Nat → O} {rs rt : Nat → Nat}
    (h : Rank m n c g lf k s t rs rt) (hk : k ≤ K) : Rank m n c g lf K s t rs rt :=
  ⟨fun i => by have := h.bs i; omega, fun j hj hn => by have := h.bt j hj hn; omega, h.ft, h.fs⟩

theorem sameEnd_eq {a b : O} (h : sameEnd a b = true) : a = b := by
  cases a with
  | none => cases b with
    | none => rfl
    | some y => simp [sameEnd] at h
  | some x => cases b with
    | none => simp [sameEnd] at h
    | some y =>
      simp [sameEnd] at h
      obtain ⟨h1, h2⟩ := h
      cases x; cases y; simp only at h1 h2; subst h1 h2; rfl

theorem sameReach_eq : ∀ {a b : Reach}, sameReach a b = true → a = b
  | [], [], _ => rfl
  | [], _ :: _, h => by simp [sameReach] at h
  | _ :: _, [], h => by simp [sameReach] at h
  | x :: a, y :: b, h => by
    simp [sameReach] at h
    rw [sameEnd_eq h.1, sameReach_eq h.2]

theorem again_settled (w : Job) (p : Plan) (m n : Nat) (lf fr : Nat → Nat) (u v : Nat → Int) (K : Nat) (hK : m ≤ K)
    (p1 : ∀ i j, i < m → j < n → fr i ≠ 0 → v j ≤ u i + (price w i j : Int))
    (p2 : ∀ i j, i < m → j < n → goes p i j ≠ 0 → v j = u i + (price w i j : Int) ∧ fr i ≠ 0) :
    ∀ (f k : Nat) (r : Reach × Reach), k + f = K →
      Inv m n (fun i j => (price w i j : Int)) (goes p) lf fr u k (fun i => r.1.getD i none) (fun j => r.2.getD j none) →
      (∃ rs rt, Rank m n (fun i j => (price w i j : Int)) (goes p) lf k (fun i => r.1.getD i none) (fun j => r.2.getD j none) rs rt) →
      Settled m n (fun i j => (price w i j : Int)) (goes p) lf fr K (fun i => (again w p m n f r).1.getD i none) (fun j => (again w p m n f r).2.getD j none) := by
  intro f
  induction f with
  | zero =>
    intro k r hk hinv hrk
    have e : k = K := by omega
    subst e
    show Settled _ _ _ _ _ _ _ (fun i => r.1.getD i none) (fun j => r.2.getD j none)
    refine ⟨?_, hinv.b, hinv.src, hinv.act, hrk⟩
    intro i j y hi hj hy
    rcases hinv.a i y hi hy with h | ⟨L, hl, hd, hm⟩
    · exact h j hj
    · have := nodup_le m L hd (fun a ha => (hm a ha).1)
      omega
  | succ f ih =>
    intro k r hk hinv ⟨rs, rt, hrk⟩
    have hr := round_once w p m n r
    have hinv' := hinv.step p1 p2 hr
    have hrk' := hrk.step hr
    show Settled _ _ _ _ _ _ _ (fun i => (if sameReach (once w p m n r).1 r.1 && sameReach (once w p m n r).2 r.2 then once w p m n r else again w p m n f (once w p m n r)).1.getD i none) (fun j => (if sameReach (once w p m n r).1 r.1 && sameReach (once w p m n r).2 r.2 then once w p m n r else again w p m n f (once w p m n r)).2.getD j none)
    by_cases hs : (sameReach (once w p m n r).1 r.1 && sameReach (once w p m n r).2 r.2) = true
    · simp only [hs, if_true]
      have hs2 := (Bool.and_eq_true _ _ ▸ hs : _ ∧ _)
      have e1 := sameReach_eq hs2.1
      refine ⟨?_, hinv'.b, hinv'.src, hinv'.act, ⟨_, _, hrk'.mono (by omega)⟩⟩
      intro i j y hi hj hy
      refine hr.t2 i j y hi hj ?_
      rw [← e1]; exact hy
    · simp only [hs]
      exact ih (k + 1) _ (by omega) hinv' ⟨_, _, hrk'⟩
end EM
namespace EM
open Kp218

def val (o : O) : Int := match o with
  | none => 0
  | some x => x.1

/-- a way back over tight places; rs of the rows falls along it -/
inductive Way (m n : Nat) (c : Nat → Nat → Int) (g : Nat → Nat → Nat) (lf rs : Nat → Nat) (s t : Nat → Int) : Nat → List (Nat × Nat) → Nat → Nat → Prop
  | last {R i j : Nat} : i < m → j < n → t j = s i + c i j → lf i ≠ 0 → rs i < R → Way m n c g lf rs s t R [(i, j)] j i
  | more {R i j j' z : Nat} {l : List (Nat × Nat)} : i < m → j < n → j' < n → t j = s i + c i j → g i j' ≠ 0 → rs i < R →
      Way m n c g lf rs s t (rs i) l j' z → Way m n c g lf rs s t R ((i, j) :: (j', i) :: l) j z

theorem Way.source {m n : Nat} {c : Nat → Nat → Int} {g : Nat → Nat → Nat} {lf rs : Nat → Nat} {s t : Nat → Int} {R : Nat} {l : List (Nat × Nat)} {j z : Nat}
    (h : Way m n c g lf rs s t R l j z) : z < m ∧ j < n ∧ lf z ≠ 0 ∧ ∃ q, l.getLast? = some (z, q) := by
  induction h with
  | last h1 h2 h3 h4 h5 => exact ⟨h1, h2, h4, _, rfl⟩
  | more h1 h2 h3 h4 h5 h6 h7 ih =>
    obtain ⟨i1, _, i3, q, i4⟩ := ih
    refine ⟨i1, h2, i3, q, ?_⟩
    rw [List.getLast?_cons, List.getLast?_cons, i4]
    rfl

theorem back_way (w : Job) (p : Plan) (m n : Nat) (fr : Nat → Nat) (K : Nat) (r : Reach × Reach) (rs rt : Nat → Nat)
    (hs : Settled m n (fun i j => (price w i j : Int)) (goes p) (leftFrom w p) fr K (fun i => r.1.getD i none) (fun j => r.2.getD j none))
    (hr : Rank m n (fun i j => (price w i j : Int)) (goes p) (leftFrom w p) K (fun i => r.1.getD i none) (fun j => r.2.getD j none) rs rt) :
    ∀ (f j : Nat) (x : Int × Nat), j < n → r.2.getD j none = some x → rt j + 1 ≤ 2 * f →
      ∃ z, Way m n (fun i j => (price w i j : Int)) (goes p) (leftFrom w p) rs (fun i => val (r.1.getD i none)) (fun j => val (r.2.getD j none)) (rt j) (back w p r f j) j z := by
  intro f
  induction f with
  | zero => intro j x _ _ h; omega
  | succ f ih =>
    intro j x hj hx hf
    obtain ⟨hm, y, hy, hle, hrk⟩ := hr.ft j x hj hx
    obtain ⟨x', hx', hle'⟩ := hs.a x.2 j y hm hj hy
    rw [hx] at hx'; cases hx'
    have heq : y.1 + (price w x.2 j : Int) = x.1 := by omega
    have hlt := hrk heq
    have htight : val (r.2.getD j none) = val (r.1.getD x.2 none) + (price w x.2 j : Int) := by
      rw [hx, hy]; simp only [val]; omega
    unfold back
    rw [hx]
    simp only
    by_cases hl : leftFrom w p x.2 = 0
    · have hl' : (leftFrom w p x.2 != 0) = false := by simp [hl]
      rw [hl']
      rw [hy]
      simp only
      rcases hr.fs x.2 y hm hy with h1 | ⟨hn, hg, x2, hx2, hle2, hrk2⟩
      · exact absurd hl h1
      · obtain ⟨z0, hz0, hz1⟩ := hs.b x.2 y.2 x2 hm hn hg hx2
        rw [hy] at hz0; cases hz0
        have h3 := hrk2 (by omega)
        obtain ⟨z, hz⟩ := ih y.2 x2 hn hx2 (by omega)
        refine ⟨z, Way.more hm hj hn htight hg hlt ?_⟩
        have hmono : ∀ {R R' : Nat} {l : List (Nat × Nat)} {a b : Nat}, R ≤ R' → Way m n (fun i j => (price w i j : Int)) (goes p) (leftFrom w p) rs (fun i => val (r.1.getD i none)) (fun j => val (r.2.getD j none)) R l a b → Way m n (fun i j => (price w i j : Int)) (goes p) (leftFrom w p) rs (fun i => val (r.1.getD i none)) (fun j => val (r.2.getD j none)) R' l a b := by
          intro R R' l a b hR hw
          cases hw with
          | last h1 h2 h3 h4 h5 => exact Way.last h1 h2 h3 h4 (by omega)
          | more h1 h2 h3 h4 h5 h6 h7 => exact Way.more h1 h2 h3 h4 h5 (by omega) h7
        exact hmono (by omega) hz
    · have hl' : (leftFrom w p x.2 != 0) = true := by simp [hl]
      rw [hl']
      exact ⟨x.2, Way.last hm hj htight hl hlt⟩

/-! plans -/
def Shape (m n : Nat) (p : Plan) : Prop := p.length = m ∧ ∀ i, i < m → (p.getD i []).length = n

theorem put_shape {m n : Nat} {p : Plan} (h : Shape m n p) (i j v : Nat) : Shape m n (put p i j v) := by
  obtain ⟨h1, h2⟩ := h
  refine ⟨by simp [put, h1], ?_⟩
  intro a ha
  have h3 := h2 a ha
  unfold put
  simp only [List.getD, List.getElem?_set]
  by_cases e : i = a
  · subst e
    simp only [h1, ha, if_true]
    simpa [List.getD] using h3
  · simp only [e, if_false]
    simpa [List.getD] using h3

theorem goes_put {m n : Nat} {p : Plan} (h : Shape m n p) {i j : Nat} (hi : i < m) (hj : j < n) (v a b : Nat) :
    goes (put p i j v) a b = if a = i ∧ b = j then v else goes p a b := by
  obtain ⟨h1, h2⟩ := h
  have h3 := h2 i hi
  unfold goes put
  simp only [List.getD, List.getElem?_set]
  by_cases e : i = a
  · subst e
    simp only [h1, hi, if_true, true_and, Option.getD_some, List.getElem?_set]
    by_cases e2 : j = b
    · subst e2
      have h4 : j < ((p[i]?).getD []).length := by
        have : (p[i]?.getD []).length = n := by simpa [List.getD] using h3
        omega
      simp [h4]
    · have : ¬ b = j := fun h => e2 h.symm
      simp [e2, this]
  · have : ¬ a = i := fun h => e h.symm
    simp [e, this]

/-- every backward place of a way holds k at least -/
def Backs (p : Plan) (k : Nat) : Bool → List (Nat × Nat) → Prop
  | _, [] => True
  | true, _ :: l => Backs p k false l
  | false, (j, i) :: l => k ≤ goes p i j ∧ Backs p k true l

theorem room_le (p : Plan) : ∀ (l : List (Nat × Nat)) (b : Bool) (k : Nat), room p b l k ≤ k ∧ Backs p (room p b l k) b l ∧ (0 < k → Backs p 1 b l → 0 < room p b l k)
  | [], b, k => by cases b <;> simp [room, Backs]
  | (x, y) :: l, true, k => by
    have := room_le p l false k
    simpa [room, Backs] using this
  | (x, y) :: l, false, k => by
    obtain ⟨h1, h2, h3⟩ := room_le p l true (min k (goes p y x))
    simp only [room, Backs]
    refine ⟨by omega, ⟨by omega, h2⟩, ?_⟩
    intro hk ⟨h4, h5⟩
    exact h3 (by omega) h5

theorem Way.backs1 {m n : Nat} {c : Nat → Nat → Int} {p : Plan} {lf rs : Nat → Nat} {s t : Nat → Int} {R : Nat} {l : List (Nat × Nat)} {j z : Nat}
    (h : Way m n c (goes p) lf rs s t R l j z) : Backs p 1 true l := by
  induction h with
  | last h1 h2 h3 h4 h5 => simp [Backs]
  | more h1 h2 h3 h4 h5 h6 h7 ih => simp only [Backs]; exact ⟨by omega, ih⟩

theorem Way.backs_congr {m n : Nat} {c : Nat → Nat → Int} {g : Nat → Nat → Nat} {lf rs : Nat → Nat} {s t : Nat → Int} {R : Nat} {l : List (Nat × Nat)} {j z : Nat}
    (h : Way m n c g lf rs s t R l j z) {p q : Plan} {k : Nat} (e : ∀ a b, rs a < R → goes q a b = goes p a b) (hb : Backs p k true l) : Backs q k true l := by
  induction h with
  | last h1 h2 h3 h4 h5 => simp [Backs]
  | more h1 h2 h3 h4 h5 h6 h7 ih =>
    simp only [Backs] at hb ⊢
    refine ⟨?_, ih (fun a b hab => e a b (by omega)) hb.2⟩
    rw [e _ _ h6]; exact hb.1

theorem along_way {m n : Nat} {c : Nat → Nat → Int} {g : Nat → Nat → Nat} {lf rs : Nat → Nat} {s t : Nat → Int} {R : Nat} {l : List (Nat × Nat)} {j z : Nat}
    (h : Way m n c g lf rs s t R l j z) (k : Nat) : ∀ (p : Plan), Shape m n p → Backs p k true l →
      Shape m n (along k true l p) ∧
      (∀ a, S n (fun b => (goes (along k true l p) a b : Int)) = S n (fun b => (goes p a b : Int)) + if a = z then (k : Int) else 0) ∧
      (∀ b, S m (fun a => (goes (along k true l p) a b : Int)) = S m (fun a => (goes p a b : Int)) + if b = j then (k : Int) else 0) ∧
      (∀ a b, goes (along k true l p) a b ≠ 0 → goes p a b ≠ 0 ∨ (a < m ∧ b < n ∧ t b = s a + c a b)) := by
  induction h with
  | last h1 h2 h3 h4 h5 =>
    rename_i R i j
    intro p hp hb
    simp only [along]
    have e := goes_put hp h1 h2 (goes p i j + k)
    refine ⟨put_shape hp _ _ _, ?_, ?_, ?_⟩
    · intro a
      by_cases ea : a = i
      · subst ea
        rw [S_congr (g := fun b => (goes p a b : Int) + if b = j then (k : Int) else 0)]
        · rw [S_add, S_single _ _ _ h2]; simp
        · intro b hb
          rw [e]
          by_cases eb : b = j
          · subst eb; simp
          · simp [eb]
      · simp only [ea, if_false]
        rw [S_congr (g := fun b => (goes p a b : Int))]; · omega
        intro b hb
        rw [e]; simp [ea]
    · intro b
      by_cases eb : b = j
      · subst eb
        rw [S_congr (g := fun a => (goes p a b : Int) + if a = i then (k : Int) else 0)]
        · rw [S_add, S_single _ _ _ h1]; simp
        · intro a ha
          rw [e]
          by_cases ea : a = i
          · subst ea; simp
          · simp [ea]
      · simp only [eb, if_false]
        rw [S_congr (g := fun a => (goes p a b : Int))]; · omega
        intro a ha
        rw [e]; simp [eb]
    · intro a b hab
      rw [e] at hab
      by_cases eab : a = i ∧ b = j
      · right
        obtain ⟨rfl, rfl⟩ := eab
        exact ⟨h1, h2, h3⟩
      · left; rw [if_neg eab] at hab; exact hab
  | more h1 h2 h3 h4 h5 h6 h7 ih =>
    rename_i R i j j' z l
    intro p hp hb
    simp only [Backs] at hb
    simp only [along]
    have e1 := goes_put hp h1 h2 (goes p i j + k)
    have hp1 := put_shape hp i j (goes p i j + k)
    generalize hq : put p i j (goes p i j + k) = p1 at e1 hp1 ⊢
    have e2 := goes_put hp1 h1 h3 (goes p1 i j' - k)
    have hp2 := put_shape hp1 i j' (goes p1 i j' - k)
    generalize hq2 : put p1 i j' (goes p1 i j' - k) = p2 at e2 hp2 ⊢
    have e3 : ∀ a b, (goes p2 a b : Int) = goes p a b + (if a = i ∧ b = j then (k : Int) else 0) - (if a = i ∧ b = j' then (k : Int) else 0) := by
      intro a b
      rw [e2]
      have h8 : k ≤ goes p1 i j' := by
        rw [e1]
        split
        · omega
        · exact hb.1
      by_cases eb : a = i ∧ b = j'
      · obtain ⟨rfl, rfl⟩ := eb
        simp only [and_self, if_true]
        rw [Int.ofNat_sub h8, e1]
        by_cases eb2 : b = j
        · subst eb2; simp
        · simp [eb2]
      · simp only [eb, if_false]
        rw [e1]
        by_cases eb2 : a = i ∧ b = j
        · obtain ⟨rfl, rfl⟩ := eb2; simp
        · simp [eb2]
    obtain ⟨i1, i2, i3, i4⟩ := ih p2 hp2 (Way.backs_congr h7 (p := p) (q := p2) (by
      intro a b hab
      have hne : ¬ a = i := by intro e; subst e; omega
      have := e3 a b
      simp only [hne, false_and, if_false] at this
      omega) hb.2)
    refine ⟨i1, ?_, ?_, ?_⟩
    · intro a
      rw [i2 a]
      congr 1
      rw [S_congr (fun b _ => e3 a b)]
      by_cases ea : a = i
      · subst ea
        simp only [true_and]
        rw [S_sub, S_add, S_single _ _ _ h2, S_single _ _ _ h3]; omega
      · simp only [ea, false_and, if_false]
        apply S_congr; intro b _; omega
    · intro b
      rw [i3 b, S_congr (fun a _ => e3 a b), S_sub, S_add]
      have hz : ∀ q, S m (fun a => if a = i ∧ b = q then (k : Int) else 0) = if b = q then (k : Int) else 0 := by
        intro q
        by_cases eb : b = q
        · simp only [eb, and_true, if_true]; exact S_single _ _ _ h1
        · simp only [eb, and_false, if_false]; exact S_zero _
      rw [hz, hz]; omega
    · intro a b hab
      rcases i4 a b hab with h8 | h8
      · have h9 := e3 a b
        by_cases eb2 : a = i ∧ b = j
        · right; obtain ⟨rfl, rfl⟩ := eb2; exact ⟨h1, h2, h4⟩
        · left
          rw [if_neg eb2] at h9
          intro h10
          split at h9 <;> omega
      · exact Or.inr h8
end EM
namespace EM
open Kp218

structure PlanOK (w : Job) (m n : Nat) (p : Plan) : Prop where
  shape : Shape m n p
  rows : ∀ i, i < m → S n (fun j => (goes p i j : Int)) ≤ (w.froms.getD i 0 : Nat)
  cols : ∀ j, j < n → S m (fun i => (goes p i j : Int)) ≤ (w.tos.getD j 0 : Nat)
  pot : ∃ u v : Nat → Int, (∀ i j, i < m → j < n → w.froms.getD i 0 ≠ 0 → v j ≤ u i + (price w i j : Int)) ∧
    (∀ i j, i < m → j < n → goes p i j ≠ 0 → v j = u i + (price w i j : Int))

theorem row_sum {m n : Nat} {p : Plan} (h : Shape m n p) {i : Nat} (hi : i < m) : (sumOf (p.getD i []) : Int) = S n (fun j => (goes p i j : Int)) := by
  rw [sumOf_getD, h.2 i hi]; rfl

theorem col_sum {m n : Nat} {p : Plan} (h : Shape m n p) (j : Nat) : (sumOf (p.map fun r => r.getD j 0) : Int) = S m (fun i => (goes p i j : Int)) := by
  rw [sumOf_getD, List.length_map, h.1]
  apply S_congr
  intro k hk
  unfold goes
  have : k < p.length := by rw [h.1]; exact hk
  simp [List.getD, this]

theorem leftFrom_eq {w : Job} {m n : Nat} {p : Plan} (h : PlanOK w m n p) {i : Nat} (hi : i < m) :
    (leftFrom w p i : Int) = (w.froms.getD i 0 : Nat) - S n (fun j => (goes p i j : Int)) := by
  have h1 := h.rows i hi
  rw [← row_sum h.shape hi] at h1 ⊢
  unfold leftFrom
  omega

theorem leftTo_eq {w : Job} {m n : Nat} {p : Plan} (h : PlanOK w m n p) {j : Nat} (hj : j < n) :
    (leftTo w p j : Int) = (w.tos.getD j 0 : Nat) - S m (fun i => (goes p i j : Int)) := by
  have h1 := h.cols j hj
  rw [← col_sum h.shape j] at h1 ⊢
  unfold leftTo
  omega

theorem cheap_fold (w : Job) (p : Plan) (t : Reach) (F : Option Nat → Nat → Option Nat)
    (hF : F = fun (b : Option Nat) (j : Nat) => if leftTo w p j = 0 then b else match t.getD j none, b with
      | none, b => b
      | some _, none => some j
      | some x, some k => match t.getD k none with
        | none => some j
        | some y => if x.1 < y.1 then some j else some k) : ∀ (l : List Nat) (b : Option Nat),
    (∀ j, l.foldl F b = some j → b = some j ∨ (j ∈ l ∧ leftTo w p j ≠ 0 ∧ ∃ x, t.getD j none = some x)) ∧
    (b ≠ none → l.foldl F b ≠ none) ∧
    (∀ j x, j ∈ l → leftTo w p j ≠ 0 → t.getD j none = some x → l.foldl F b ≠ none)
  | [], b => ⟨fun j h => Or.inl h, fun h => h, fun j x h => by cases h⟩
  | a :: l, b => by
    obtain ⟨h1, h2, h3⟩ := cheap_fold w p t F hF l (F b a)
    rw [List.foldl_cons]
    have key : (F b a = b ∧ (leftTo w p a = 0 ∨ t.getD a none = none ∨ b ≠ none)) ∨ (F b a = some a ∧ leftTo w p a ≠ 0 ∧ ∃ x, t.getD a none = some x) := by
      rw [hF]
      simp only
      by_cases hl : leftTo w p a = 0
      · left; simp [hl]
      · simp only [hl, if_false]
        cases ht : t.getD a none with
        | none => left; simp
        | some x =>
          cases b with
          | none => right; simp [hl]
          | some k =>
            simp only
            cases hk : t.getD k none with
            | none => right; simp [hl]
            | some y =>
              simp only
              by_cases hlt : x.1 < y.1
              · right; simp [hlt, hl]
              · left; simp [hlt]
    refine ⟨?_, ?_, ?_⟩
    · intro j hj
      rcases h1 j hj with h4 | ⟨h4, h5⟩
      · rcases key with ⟨k1, _⟩ | ⟨k1, k2, k3⟩
        · left; rw [← k1]; exact h4
        · right
          rw [k1] at h4; cases h4
          exact ⟨List.mem_cons_self, k2, k3⟩
      · exact Or.inr ⟨List.mem_cons_of_mem _ h4, h5⟩
    · intro hb
      apply h2
      rcases key with ⟨k1, _⟩ | ⟨k1, _⟩
      · rw [k1]; exact hb
      · rw [k1]; simp
    · intro j x hj hl ht
      rcases List.mem_cons.1 hj with rfl | hj
      · apply h2
        rcases key with ⟨k1, k2 | k2 | k2⟩ | ⟨k1, _⟩
        · exact absurd k2 hl
        · rw [ht] at k2; cases k2
        · rw [k1]; exact k2
        · rw [k1]; simp
      · exact h3 j x hj hl ht

theorem cheapest_spec (w : Job) (p : Plan) (n : Nat) (t : Reach) :
    (∀ j, cheapest w p n t = some j → j < n ∧ leftTo w p j ≠ 0 ∧ ∃ x, t.getD j none = some x) ∧
    (∀ j x, j < n → leftTo w p j ≠ 0 → t.getD j none = some x → cheapest w p n t ≠ none) := by
  obtain ⟨h1, _, h3⟩ := cheap_fold w p t _ rfl (List.range n) none
  refine ⟨?_, fun j x hj => h3 j x (List.mem_range.2 hj)⟩
  intro j hj
  rcases h1 j hj with h | ⟨h, h4⟩
  · cases h
  · exact ⟨List.mem_range.1 h, h4⟩

structure Full (w : Job) (m n : Nat) (p : Plan) : Prop where
  rows : ∀ i, i < m → S n (fun j => (goes p i j : Int)) = (w.froms.getD i 0 : Nat)
  cols : ∀ j, j < n → S m (fun i => (goes p i j : Int)) = (w.tos.getD j 0 : Nat)

theorem better_ok (w : Job) (m n : Nat) (hn : 0 < n)
    (N : Int) (hN1 : S m (fun i => ((w.froms.getD i 0 : Nat) : Int)) = N) (hN2 : S n (fun j => ((w.tos.getD j 0 : Nat) : Int)) = N) :
    ∀ (f : Nat) (p : Plan), PlanOK w m n p → N - S m (fun i => S n (fun j => (goes p i j : Int))) < f → PlanOK w m n (better w m n f p) ∧ Full w m n (better w m n f p) := by
  intro f
  induction f with
  | zero =>
    intro p hp hf
    have := S_le (n := m) hp.rows
    rw [hN1] at this
    omega
  | succ f ih =>
    intro p hp hf
    have hset : Settled m n (fun i j => (price w i j : Int)) (goes p) (leftFrom w p) (fun i => w.froms.getD i 0) (m + n)
        (fun i => (again w p m n (m + n) ((List.range m).map fun i => if leftFrom w p i = 0 then none else some (0, i), List.replicate n none)).1.getD i none)
        (fun j => (again w p m n (m + n) ((List.range m).map fun i => if leftFrom w p i = 0 then none else some (0, i), List.replicate n none)).2.getD j none) := by
      obtain ⟨u, v, h1, h2⟩ := hp.pot
      have hrow : ∀ i j, i < m → j < n → goes p i j ≠ 0 → w.froms.getD i 0 ≠ 0 := by
        intro i j hi hj hg
        have h3 := hp.rows i hi
        have h4 := S_term (f := fun j => (goes p i j : Int)) (n := n) (by intro k _; omega) hj
        omega
      have hs : ∀ i, i < m → ((List.range m).map fun i => if leftFrom w p i = 0 then none else some ((0 : Int), i)).getD i none = if leftFrom w p i = 0 then none else some ((0 : Int), i) := by
        intro i hi; rw [getD_map_range _ _ _ _ hi]
      have ht : ∀ j, (List.replicate n (none : O)).getD j none = none := by
        intro j
        simp only [List.getD, List.getElem?_replicate]
        split <;> rfl
      refine again_settled w p m n (leftFrom w p) (fun i => w.froms.getD i 0) u v (m + n) (by omega) h1 (fun i j hi hj hg => ⟨h2 i j hi hj hg, hrow i j hi hj hg⟩) (m + n) 0 _ (by omega) ?_ ⟨fun _ => 0, fun _ => 0, ?_⟩
      · constructor
        · intro i j x hi hj hg hx
          simp only [ht] at hx; cases hx
        · intro i y hi hy
          right
          refine ⟨[i], rfl, by simp, ?_⟩
          intro a ha
          rw [List.mem_singleton] at ha; subst ha
          exact ⟨hi, y, hy, Int.le_refl _⟩
        · intro i hi hl
          simp only [hs i hi, hl, if_false]
          exact ⟨_, rfl⟩
        · intro i y hi hy
          simp only [hs i hi] at hy
          split at hy
          · cases hy
          · rename_i hl
            unfold leftFrom at hl
            omega
      · constructor
        · intro i; omega
        · intro j hj h; simp only [ht] at h; exact absurd rfl h
        · intro j x hj hx; simp only [ht] at hx; cases hx
        · intro i y hi hy
          left
          simp only [hs i hi] at hy
          split at hy
          · cases hy
          · assumption
    unfold better
    simp only
    generalize hr : again w p m n (m + n) ((List.range m).map fun i => if leftFrom w p i = 0 then none else some (0, i), List.replicate n none) = r at hset ⊢
    cases hc : cheapest w p n r.2 with
    | none =>
      simp only
      refine ⟨hp, ?_⟩
      have hrows : ∀ i, i < m → S n (fun j => (goes p i j : Int)) = (w.froms.getD i 0 : Nat) := by
        intro i hi
        by_cases hl : leftFrom w p i = 0
        · have := leftFrom_eq hp hi
          omega
        · exfalso
          obtain ⟨y, hy⟩ := hset.src i hi hl
          have h1 : S m (fun i => S n (fun j => (goes p i j : Int))) < S m (fun i => ((w.froms.getD i 0 : Nat) : Int)) := by
            have h2 := S_le (n := m) hp.rows
            by_cases h3 : S m (fun i => S n (fun j => (goes p i j : Int))) < S m (fun i => ((w.froms.getD i 0 : Nat) : Int))
            · exact h3
            · have h4 := S_eq_of_le (n := m) hp.rows (by omega) i hi
              have := leftFrom_eq hp hi
              omega
          rw [hN1, ← hN2, S_swap] at h1
          obtain ⟨j, hj, h5⟩ := S_lt_exists h1
          have h6 := leftTo_eq hp hj
          obtain ⟨x, hx, _⟩ := hset.a i j y hi hj hy
          exact (cheapest_spec w p n r.2).2 j x hj (by omega) hx hc
      refine ⟨hrows, ?_⟩
      have h1 : S n (fun j => S m (fun i => (goes p i j : Int))) = N := by
        rw [← S_swap, ← hN1]
        exact S_congr hrows
      exact S_eq_of_le (n := n) hp.cols (by rw [h1, hN2]; exact Int.le_refl _)
    | some j =>
      simp only
      obtain ⟨hj, hlt, x, hx⟩ := (cheapest_spec w p n r.2).1 j hc
      obtain ⟨rs, rt, hrk⟩ := hset.rank
      obtain ⟨z, hway⟩ := back_way w p m n _ (m + n) r rs rt hset hrk (m + n) j x hj hx (hrk.bt j hj (by simp only [hx]; exact fun h => by cases h))
      generalize back w p r (m + n) j = l at hway ⊢
      obtain ⟨hz, _, hlf, q, hq⟩ := hway.source
      rw [hq]
      simp only
      obtain ⟨k1, k2, k3⟩ := room_le p l true (min (leftTo w p j) (leftFrom w p z))
      have k4 := k3 (by omega) hway.backs1
      generalize room p true l (min (leftTo w p j) (leftFrom w p z)) = k at k1 k2 k4 ⊢
      obtain ⟨a1, a2, a3, a4⟩ := along_way hway k p hp.shape k2
      have e1 := leftFrom_eq hp hz
      have e2 := leftTo_eq hp hj
      have hreach : ∀ j', j' < n → ∃ x, r.2.getD j' none = some x := by
        intro j' hj'
        obtain ⟨y, hy⟩ := hset.src z hz hlf
        obtain ⟨x', hx', _⟩ := hset.a z j' y hz hj' hy
        exact ⟨x', hx'⟩
      have hok : PlanOK w m n (along k true l p) := by
        refine ⟨a1, ?_, ?_, ⟨fun i => val (r.1.getD i none), fun j => val (r.2.getD j none), ?_, ?_⟩⟩
        · intro i hi
          have := hp.rows i hi
          rw [a2]
          split
          · rename_i e; subst e; omega
          · omega
        · intro b hb
          have := hp.cols b hb
          rw [a3]
          split
          · rename_i e; subst e; omega
          · omega
        · intro i b hi hb hfr
          have : ∃ y, r.1.getD i none = some y := by
            by_cases hl : leftFrom w p i = 0
            · have h1 := leftFrom_eq hp hi
              obtain ⟨b0, hb0, h2⟩ := S_pos (f := fun j => (goes p i j : Int)) (n := n) (by omega)
              obtain ⟨x0, hx0⟩ := hreach b0 hb0
              obtain ⟨y, hy, _⟩ := hset.b i b0 x0 hi hb0 (by omega) hx0
              exact ⟨y, hy⟩
            · exact hset.src i hi hl
          obtain ⟨y, hy⟩ := this
          obtain ⟨x0, hx0, hle⟩ := hset.a i b y hi hb hy
          dsimp only
          rw [hy, hx0]
          simp only [val]
          exact hle
        · intro i b hi hb hg
          rcases a4 i b hg with h1 | h1
          · obtain ⟨x0, hx0⟩ := hreach b hb
            obtain ⟨y, hy, hle⟩ := hset.b i b x0 hi hb h1 hx0
            obtain ⟨x1, hx1, hle1⟩ := hset.a i b y hi hb hy
            rw [hx0] at hx1; cases hx1
            dsimp only
            rw [hy, hx0]
            simp only [val]
            omega
          · exact h1.2.2
      refine ih _ hok ?_
      have e3 : S m (fun i => S n (fun j => (goes (along k true l p) i j : Int))) = S m (fun i => S n (fun j => (goes p i j : Int))) + k := by
        rw [S_congr (fun i _ => a2 i), S_add, S_single _ _ _ hz]
      rw [e3]
      omega
end EM
namespace EM
open Kp218

/-- prices of a load on each square -/
structure Feas (f : Field) (φ : Nat → Int) : Prop where
  lip : ∀ a b, a < f.w * f.h → b < f.w * f.h → φ a - φ b ≤ (steps f a b : Int)
  hi : φ 0 ≤ (f.take_ : Int)
  lo : -(f.bring : Int) ≤ φ 0

def D (f : Field) (φ : Nat → Int) : Int := S (f.w * f.h) (fun s => φ s * ((level f s : Int) - (wanted f s : Int)))

def In (f : Field) (x : End) : Prop := match x with
  | none => True
  | some s => s < f.w * f.h

theorem apart_tri (a b c : Nat) : apart a c ≤ apart a b + apart b c := by unfold apart; omega
theorem steps_tri (f : Field) (a b c : Nat) : steps f a c ≤ steps f a b + steps f b c := by
  have := apart_tri (a % f.w) (b % f.w) (c % f.w)
  have := apart_tri (a / f.w) (b / f.w) (c / f.w)
  unfold steps; omega
theorem steps_self (f : Field) (a : Nat) : steps f a a = 0 := by unfold steps apart; omega
theorem cost_self (f : Field) (x : End) : cost f x x = 0 := by
  cases x with
  | none => rfl
  | some a => exact steps_self f a
theorem cost_tri (f : Field) (x y z : End) : cost f x z ≤ cost f x y + cost f y z := by
  cases x with
  | none => cases z with
    | none => simp [cost]
    | some c => cases y with
      | none => simp [cost]
      | some b => have := steps_tri f 0 b c; simp only [cost]; omega
  | some a => cases z with
    | none => cases y with
      | none => simp [cost]
      | some b => have := steps_tri f a b 0; simp only [cost]; omega
    | some c => cases y with
      | none => have := steps_tri f a 0 c; simp only [cost]; omega
      | some b => have := steps_tri f a b c; simp only [cost]; omega

/-- the least of n values and one more -/
def mn (f : Nat → Int) : Nat → Int
  | 0 => f 0
  | n + 1 => min (mn f n) (f (n + 1))
theorem mn_le (f : Nat → Int) : ∀ n k, k ≤ n → mn f n ≤ f k
  | 0, k, h => by have : k = 0 := by omega
                  subst this; exact Int.le_refl _
  | n + 1, k, h => by
    show min (mn f n) (f (n + 1)) ≤ f k
    by_cases e : k = n + 1
    · subst e; omega
    · have := mn_le f n k (by omega); omega
theorem mn_at (f : Nat → Int) : ∀ n, ∃ k, k ≤ n ∧ mn f n = f k
  | 0 => ⟨0, by omega, rfl⟩
  | n + 1 => by
    obtain ⟨k, h1, h2⟩ := mn_at f n
    show ∃ k, k ≤ n + 1 ∧ min (mn f n) (f (n + 1)) = f k
    by_cases e : mn f n ≤ f (n + 1)
    · exact ⟨k, by omega, by omega⟩
    · exact ⟨n + 1, by omega, by omega⟩

theorem sumI_filter (P : Nat → Bool) (g : Nat → Int) : ∀ n, sumI (((List.range n).filter P).map g) = S n (fun s => if P s then g s else 0)
  | 0 => rfl
  | n + 1 => by
    rw [List.range_succ, List.filter_append, List.map_append, sumI_append, sumI_filter P g n]
    show _ = S n _ + (if P n then g n else 0)
    congr 1
    by_cases h : P n <;> simp [h, sumI]

/-- a weighted sum over ends -/
theorem ends_sum (N : Nat) (q : Nat → Nat) (r : Nat) (ψ : End → Int) (A : List (End × Nat))
    (hA : A = (((List.range N).filter fun s => q s != 0).map fun s => (some s, q s)) ++ [(none, r)]) :
    S A.length (fun i => ψ (A.getD i (none, 0)).1 * ((A.getD i (none, 0)).2 : Int)) = S N (fun s => ψ (some s) * (q s : Int)) + ψ none * (r : Int) := by
  have h1 : S A.length (fun i => ψ (A.getD i (none, 0)).1 * ((A.getD i (none, 0)).2 : Int)) = sumI (A.map fun x => ψ x.1 * (x.2 : Int)) := by
    rw [sumI_getD, List.length_map]
    apply S_congr
    intro k hk
    simp [List.getD, hk]
  rw [h1, hA, List.map_append, sumI_append, List.map_map]
  have h2 : ((fun x : End × Nat => ψ x.1 * (x.2 : Int)) ∘ fun s => (some s, q s)) = fun s => ψ (some s) * (q s : Int) := rfl
  rw [h2, sumI_filter]
  congr 1
  · apply S_congr
    intro s _
    by_cases e : q s = 0
    · simp [e]
    · simp [e]
  · simp [sumI]

theorem froms_in (f : Field) (i : Nat) : In f ((froms f).getD i (none, 0)).1 := by
  unfold froms
  generalize hA : ((((squares f).filter fun s => over f s != 0).map fun s => ((some s : End), over f s)) ++ [(none, fill f)]) = A
  by_cases h : i < A.length
  · have h2 : A.getD i (none, 0) ∈ A := by
      simp only [List.getD, List.getElem?_eq_getElem h, Option.getD_some]; exact List.getElem_mem h
    generalize A.getD i (none, 0) = x at h2 ⊢
    rw [← hA] at h2
    rcases List.mem_append.1 h2 with h3 | h3
    · obtain ⟨s, hs, rfl⟩ := List.mem_map.1 h3
      have := (List.mem_filter.1 hs).1
      exact List.mem_range.1 this
    · rw [List.mem_singleton] at h3; subst h3; trivial
  · have : A.getD i (none, 0) = (none, 0) := by simp [List.getD, List.getElem?_eq_none (by omega : A.length ≤ i)]
    rw [this]; trivial

theorem tos_in (f : Field) (i : Nat) : In f ((tos f).getD i (none, 0)).1 := by
  unfold tos
  generalize hA : ((((squares f).filter fun s => under f s != 0).map fun s => ((some s : End), under f s)) ++ [(none, cut f)]) = A
  by_cases h : i < A.length
  · have h2 : A.getD i (none, 0) ∈ A := by
      simp only [List.getD, List.getElem?_eq_getElem h, Option.getD_some]; exact List.getElem_mem h
    generalize A.getD i (none, 0) = x at h2 ⊢
    rw [← hA] at h2
    rcases List.mem_append.1 h2 with h3 | h3
    · obtain ⟨s, hs, rfl⟩ := List.mem_map.1 h3
      have := (List.mem_filter.1 hs).1
      exact List.mem_range.1 this
    · rw [List.mem_singleton] at h3; subst h3; trivial
  · have : A.getD i (none, 0) = (none, 0) := by simp [List.getD, List.getElem?_eq_none (by omega : A.length ≤ i)]
    rw [this]; trivial

/-- a plan that is whole, its cost the least, with prices that show it -/
structure Best (f : Field) (m n : Nat) (x y : Nat → End) (a b : Nat → Nat) (p : Nat → Nat → Nat) (C : Int) : Prop where
  hn : 0 < n
  inx : ∀ i, In f (x i)
  iny : ∀ j, In f (y j)
  rows : ∀ i, i < m → S n (fun j => (p i j : Int)) = (a i : Int)
  cols : ∀ j, j < n → S m (fun i => (p i j : Int)) = (b j : Int)
  val : C = S m (fun i => S n (fun j => (p i j : Int) * (cost f (x i) (y j) : Int)))
  wa : ∀ ψ : End → Int, S m (fun i => ψ (x i) * (a i : Int)) = S (f.w * f.h) (fun s => ψ (some s) * (over f s : Int)) + ψ none * (fill f : Int)
  wb : ∀ ψ : End → Int, S n (fun j => ψ (y j) * (b j : Int)) = S (f.w * f.h) (fun s => ψ (some s) * (under f s : Int)) + ψ none * (cut f : Int)
  pot : ∃ u v : Nat → Int, (∀ i j, i < m → j < n → a i ≠ 0 → v j ≤ u i + (cost f (x i) (y j) : Int)) ∧ (∀ i j, i < m → j < n → p i j ≠ 0 → v j = u i + (cost f (x i) (y j) : Int))

theorem cut_eq (f : Field) : (cut f : Int) = S (f.w * f.h) (fun s => (over f s : Int)) := by
  unfold cut squares; exact sumOf_range _ _
theorem fill_eq (f : Field) : (fill f : Int) = S (f.w * f.h) (fun s => (under f s : Int)) := by
  unfold fill squares; exact sumOf_range _ _

theorem getD_map_snd (A : List (End × Nat)) (i : Nat) : (A.map fun x => x.2).getD i 0 = (A.getD i (none, 0)).2 := by
  by_cases h : i < A.length
  · simp [List.getD, h]
  · simp [List.getD, List.getElem?_eq_none (by omega : A.length ≤ i)]

theorem price_job (f : Field) (i j : Nat) (hi : i < (froms f).length) (hj : j < (tos f).length) :
    price (job f) i j = cost f ((froms f).getD i (none, 0)).1 ((tos f).getD j (none, 0)).1 := by
  unfold price goes job
  simp [List.getD, hi, hj]

theorem least_best (f : Field) : ∃ (m n : Nat) (x y : Nat → End) (a b : Nat → Nat) (p : Nat → Nat → Nat), Best f m n x y a b p (least f) := by
  have hm : (job f).froms.length = (froms f).length := by simp [job]
  have hn : (job f).tos.length = (tos f).length := by simp [job]
  have ha : ∀ i, (job f).froms.getD i 0 = ((froms f).getD i (none, 0)).2 := by
    intro i; exact getD_map_snd _ _
  have hb : ∀ i, (job f).tos.getD i 0 = ((tos f).getD i (none, 0)).2 := by
    intro i; exact getD_map_snd _ _
  have hwa : ∀ ψ : End → Int, S (froms f).length (fun i => ψ ((froms f).getD i (none, 0)).1 * (((froms f).getD i (none, 0)).2 : Int)) = S (f.w * f.h) (fun s => ψ (some s) * (over f s : Int)) + ψ none * (fill f : Int) :=
    fun ψ => ends_sum _ _ _ ψ _ rfl
  have hwb : ∀ ψ : End → Int, S (tos f).length (fun i => ψ ((tos f).getD i (none, 0)).1 * (((tos f).getD i (none, 0)).2 : Int)) = S (f.w * f.h) (fun s => ψ (some s) * (under f s : Int)) + ψ none * (cut f : Int) :=
    fun ψ => ends_sum _ _ _ ψ _ rfl
  have hN1 : S (froms f).length (fun i => (((job f).froms.getD i 0 : Nat) : Int)) = (cut f : Int) + fill f := by
    have h := hwa (fun _ => 1)
    simp only [Int.one_mul] at h
    rw [cut_eq, S_congr (fun i _ => by rw [ha i]), h]
  have hN2 : S (tos f).length (fun i => (((job f).tos.getD i 0 : Nat) : Int)) = (cut f : Int) + fill f := by
    have h := hwb (fun _ => 1)
    simp only [Int.one_mul] at h
    rw [fill_eq, S_congr (fun i _ => by rw [hb i]), h]; omega
  have hpos : 0 < (tos f).length := by unfold tos; simp
  have h0 : PlanOK (job f) (froms f).length (tos f).length (List.replicate (froms f).length (List.replicate (tos f).length 0)) := by
    have hg : ∀ i j, goes (List.replicate (froms f).length (List.replicate (tos f).length 0)) i j = 0 := by
      intro i j
      unfold goes
      by_cases h1 : i < (froms f).length
      · by_cases h2 : j < (tos f).length
        · simp [List.getD, h1, h2]
        · simp [List.getD, h1, h2]
      · simp [List.getD, h1]
    refine ⟨⟨by simp, ?_⟩, ?_, ?_, ⟨fun _ => 0, fun _ => 0, ?_, ?_⟩⟩
    · intro i hi; simp [List.getD, hi]
    · intro i hi
      rw [S_congr (g := fun _ => 0) (by intro k _; rw [hg]; rfl), S_zero]; omega
    · intro i hi
      rw [S_congr (g := fun _ => 0) (by intro k _; rw [hg]; rfl), S_zero]; omega
    · intro i j _ _ _; simp only; omega
    · intro i j _ _ h; exact absurd (hg i j) h
  have hz : S (froms f).length (fun i => S (tos f).length (fun j => (goes (List.replicate (froms f).length (List.replicate (tos f).length 0)) i j : Int))) ≥ 0 :=
    S_nonneg (fun k _ => S_nonneg (fun l _ => by omega))
  obtain ⟨hok, hfull⟩ := better_ok (job f) (froms f).length (tos f).length hpos ((cut f : Int) + fill f) hN1 hN2 (cut f + fill f + 1) _ h0 (by omega)
  have hplan : plan f (job f) = better (job f) (froms f).length (tos f).length (cut f + fill f + 1) (List.replicate (froms f).length (List.replicate (tos f).length 0)) := by
    unfold plan; rw [hm, hn]
  rw [← hplan] at hok hfull
  refine ⟨(froms f).length, (tos f).length, fun i => ((froms f).getD i (none, 0)).1, fun j => ((tos f).getD j (none, 0)).1, fun i => ((froms f).getD i (none, 0)).2, fun j => ((tos f).getD j (none, 0)).2, goes (plan f (job f)), ?_⟩
  refine ⟨hpos, froms_in f, tos_in f, ?_, ?_, ?_, hwa, hwb, ?_⟩
  · intro i hi; rw [hfull.rows i hi, ha]
  · intro j hj; rw [hfull.cols j hj, hb]
  · unfold least
    simp only
    rw [hm, hn, sumOf_flatMap]
    apply S_congr
    intro i hi
    apply S_congr
    intro j hj
    rw [price_job f i j hi hj]
    simp
  · obtain ⟨u, v, h1, h2⟩ := hok.pot
    refine ⟨u, v, ?_, ?_⟩
    · intro i j hi hj hne
      rw [← price_job f i j hi hj]
      exact h1 i j hi hj (by rw [ha]; exact hne)
    · intro i j hi hj hne
      rw [← price_job f i j hi hj]
      exact h2 i j hi hj hne

/-- φ as prices of ends -/
def endPrice (φ : Nat → Int) (x : End) : Int := match x with
  | none => 0
  | some s => φ s

theorem feas_cost {f : Field} {φ : Nat → Int} (hf : 0 < f.w * f.h) (h : Feas f φ) {x y : End} (hx : In f x) (hy : In f y) :
    endPrice φ x - endPrice φ y ≤ (cost f x y : Int) := by
  have hi := h.hi
  have lo := h.lo
  cases x with
  | none => cases y with
    | none => simp [endPrice, cost]
    | some b => have := h.lip 0 b hf hy; simp only [endPrice, cost]; omega
  | some a => cases y with
    | none => have := h.lip a 0 hx hf; simp only [endPrice, cost]; omega
    | some b => have := h.lip a b hx hy; simp only [endPrice, cost]; omega

theorem D_split (f : Field) (φ : Nat → Int) : D f φ = S (f.w * f.h) (fun s => φ s * (over f s : Int)) - S (f.w * f.h) (fun s => φ s * (under f s : Int)) := by
  rw [← S_sub]
  apply S_congr
  intro s _
  rw [← Int.mul_sub]
  congr 1
  unfold over under
  omega

/-- what a plan's prices say: the difference of D and the cost, entry by entry -/
theorem Best.D_eq {f : Field} {m n : Nat} {x y : Nat → End} {a b : Nat → Nat} {p : Nat → Nat → Nat} {C : Int} (h : Best f m n x y a b p C) (ψ : End → Int) :
    S m (fun i => S n (fun j => (p i j : Int) * (ψ (x i) - ψ (y j)))) = S (f.w * f.h) (fun s => ψ (some s) * (over f s : Int)) - S (f.w * f.h) (fun s => ψ (some s) * (under f s : Int)) + ψ none * ((fill f : Int) - (cut f : Int)) := by
  have e1 : S m (fun i => S n (fun j => (p i j : Int) * (ψ (x i) - ψ (y j)))) = S m (fun i => ψ (x i) * (a i : Int)) - S n (fun j => ψ (y j) * (b j : Int)) := by
    rw [S_congr (g := fun i => ψ (x i) * (a i : Int) - S n (fun j => (p i j : Int) * ψ (y j)))]
    · rw [S_sub, S_swap]
      congr 1
      apply S_congr
      intro j hj
      rw [S_mulR, h.cols j hj, Int.mul_comm]
    · intro i hi
      rw [S_congr (g := fun j => (p i j : Int) * ψ (x i) - (p i j : Int) * ψ (y j)) (fun j _ => Int.mul_sub _ _ _), S_sub, S_mulR, h.rows i hi, Int.mul_comm]
  rw [e1, h.wa, h.wb, Int.mul_sub]
  omega

theorem Best.weak {f : Field} {m n : Nat} {x y : Nat → End} {a b : Nat → Nat} {p : Nat → Nat → Nat} {C : Int} (h : Best f m n x y a b p C) (hf : 0 < f.w * f.h) {φ : Nat → Int} (hφ : Feas f φ) : D f φ ≤ C := by
  have e := h.D_eq (endPrice φ)
  rw [D_split, h.val]
  have e2 : endPrice φ none = 0 := rfl
  rw [e2, Int.zero_mul, Int.add_zero] at e
  show S (f.w * f.h) (fun s => endPrice φ (some s) * (over f s : Int)) - S (f.w * f.h) (fun s => endPrice φ (some s) * (under f s : Int)) ≤ _
  rw [← e]
  apply S_le
  intro i hi
  apply S_le
  intro j hj
  exact Int.mul_le_mul_of_nonneg_left (feas_cost hf hφ (h.inx i) (h.iny j)) (by omega)

theorem Best.strong {f : Field} {m n : Nat} {x y : Nat → End} {a b : Nat → Nat} {p : Nat → Nat → Nat} {C : Int} (h : Best f m n x y a b p C) (hf : 0 < f.w * f.h) : ∃ φ, Feas f φ ∧ D f φ = C := by
  obtain ⟨u, v, h1, h2⟩ := h.pot
  have hψ : ∃ ψ : End → Int, (∀ s t, ψ s - ψ t ≤ (cost f s t : Int)) ∧ (∀ i, i < m → a i ≠ 0 → - u i ≤ ψ (x i)) ∧ (∀ j, j < n → ψ (y j) ≤ - v j) := by
    have hn := h.hn
    refine ⟨fun s => mn (fun j => (cost f s (y j) : Int) - v j) (n - 1), ?_, ?_, ?_⟩
    · intro s t
      obtain ⟨k, hk, e⟩ := mn_at (fun j => (cost f t (y j) : Int) - v j) (n - 1)
      have l := mn_le (fun j => (cost f s (y j) : Int) - v j) (n - 1) k hk
      have := cost_tri f s t (y k)
      simp only at e l ⊢
      omega
    · intro i hi hne
      obtain ⟨k, hk, e⟩ := mn_at (fun j => (cost f (x i) (y j) : Int) - v j) (n - 1)
      have := h1 i k hi (by omega) hne
      simp only at e ⊢
      omega
    · intro j hj
      have l := mn_le (fun k => (cost f (y j) (y k) : Int) - v k) (n - 1) j (by omega)
      have := cost_self f (y j)
      simp only at l ⊢
      omega
  obtain ⟨ψ, hc, hu, hv⟩ := hψ
  have hfeas : Feas f (fun s => ψ (some s) - ψ none) := by
    refine ⟨?_, ?_, ?_⟩
    · intro a b _ _
      have := hc (some a) (some b)
      simp only [cost] at this
      omega
    · have := hc (some 0) none
      simp only [cost, steps_self] at this
      omega
    · have := hc none (some 0)
      simp only [cost, steps_self] at this
      omega
  refine ⟨_, hfeas, ?_⟩
  have hle := h.weak hf hfeas
  have hge : C ≤ D f (fun s => ψ (some s) - ψ none) := by
    have e : D f (fun s => ψ (some s) - ψ none) = S m (fun i => ψ (x i) * (a i : Int)) - S n (fun j => ψ (y j) * (b j : Int)) := by
      rw [D_split, h.wa, h.wb]
      rw [S_congr (g := fun s => ψ (some s) * (over f s : Int) - ψ none * (over f s : Int)) (fun s _ => Int.sub_mul _ _ _), S_sub, S_mulL, ← cut_eq]
      rw [S_congr (f := fun s => (ψ (some s) - ψ none) * (under f s : Int)) (g := fun s => ψ (some s) * (under f s : Int) - ψ none * (under f s : Int)) (fun s _ => Int.sub_mul _ _ _), S_sub, S_mulL, ← fill_eq]
      omega
    rw [e, h.val]
    have e1 : S m (fun i => S n (fun j => (p i j : Int) * (cost f (x i) (y j) : Int))) = S m (fun i => (- u i) * (a i : Int)) - S n (fun j => (- v j) * (b j : Int)) := by
      rw [S_congr (g := fun i => (- u i) * (a i : Int) - S n (fun j => (p i j : Int) * (- v j)))]
      · rw [S_sub, S_swap]
        congr 1
        apply S_congr
        intro j hj
        rw [S_mulR, h.cols j hj, Int.mul_comm]
      · intro i hi
        rw [S_congr (g := fun j => (p i j : Int) * (- u i) - (p i j : Int) * (- v j)), S_sub, S_mulR, h.rows i hi, Int.mul_comm]
        intro j hj
        rw [← Int.mul_sub]
        by_cases e0 : p i j = 0
        · simp [e0]
        · have := h2 i j hi hj e0
          congr 1
          omega
    rw [e1]
    have l1 : S m (fun i => (- u i) * (a i : Int)) ≤ S m (fun i => ψ (x i) * (a i : Int)) := by
      apply S_le
      intro i hi
      by_cases e0 : a i = 0
      · simp [e0]
      · exact Int.mul_le_mul_of_nonneg_right (hu i hi e0) (by omega)
    have l2 : S n (fun j => ψ (y j) * (b j : Int)) ≤ S n (fun j => (- v j) * (b j : Int)) := by
      apply S_le
      intro j hj
      exact Int.mul_le_mul_of_nonneg_right (hv j hj) (by omega)
    omega
  omega

theorem least_weak (f : Field) (hf : 0 < f.w * f.h) {φ : Nat → Int} (hφ : Feas f φ) : D f φ ≤ (least f : Int) := by
  obtain ⟨m, n, x, y, a, b, p, h⟩ := least_best f
  exact h.weak hf hφ
theorem least_strong (f : Field) (hf : 0 < f.w * f.h) : ∃ φ, Feas f φ ∧ D f φ = (least f : Int) := by
  obtain ⟨m, n, x, y, a, b, p, h⟩ := least_best f
  exact h.strong hf
end EM
namespace EM
open Kp218

structure V (f : Field) : Prop where
  w1 : 1 ≤ f.w
  w4 : f.w ≤ 4
  h1 : 1 ≤ f.h
  h4 : f.h ≤ 4
  g : f.ground.length = f.w * f.h
  q : f.want.length = f.w * f.h
  b1 : 1 ≤ f.bring
  b2 : f.bring ≤ 100
  t1 : 1 ≤ f.take_
  t2 : f.take_ ≤ 100

theorem V.pos {f : Field} (h : V f) : 0 < f.w * f.h := Nat.mul_pos h.w1 h.h1

theorem Feas.congr {f g : Field} {φ : Nat → Int} (h : Feas f φ) (e1 : g.w = f.w) (e2 : g.h = f.h) (e3 : g.bring = f.bring) (e4 : g.take_ = f.take_) : Feas g φ := by
  refine ⟨?_, by rw [e4]; exact h.hi, by rw [e3]; exact h.lo⟩
  intro a b ha hb
  have := h.lip a b (by rw [e1, e2] at ha; exact ha) (by rw [e1, e2] at hb; exact hb)
  unfold steps at this ⊢
  rw [e1]; exact this

theorem beside_sq {f : Field} (hv : V f) {s d t : Nat} (hs : s < f.w * f.h) (e : beside f s d = some t) : t < f.w * f.h ∧ t ≠ s ∧ steps f s t = 1 ∧ steps f t s = 1 := by
  obtain ⟨w, h, gr, wa, b, k, sp⟩ := f
  have h1 := hv.w1
  have h2 := hv.w4
  have h3 := hv.h1
  have h4 := hv.h4
  clear hv
  simp only at *
  unfold beside at e
  unfold steps apart
  simp only at *
  have hw : w = 1 ∨ w = 2 ∨ w = 3 ∨ w = 4 := by omega
  split at e
  · split at e
    · cases e
    · cases e; rcases hw with rfl | rfl | rfl | rfl <;> omega
  · split at e
    · cases e; rcases hw with rfl | rfl | rfl | rfl <;> omega
    · cases e
  · split at e
    · cases e; rcases hw with rfl | rfl | rfl | rfl <;> omega
    · cases e
  · split at e
    · cases e
    · cases e; rcases hw with rfl | rfl | rfl | rfl <;> omega

theorem toward {f : Field} (hv : V f) {s b : Nat} (hs : s < f.w * f.h) (hb : b < f.w * f.h) (hne : s ≠ b) : ∃ d t, d < 4 ∧ beside f s d = some t ∧ steps f t b + 1 = steps f s b := by
  obtain ⟨w, h, gr, wa, bb, k, sp⟩ := f
  have h1 := hv.w1
  have h2 := hv.w4
  have h3 := hv.h1
  have h4 := hv.h4
  clear hv
  simp only at *
  unfold beside steps apart
  simp only at *
  have hw : w = 1 ∨ w = 2 ∨ w = 3 ∨ w = 4 := by omega
  by_cases c1 : s % w < b % w
  · refine ⟨1, s + 1, by omega, ?_, ?_⟩
    · simp only; rw [if_pos]; rcases hw with rfl | rfl | rfl | rfl <;> omega
    · rcases hw with rfl | rfl | rfl | rfl <;> omega
  · by_cases c2 : b % w < s % w
    · refine ⟨3, s - 1, by omega, ?_, ?_⟩
      · simp only; rw [if_neg]; rcases hw with rfl | rfl | rfl | rfl <;> omega
      · rcases hw with rfl | rfl | rfl | rfl <;> omega
    · by_cases c3 : s / w < b / w
      · refine ⟨2, s + w, by omega, ?_, ?_⟩
        · simp only; rw [if_pos]; rcases hw with rfl | rfl | rfl | rfl <;> omega
        · rcases hw with rfl | rfl | rfl | rfl <;> omega
      · have c4 : s % w = b % w := by omega
        have c5 : s / w ≠ b / w := by
          intro e; apply hne
          rw [← Nat.div_add_mod s w, ← Nat.div_add_mod b w, e, c4]
        clear hne hs hb
        have c6 : (s - w) % w = s % w := by clear c1 c2 c4; rcases hw with rfl | rfl | rfl | rfl <;> omega
        have c7 : (s - w) / w = s / w - 1 := by clear c1 c2 c4 c6; rcases hw with rfl | rfl | rfl | rfl <;> omega
        refine ⟨0, s - w, by omega, ?_, ?_⟩
        · simp only; rw [if_neg]
          generalize s / w = q1 at *; generalize b / w = q2 at *; omega
        · rw [c6, c7, c4]
          generalize s / w = q1 at *; generalize b / w = q2 at *; omega

theorem level_set (f : Field) (s v x : Nat) (hs : s < f.ground.length) : level (setLevel f s v) x = if x = s then v else level f x := by
  unfold level setLevel
  simp only [List.getD, List.getElem?_set]
  by_cases e : s = x
  · subst e; simp [hs]
  · have : ¬ x = s := fun h => e h.symm
    simp [e, this]

theorem D_moved {f : Field} (hv : V f) {s t : Nat} (hs : s < f.w * f.h) (ht : t < f.w * f.h) (hne : t ≠ s) (hl : level f s ≠ 0) (φ : Nat → Int) : D (moved f s t 1) φ = D f φ - φ s + φ t := by
  have hg := hv.g
  have hlev : ∀ x, (level (moved f s t 1) x : Int) = level f x - (if x = s then 1 else 0) + (if x = t then 1 else 0) := by
    intro x
    have e1 : level (moved f s t 1) x = level (setLevel (setLevel f s (level f s - 1)) t (level (setLevel f s (level f s - 1)) t + 1)) x := rfl
    rw [e1, level_set _ _ _ _ (by simp [setLevel]; omega), level_set _ _ _ _ (by omega), level_set _ _ _ _ (by omega)]
    by_cases c1 : x = t
    · subst c1; simp [hne]
    · by_cases c2 : x = s
      · subst c2; simp [c1]; omega
      · simp [c1, c2]
  have hw : ∀ x, wanted (moved f s t 1) x = wanted f x := fun x => rfl
  unfold D
  have e0 : (moved f s t 1).w * (moved f s t 1).h = f.w * f.h := rfl
  rw [e0]
  rw [S_congr (g := fun x => φ x * ((level f x : Int) - (wanted f x : Int)) - (if x = s then φ s else 0) + (if x = t then φ t else 0))]
  · rw [S_add, S_sub, S_single _ _ _ hs, S_single _ _ _ ht]
  · intro x _
    rw [hlev, hw]
    by_cases c1 : x = t
    · subst c1; simp only [hne, if_false, if_true]
      rw [show ((level f x : Int) - 0 + 1 - wanted f x) = ((level f x : Int) - wanted f x) + 1 by omega, Int.mul_add]; omega
    · by_cases c2 : x = s
      · subst c2; simp only [c1, if_false, if_true]
        rw [show ((level f x : Int) - 1 + 0 - wanted f x) = ((level f x : Int) - wanted f x) - 1 by omega, Int.mul_sub]; omega
      · simp only [c1, c2, if_false]
        rw [show ((level f x : Int) - 0 + 0 - wanted f x) = ((level f x : Int) - wanted f x) by omega]; omega

theorem D_gate (f g : Field) (k : Int) (hf : 0 < f.w * f.h) (e0 : g.w * g.h = f.w * f.h) (hl : ∀ x, (level g x : Int) = level f x + (if x = 0 then k else 0)) (hw : ∀ x, wanted g x = wanted f x) (φ : Nat → Int) : D g φ = D f φ + φ 0 * k := by
  unfold D
  rw [e0, S_congr (g := fun x => φ x * ((level f x : Int) - (wanted f x : Int)) + (if x = 0 then φ 0 * k else 0))]
  · rw [S_add, S_single _ _ _ hf]
  · intro x _
    rw [hl, hw]
    by_cases c1 : x = 0
    · subst c1; simp only [if_true]
      rw [← Int.mul_add]; congr 1; omega
    · simp only [c1, if_false, Int.add_zero]

theorem D_brought {f : Field} (hv : V f) (φ : Nat → Int) : D (brought f 1) φ = D f φ + φ 0 := by
  have := hv.pos
  have hg := hv.g
  rw [D_gate f (brought f 1) 1 this rfl _ (fun _ => rfl)]
  · omega
  · intro x
    have e1 : level (brought f 1) x = level (setLevel f 0 (level f 0 + 1)) x := rfl
    rw [e1, level_set _ _ _ _ (by omega)]
    by_cases c1 : x = 0
    · subst c1; simp
    · simp [c1]

theorem D_taken {f : Field} (hv : V f) (hl : level f 0 ≠ 0) (φ : Nat → Int) : D (taken f 1) φ = D f φ - φ 0 := by
  have := hv.pos
  have hg := hv.g
  rw [D_gate f (taken f 1) (-1) this rfl _ (fun _ => rfl)]
  · omega
  · intro x
    have e1 : level (taken f 1) x = level (setLevel f 0 (level f 0 - 1)) x := rfl
    rw [e1, level_set _ _ _ _ (by omega)]
    by_cases c1 : x = 0
    · subst c1; simp; omega
    · simp [c1]

/-- one load of a whole plan -/
theorem Best.entry {f : Field} {m n : Nat} {x y : Nat → End} {a b : Nat → Nat} {p : Nat → Nat → Nat} {C : Int} (h : Best f m n x y a b p C) (hf : 0 < f.w * f.h)
    {i j : Nat} (hi : i < m) (hj : j < n) (hp : p i j ≠ 0) {φ : Nat → Int} (hφ : Feas f φ) :
    D f φ ≤ C - (cost f (x i) (y j) : Int) + endPrice φ (x i) - endPrice φ (y j) := by
  have e := h.D_eq (endPrice φ)
  have e2 : endPrice φ none = 0 := rfl
  rw [e2, Int.zero_mul, Int.add_zero] at e
  have e3 : D f φ = S m (fun i => S n (fun j => (p i j : Int) * (endPrice φ (x i) - endPrice φ (y j)))) := by
    rw [D_split, e]; rfl
  have e4 : C - D f φ = S m (fun i => S n (fun j => (p i j : Int) * ((cost f (x i) (y j) : Int) - (endPrice φ (x i) - endPrice φ (y j))))) := by
    rw [e3, h.val, ← S_sub]
    apply S_congr; intro i _
    rw [← S_sub]
    apply S_congr; intro j _
    rw [← Int.mul_sub]
  have hnn : ∀ i j, 0 ≤ (p i j : Int) * ((cost f (x i) (y j) : Int) - (endPrice φ (x i) - endPrice φ (y j))) := by
    intro i j
    have := feas_cost hf hφ (h.inx i) (h.iny j)
    exact Int.mul_nonneg (by omega) (by omega)
  have l1 := S_term (f := fun j => (p i j : Int) * ((cost f (x i) (y j) : Int) - (endPrice φ (x i) - endPrice φ (y j)))) (n := n) (fun k _ => hnn i k) hj
  have l2 := S_term (f := fun i => S n (fun j => (p i j : Int) * ((cost f (x i) (y j) : Int) - (endPrice φ (x i) - endPrice φ (y j))))) (n := m) (fun k _ => S_nonneg (fun k2 _ => hnn k k2)) hi
  have l3 := feas_cost hf hφ (h.inx i) (h.iny j)
  have l4 : (cost f (x i) (y j) : Int) - (endPrice φ (x i) - endPrice φ (y j)) ≤ (p i j : Int) * ((cost f (x i) (y j) : Int) - (endPrice φ (x i) - endPrice φ (y j))) := by
    have := Int.mul_le_mul_of_nonneg_right (show (1 : Int) ≤ (p i j : Int) by omega) (show 0 ≤ (cost f (x i) (y j) : Int) - (endPrice φ (x i) - endPrice φ (y j)) by omega)
    rw [Int.one_mul] at this; exact this
  omega

theorem wise_of {f : Field} (hv : V f) {m n : Nat} {x y : Nat → End} {a b : Nat → Nat} {p : Nat → Nat → Nat} (h : Best f m n x y a b p (least f))
    {i j s d t : Nat} (hi : i < m) (hj : j < n) (hp : p i j ≠ 0) (hx : x i = some s) (hs : s < f.w * f.h) (hd : beside f s d = some t) (hl : level f s ≠ 0)
    (hc : cost f (some t) (y j) + 1 = cost f (some s) (y j)) : wise f s d = true := by
  have hf := hv.pos
  obtain ⟨ht, hne, hst, hts⟩ := beside_sq hv hs hd
  obtain ⟨φ1, f1, e1⟩ := least_strong f hf
  have hf' : 0 < (moved f s t 1).w * (moved f s t 1).h := hf
  obtain ⟨φ2, f2, e2⟩ := least_strong (moved f s t 1) hf'
  have g1 : Feas (moved f s t 1) φ1 := f1.congr rfl rfl rfl rfl
  have g2 : Feas f φ2 := f2.congr rfl rfl rfl rfl
  have l1 := least_weak (moved f s t 1) hf' g1
  rw [D_moved hv hs ht hne hl] at l1 e2
  have l2 := f1.lip s t hs ht
  have l3 := h.entry hf hi hj hp g2
  rw [hx] at l3
  have l4 := feas_cost hf g2 (x := some t) (y := y j) ht (h.iny j)
  simp only [endPrice] at l3 l4
  unfold wise wiseBy
  rw [hd]
  simp only [Bool.and_eq_true, bne_iff_ne, ne_eq, beq_iff_eq]
  refine ⟨hl, ?_⟩
  omega

theorem some_wise {f : Field} (hv : V f) (hd : done f = false) : (∃ s d, s < f.w * f.h ∧ d < 4 ∧ wise f s d = true) ∨ wiseBring f = true ∨ wiseTake f = true := by
  have hf := hv.pos
  obtain ⟨m, n, x, y, a, b, p, h⟩ := least_best f
  have ha : ∀ i s, i < m → x i = some s → a i ≠ 0 → s < f.w * f.h ∧ over f s ≠ 0 := by
    intro i s hi hx hne
    have hs : s < f.w * f.h := by have := h.inx i; rw [hx] at this; exact this
    refine ⟨hs, ?_⟩
    have e := h.wa (fun z => if z = some s then 1 else 0)
    have l := S_term (f := fun i => (if x i = some s then (1 : Int) else 0) * (a i : Int)) (n := m) (by
      intro k _; split <;> omega) hi
    rw [S_congr (g := fun q => if q = s then (over f s : Int) else 0) (f := fun q => (if (some q : End) = some s then (1 : Int) else 0) * (over f q : Int))] at e
    · rw [S_single _ _ _ hs] at e
      simp only [hx, if_true] at l e
      rw [e] at l
      simp at l
      omega
    · intro q _
      by_cases c : q = s
      · subst c; simp
      · simp [c]
  have hb : ∀ j s, j < n → y j = some s → b j ≠ 0 → s < f.w * f.h ∧ under f s ≠ 0 := by
    intro j s hj hy hne
    have hs : s < f.w * f.h := by have := h.iny j; rw [hy] at this; exact this
    refine ⟨hs, ?_⟩
    have e := h.wb (fun z => if z = some s then 1 else 0)
    have l := S_term (f := fun i => (if y i = some s then (1 : Int) else 0) * (b i : Int)) (n := n) (by
      intro k _; split <;> omega) hj
    rw [S_congr (g := fun q => if q = s then (under f s : Int) else 0) (f := fun q => (if (some q : End) = some s then (1 : Int) else 0) * (under f q : Int))] at e
    · rw [S_single _ _ _ hs] at e
      simp only [hy, if_true] at l e
      rw [e] at l
      simp at l
      omega
    · intro q _
      by_cases c : q = s
      · subst c; simp
      · simp [c]
  by_cases hcut : cut f = 0
  · -- nothing is too high: something must be brought
    have hfill : fill f ≠ 0 := by
      intro e; unfold done at hd; simp [hcut, e] at hd
    have hov : ∀ s, s < f.w * f.h → over f s = 0 := by
      intro s hs
      have e := cut_eq f
      have := S_term (f := fun s => (over f s : Int)) (n := f.w * f.h) (fun k _ => by omega) hs
      omega
    obtain ⟨s, hs, hus⟩ := S_pos (f := fun s => (under f s : Int)) (n := f.w * f.h) (by rw [← fill_eq]; omega)
    have e := h.wb (fun z => if z = some s then 1 else 0)
    rw [S_congr (g := fun q => if q = s then (under f s : Int) else 0) (f := fun q => (if (some q : End) = some s then (1 : Int) else 0) * (under f q : Int)) (by
      intro q _
      by_cases c : q = s
      · subst c; simp
      · simp [c])] at e
    rw [S_single _ _ _ hs] at e
    obtain ⟨j, hj, hjp⟩ := S_pos (f := fun j => (if y j = some s then (1 : Int) else 0) * (b j : Int)) (n := n) (by rw [e]; simp; omega)
    have hyj : y j = some s := by
      by_cases c : y j = some s
      · exact c
      · simp [c] at hjp
    simp only [hyj, if_true] at hjp
    obtain ⟨i, hi, hip⟩ := S_pos (f := fun i => (p i j : Int)) (n := m) (by rw [h.cols j hj]; omega)
    have hai : a i ≠ 0 := by
      have := h.rows i hi
      have := S_term (f := fun j => (p i j : Int)) (n := n) (fun k _ => by omega) hj
      omega
    have hxi : x i = none := by
      cases hx : x i with
      | none => rfl
      | some q =>
        obtain ⟨hq, hne⟩ := ha i q hi hx hai
        exact absurd (hov q hq) hne
    right; left
    obtain ⟨φ1, f1, e1⟩ := least_strong f hf
    have hf' : 0 < (brought f 1).w * (brought f 1).h := hf
    obtain ⟨φ2, f2, e2⟩ := least_strong (brought f 1) hf'
    have g1 : Feas (brought f 1) φ1 := f1.congr rfl rfl rfl rfl
    have g2 : Feas f φ2 := f2.congr rfl rfl rfl rfl
    have l1 := least_weak (brought f 1) hf' g1
    rw [D_brought hv] at l1 e2
    have l2 := f1.lo
    have l3 := h.entry hf hi hj (by omega) g2
    rw [hxi, hyj] at l3
    simp only [endPrice, cost] at l3
    have l4 := g2.lip 0 s hf hs
    unfold wiseBring
    simp only [beq_iff_eq]
    omega
  · obtain ⟨s, hs, hus⟩ := S_pos (f := fun s => (over f s : Int)) (n := f.w * f.h) (by rw [← cut_eq]; omega)
    have hlev : level f s ≠ 0 := by unfold over at hus; omega
    have e := h.wa (fun z => if z = some s then 1 else 0)
    rw [S_congr (g := fun q => if q = s then (over f s : Int) else 0) (f := fun q => (if (some q : End) = some s then (1 : Int) else 0) * (over f q : Int)) (by
      intro q _
      by_cases c : q = s
      · subst c; simp
      · simp [c])] at e
    rw [S_single _ _ _ hs] at e
    obtain ⟨i, hi, hip⟩ := S_pos (f := fun i => (if x i = some s then (1 : Int) else 0) * (a i : Int)) (n := m) (by rw [e]; simp; omega)
    have hxi : x i = some s := by
      by_cases c : x i = some s
      · exact c
      · simp [c] at hip
    simp only [hxi, if_true] at hip
    obtain ⟨j, hj, hjp⟩ := S_pos (f := fun j => (p i j : Int)) (n := n) (by rw [h.rows i hi]; omega)
    have hbj : b j ≠ 0 := by
      have := h.cols j hj
      have := S_term (f := fun i => (p i j : Int)) (n := m) (fun k _ => by omega) hi
      omega
    cases hy : y j with
    | some q =>
      obtain ⟨hq, hun⟩ := hb j q hj hy hbj
      have hne : s ≠ q := by
        intro e; subst e; unfold over at hus; unfold under at hun; omega
      obtain ⟨d, t, hd4, hbe, hst⟩ := toward hv hs hq hne
      left
      exact ⟨s, d, hs, hd4, wise_of hv h hi hj (by omega) hxi hs hbe hlev (by rw [hy]; exact hst)⟩
    | none =>
      by_cases hs0 : s = 0
      · subst hs0
        right; right
        obtain ⟨φ1, f1, e1⟩ := least_strong f hf
        have hf' : 0 < (taken f 1).w * (taken f 1).h := hf
        obtain ⟨φ2, f2, e2⟩ := least_strong (taken f 1) hf'
        have g1 : Feas (taken f 1) φ1 := f1.congr rfl rfl rfl rfl
        have g2 : Feas f φ2 := f2.congr rfl rfl rfl rfl
        have l1 := least_weak (taken f 1) hf' g1
        rw [D_taken hv hlev] at l1 e2
        have l2 := f1.hi
        have l3 := h.entry hf hi hj (by omega) g2
        rw [hxi, hy] at l3
        simp only [endPrice, cost, steps_self] at l3
        unfold wiseTake
        simp only [Bool.and_eq_true, bne_iff_ne, ne_eq, beq_iff_eq]
        refine ⟨hlev, ?_⟩
        omega
      · obtain ⟨d, t, hd4, hbe, hst⟩ := toward hv hs hf hs0
        left
        refine ⟨s, d, hs, hd4, wise_of hv h hi hj (by omega) hxi hs hbe hlev ?_⟩
        rw [hy]
        show steps f t 0 + f.take_ + 1 = steps f s 0 + f.take_
        omega

/-- next: the last test is always true -/
theorem next_eq {f : Field} (hv : V f) (hd : done f = false) : next f = match (squares f).findSome? fun s => ([0, 1, 2, 3].find? (wiseBy f (least f) s)).map fun d => (s, d) with
    | some x => some x
    | none => if wiseBring f then some (0, 4) else some (0, 5) := by
  unfold next
  simp only [hd]
  cases hfs : (squares f).findSome? fun s => ([0, 1, 2, 3].find? (wiseBy f (least f) s)).map fun d => (s, d) with
  | some x => rfl
  | none =>
    simp only
    by_cases hb : wiseBring f = true
    · simp [hb]
    · rcases some_wise hv hd with ⟨s, d, hs, hd4, hw⟩ | h | h
      · exfalso
        have h1 := (List.findSome?_eq_none_iff.1 hfs) s (List.mem_range.2 hs)
        have h2 : [0, 1, 2, 3].find? (wiseBy f (least f) s) = none := by
          cases h3 : [0, 1, 2, 3].find? (wiseBy f (least f) s) with
          | none => rfl
          | some d => rw [h3] at h1; cases h1
        have h3 := (List.find?_eq_none.1 h2) d (by
          have : d = 0 ∨ d = 1 ∨ d = 2 ∨ d = 3 := by omega
          rcases this with rfl | rfl | rfl | rfl <;> simp)
        exact h3 hw
      · exact absurd h hb
      · simp [hb, h]
end EM
namespace EM
open Kp218

/-- the squares beside s: above, right, below, left -/
def near (w h s : Nat) : List Nat :=
  (if w ≤ s then [s - w] else []) ++ (if s % w + 1 < w then [s + 1] else []) ++ (if s + w < w * h then [s + w] else []) ++ (if 0 < s % w then [s - 1] else [])

theorem mem_near {w h s b : Nat} : b ∈ near w h s ↔ (w ≤ s ∧ b = s - w) ∨ (s % w + 1 < w ∧ b = s + 1) ∨ (s + w < w * h ∧ b = s + w) ∨ (0 < s % w ∧ b = s - 1) := by
  unfold near
  simp only [List.mem_append]
  constructor
  · rintro (((h | h) | h) | h)
    all_goals (split at h <;> simp at h)
    · exact Or.inl ⟨by assumption, h⟩
    · exact Or.inr (Or.inl ⟨by assumption, h⟩)
    · exact Or.inr (Or.inr (Or.inl ⟨by assumption, h⟩))
    · exact Or.inr (Or.inr (Or.inr ⟨by assumption, h⟩))
  · rintro (⟨h, rfl⟩ | ⟨h, rfl⟩ | ⟨h, rfl⟩ | ⟨h, rfl⟩)
    · exact Or.inl (Or.inl (Or.inl (by rw [if_pos h]; simp)))
    · exact Or.inl (Or.inl (Or.inr (by rw [if_pos h]; simp)))
    · exact Or.inl (Or.inr (by rw [if_pos h]; simp))
    · exact Or.inr (by rw [if_pos h]; simp)

theorem div_of_lt_mul {w h s : Nat} (hs : s < w * h) : s / w < h := Nat.div_lt_of_lt_mul hs

theorem near_iff {f : Field} (hv : V f) {s b : Nat} (hs : s < f.w * f.h) : b ∈ near f.w f.h s ↔ ∃ d, d < 4 ∧ beside f s d = some b := by
  have h1 := hv.w1
  have e0 : f.w ≤ s ↔ ¬ s / f.w = 0 := by
    rw [Nat.div_eq_zero_iff]
    generalize f.w = w at *
    omega
  have e2 : s + f.w < f.w * f.h ↔ s / f.w + 1 < f.h := by
    rw [← Nat.add_div_right s (by omega : 0 < f.w)]
    rw [Nat.div_lt_iff_lt_mul (by omega), Nat.mul_comm]
  rw [mem_near]
  constructor
  · rintro (⟨h, rfl⟩ | ⟨h, rfl⟩ | ⟨h, rfl⟩ | ⟨h, rfl⟩)
    · exact ⟨0, by omega, by unfold beside; simp only; rw [if_neg (e0.1 h)]⟩
    · exact ⟨1, by omega, by unfold beside; simp only; rw [if_pos h]⟩
    · exact ⟨2, by omega, by unfold beside; simp only; rw [if_pos (e2.1 h)]⟩
    · exact ⟨3, by omega, by unfold beside; simp only; rw [if_neg (by omega)]⟩
  · rintro ⟨d, hd, hb⟩
    have : d = 0 ∨ d = 1 ∨ d = 2 ∨ d = 3 := by omega
    unfold beside at hb
    rcases this with rfl | rfl | rfl | rfl
    all_goals simp only at hb
    · split at hb
      · cases hb
      · cases hb; exact Or.inl ⟨e0.2 (by assumption), rfl⟩
    · split at hb
      · cases hb; exact Or.inr (Or.inl ⟨by assumption, rfl⟩)
      · cases hb
    · split at hb
      · cases hb; exact Or.inr (Or.inr (Or.inl ⟨e2.2 (by assumption), rfl⟩))
      · cases hb
    · split at hb
      · cases hb
      · cases hb; exact Or.inr (Or.inr (Or.inr ⟨by omega, rfl⟩))

theorem near_lt {f : Field} (hv : V f) {s b : Nat} (hs : s < f.w * f.h) (h : b ∈ near f.w f.h s) : b < f.w * f.h ∧ b ≠ s ∧ steps f s b = 1 ∧ steps f b s = 1 := by
  obtain ⟨d, _, hb⟩ := (near_iff hv hs).1 h
  exact beside_sq hv hs hb

theorem near_symm {w h s b : Nat} (hw : 1 ≤ w ∧ w ≤ 4) (hs : s < w * h) (h0 : b ∈ near w h s) : s ∈ near w h b := by
  rw [mem_near] at h0 ⊢
  have hw' : w = 1 ∨ w = 2 ∨ w = 3 ∨ w = 4 := by omega
  rcases h0 with ⟨h1, rfl⟩ | ⟨h1, rfl⟩ | ⟨h1, rfl⟩ | ⟨h1, rfl⟩
  · right; right; left; omega
  · right; right; right; rcases hw' with rfl | rfl | rfl | rfl <;> omega
  · left; omega
  · right; left; rcases hw' with rfl | rfl | rfl | rfl <;> omega

/-- what holds between squares beside each other holds over any distance -/
theorem lip_of_near {f : Field} (hv : V f) {p : Nat → Int} (h : ∀ a b, a < f.w * f.h → b ∈ near f.w f.h a → p b ≤ p a + 1) :
    ∀ (k a b : Nat), a < f.w * f.h → b < f.w * f.h → steps f a b = k → p b ≤ p a + k := by
  intro k
  induction k with
  | zero =>
    intro a b ha hb e
    by_cases hab : a = b
    · subst hab; omega
    · obtain ⟨d, t, _, _, h3⟩ := toward hv ha hb hab
      omega
  | succ k ih =>
    intro a b ha hb e
    by_cases hab : a = b
    · subst hab; omega
    · obtain ⟨d, t, h1, h2, h3⟩ := toward hv ha hb hab
      obtain ⟨h4, _⟩ := beside_sq hv ha h2
      have h5 := ih t b h4 hb (by omega)
      have h6 := h a t ha ((near_iff hv ha).2 ⟨d, h1, h2⟩)
      omega

theorem reach_of_near {f : Field} (hv : V f) {R : Nat → Prop} {a : Nat} (ha : a < f.w * f.h) (h0 : R a) (h : ∀ a b, a < f.w * f.h → R a → b ∈ near f.w f.h a → R b) :
    ∀ (k b : Nat), b < f.w * f.h → steps f b a = k → R b := by
  intro k
  induction k with
  | zero =>
    intro b hb e
    by_cases hab : b = a
    · subst hab; exact h0
    · obtain ⟨d, t, _, _, h3⟩ := toward hv hb ha hab
      omega
  | succ k ih =>
    intro b hb e
    by_cases hab : b = a
    · subst hab; exact h0
    · obtain ⟨d, t, h1, h2, h3⟩ := toward hv hb ha hab
      obtain ⟨h4, _⟩ := beside_sq hv hb h2
      exact h t b h4 (ih t h4 (by omega)) (near_symm ⟨hv.w1, hv.w4⟩ hb ((near_iff hv hb).2 ⟨d, h1, h2⟩))

theorem steps_le6 {f : Field} (hv : V f) {a b : Nat} (ha : a < f.w * f.h) (hb : b < f.w * f.h) : steps f a b ≤ 6 := by
  have h1 := hv.w1
  have h2 := hv.w4
  have h4 := hv.h4
  have a1 := Nat.mod_lt a (show 0 < f.w by omega)
  have b1 := Nat.mod_lt b (show 0 < f.w by omega)
  have a2 := div_of_lt_mul ha
  have b2 := div_of_lt_mul hb
  unfold steps apart
  generalize a % f.w = q1 at *; generalize b % f.w = q2 at *; generalize a / f.w = q3 at *; generalize b / f.w = q4 at *
  omega
end EM
namespace EM
open Kp218

/-- what a load sent from a to b beside it costs, where g a b loads are moved from a to b -/
def sc (g : Nat → Nat → Int) (a b : Nat) : Int := if 0 < g b a then -1 else 1

/-- prices that show that the moves g are the cheapest for what they bring about -/
def Pot (f : Field) (g : Nat → Nat → Int) (p : Nat → Int) : Prop := ∀ a b, a < f.w * f.h → b ∈ near f.w f.h a → p b ≤ p a + sc g a b

theorem sc_le (g : Nat → Nat → Int) (a b : Nat) : sc g a b ≤ 1 := by unfold sc; split <;> omega

theorem Pot.lip {f : Field} (hv : V f) {g : Nat → Nat → Int} {p : Nat → Int} (h : Pot f g p) {a b : Nat} (ha : a < f.w * f.h) (hb : b < f.w * f.h) : p b ≤ p a + steps f a b :=
  lip_of_near hv (fun a b ha hb => by have := h a b ha hb; have := sc_le g a b; omega) _ a b ha hb rfl

def cnt (n : Nat) (t : Nat → O) : Int := S n (fun b => if (t b).isSome then 1 else 0)

/-- what the search has left to better: it falls with each step that is bettered -/
def mz (n : Nat) (p : Nat → Int) (src : Nat) (t : Nat → O) : Int := S n (fun b => (match t b with | none => 20 | some x => x.1) - (p b - p src))

structure BF (f : Field) (g : Nat → Nat → Int) (src : Nat) (p : Nat → Int) (t : Nat → O) (tau : Nat → Nat) (T : Nat) (F : List Nat) : Prop where
  src0 : t src = some (0, src)
  pred : ∀ b x, b < f.w * f.h → t b = some x → b ≠ src → x.2 < f.w * f.h ∧ b ∈ near f.w f.h x.2 ∧ ∃ y, t x.2 = some y ∧ y.1 + sc g x.2 b ≤ x.1 ∧ (y.1 + sc g x.2 b = x.1 → tau x.2 < tau b)
  low : ∀ b x, b < f.w * f.h → t b = some x → p b - p src ≤ x.1
  high : ∀ b x, b < f.w * f.h → t b = some x → x.1 + 1 ≤ cnt (f.w * f.h) t
  clock : ∀ b, tau b ≤ T
  front : ∀ a y, a < f.w * f.h → t a = some y → a ∈ F ∨ ∀ b, b ∈ near f.w f.h a → ∃ x, t b = some x ∧ x.1 ≤ y.1 + sc g a b

def updO (t : Nat → O) (b : Nat) (x : Int × Nat) : Nat → O := fun k => if k = b then some x else t k

theorem cnt_upd {n : Nat} {t : Nat → O} {b : Nat} {x : Int × Nat} (hb : b < n) : cnt n (updO t b x) = cnt n t + (if (t b).isSome then 0 else 1) := by
  unfold cnt
  rw [S_congr (g := fun k => (if (t k).isSome then (1 : Int) else 0) + (if k = b then (if (t b).isSome then (0 : Int) else 1) else 0))]
  · rw [S_add, S_single _ _ _ hb]
  · intro k _
    unfold updO
    by_cases e : k = b
    · subst e
      cases t k <;> simp
    · simp [e]

theorem cnt_le (n : Nat) (t : Nat → O) : cnt n t ≤ n := by
  have : cnt n t ≤ S n (fun _ => 1) := S_le (fun k _ => by split <;> omega)
  have e : ∀ n : Nat, S n (fun _ => 1) = n := by
    intro n
    induction n with
    | zero => rfl
    | succ n ih => show S n _ + 1 = _; rw [ih]; omega
  rw [e] at this; exact this

theorem cnt_lt {n : Nat} {t : Nat → O} {b : Nat} (hb : b < n) (h : t b = none) : cnt n t + 1 ≤ n := by
  have h1 := cnt_upd (t := t) (x := (0, 0)) hb
  have h2 := cnt_le n (updO t b (0, 0))
  rw [h] at h1
  simp at h1
  omega

theorem size16 {f : Field} (hv : V f) : f.w * f.h ≤ 16 := by
  have := Nat.mul_le_mul hv.w4 hv.h4; omega

theorem BF.start {f : Field} {g : Nat → Nat → Int} {p : Nat → Int} {src : Nat} (hs : src < f.w * f.h) :
    BF f g src p (updO (fun _ => none) src (0, src)) (fun _ => 0) 0 [src] := by
  constructor
  · unfold updO; simp
  · intro b x _ hb hne; unfold updO at hb; rw [if_neg hne] at hb; cases hb
  · intro b x _ hb
    unfold updO at hb
    split at hb
    · rename_i e; subst e; cases hb; simp
    · cases hb
  · intro b x _ hb
    unfold updO at hb
    split at hb
    · cases hb
      rw [cnt_upd hs]
      have : 0 ≤ cnt (f.w * f.h) (fun _ => none) := S_nonneg (fun k _ => by simp)
      simp; omega
    · cases hb
  · intro b; omega
  · intro a y _ ha
    unfold updO at ha
    split at ha
    · rename_i e; subst e; left; simp
    · cases ha

theorem mz_start {f : Field} (hv : V f) {g : Nat → Nat → Int} {p : Nat → Int} (hp : Pot f g p) {src : Nat} (hs : src < f.w * f.h) :
    mz (f.w * f.h) p src (updO (fun _ => none) src (0, src)) ≤ 416 := by
  have h1 : mz (f.w * f.h) p src (updO (fun _ => none) src (0, src)) ≤ S (f.w * f.h) (fun _ => 26) := by
    apply S_le
    intro k hk
    have h2 := hp.lip hv hk hs
    have h3 := steps_le6 hv hk hs
    unfold updO
    by_cases e : k = src
    · subst e; simp
    · simp [e]; omega
  have e : ∀ n : Nat, S n (fun _ => (26 : Int)) = 26 * n := by
    intro n
    induction n with
    | zero => rfl
    | succ n ih => show S n _ + 26 = _; rw [ih]; omega
  rw [e] at h1
  have := size16 hv
  omega

/-- what is left to better is never below 0 -/
theorem BF.mz_nonneg {f : Field} (hv : V f) {g : Nat → Nat → Int} {p : Nat → Int} (hp : Pot f g p) {src : Nat} (hs : src < f.w * f.h) {t : Nat → O} {tau : Nat → Nat} {T : Nat} {F : List Nat} (h : BF f g src p t tau T F) : 0 ≤ mz (f.w * f.h) p src t := by
  apply S_nonneg
  intro k hk
  cases e : t k with
  | none =>
    simp only
    have h2 := hp.lip hv hs hk
    have h3 := steps_le6 hv hs hk
    omega
  | some x =>
    have := h.low k x hk e
    simp only
    omega

theorem BF.better {f : Field} (hv : V f) {g : Nat → Nat → Int} {p : Nat → Int} (hp : Pot f g p) {src : Nat} {t : Nat → O} {tau : Nat → Nat} {T : Nat} {F : List Nat} (h : BF f g src p t tau T F)
    {a b : Nat} {y : Int × Nat} (ha : a < f.w * f.h) (hb : b ∈ near f.w f.h a) (hy : t a = some y) (hc : ∀ x, t b = some x → y.1 + sc g a b < x.1) :
    BF f g src p (updO t b (y.1 + sc g a b, a)) (fun k => if k = b then T + 1 else tau k) (T + 1) (b :: F) ∧
    mz (f.w * f.h) p src (updO t b (y.1 + sc g a b, a)) + 1 ≤ mz (f.w * f.h) p src t := by
  obtain ⟨hbl, hne, _, _⟩ := near_lt hv ha hb
  have hbs : b ≠ src := by
    intro e; subst e
    have h1 := hc _ h.src0
    have h2 := h.low a y ha hy
    have h3 := hp a b ha hb
    simp only at h1
    omega
  have hlow := h.low a y ha hy
  have hpa := hp a b ha hb
  have hcnt := cnt_upd (t := t) (x := (y.1 + sc g a b, a)) hbl
  have hya : y.1 + 1 ≤ cnt (f.w * f.h) t := h.high a y ha hy
  have hsc := sc_le g a b
  constructor
  · constructor
    · show (if src = b then _ else _) = _
      rw [if_neg (Ne.symm hbs)]; exact h.src0
    · intro k x hk hx hks
      by_cases e : k = b
      · subst e
        unfold updO at hx; rw [if_pos rfl] at hx; cases hx
        refine ⟨ha, hb, y, ?_, Int.le_refl _, ?_⟩
        · unfold updO; rw [if_neg (Ne.symm hne)]; exact hy
        · intro _
          have := h.clock a
          simp only [Ne.symm hne, if_false, if_true]
          omega
      · unfold updO at hx; rw [if_neg e] at hx
        obtain ⟨h1, h2, z, hz, hle, hrk⟩ := h.pred k x hk hx hks
        refine ⟨h1, h2, ?_⟩
        by_cases e2 : x.2 = b
        · refine ⟨_, by unfold updO; rw [if_pos e2], ?_, ?_⟩
          · rw [e2] at hz hle
            have := hc z hz
            rw [e2]
            simp only
            omega
          · intro heq
            rw [e2] at hz hle heq
            have := hc z hz
            simp only at heq
            omega
        · refine ⟨z, by unfold updO; rw [if_neg e2]; exact hz, hle, ?_⟩
          intro heq
          simp only [e, e2, if_false]
          exact hrk heq
    · intro k x hk hx
      by_cases e : k = b
      · subst e
        unfold updO at hx; rw [if_pos rfl] at hx; cases hx
        simp only
        omega
      · unfold updO at hx; rw [if_neg e] at hx
        exact h.low k x hk hx
    · intro k x hk hx
      rw [hcnt]
      by_cases e : k = b
      · subst e
        unfold updO at hx; rw [if_pos rfl] at hx; cases hx
        simp only
        cases e2 : t k with
        | none => simp; omega
        | some z =>
          have := hc z e2
          have := h.high k z hk e2
          simp; omega
      · unfold updO at hx; rw [if_neg e] at hx
        have := h.high k x hk hx
        split <;> omega
    · intro k
      have := h.clock k
      split <;> omega
    · intro k z hk hz
      by_cases e : k = b
      · subst e; left; simp
      · unfold updO at hz; rw [if_neg e] at hz
        rcases h.front k z hk hz with h1 | h1
        · left; exact List.mem_cons_of_mem _ h1
        · right
          intro q hq
          obtain ⟨x, hx, hle⟩ := h1 q hq
          by_cases e2 : q = b
          · subst e2
            refine ⟨_, by unfold updO; rw [if_pos rfl], ?_⟩
            have := hc x hx
            simp only
            omega
          · exact ⟨x, by unfold updO; rw [if_neg e2]; exact hx, hle⟩
  · have e : mz (f.w * f.h) p src (updO t b (y.1 + sc g a b, a)) = mz (f.w * f.h) p src t + ((y.1 + sc g a b) - (match t b with | none => 20 | some x => x.1)) := by
      unfold mz
      rw [S_congr (g := fun k => ((match t k with | none => 20 | some x => x.1) - (p k - p src)) + (if k = b then ((y.1 + sc g a b) - (match t b with | none => 20 | some x => x.1)) else 0))]
      · rw [S_add, S_single _ _ _ hbl]
      · intro k _
        unfold updO
        by_cases e : k = b
        · subst e; simp only [if_true]
          generalize (match t k with | none => (20 : Int) | some x => x.1) = q
          generalize sc g a k = r
          show y.1 + r - (p k - p src) = q - (p k - p src) + (y.1 + r - q)
          omega
        · simp only [e, if_false]; omega
    rw [e]
    cases e2 : t b with
    | none =>
      simp only
      have := cnt_lt hbl e2
      have := size16 hv
      omega
    | some x =>
      have := hc x e2
      simp only
      omega

/-- a square all whose steps are weighed needs no second look -/
theorem BF.drop {f : Field} {g : Nat → Nat → Int} {p : Nat → Int} {src : Nat} {t : Nat → O} {tau : Nat → Nat} {T : Nat} {F F' : List Nat} (h : BF f g src p t tau T F)
    (hF : ∀ a, a ∈ F → a ∈ F' ∨ ∀ y, t a = some y → ∀ b, b ∈ near f.w f.h a → ∃ x, t b = some x ∧ x.1 ≤ y.1 + sc g a b) : BF f g src p t tau T F' := by
  refine ⟨h.src0, h.pred, h.low, h.high, h.clock, ?_⟩
  intro a y ha hy
  rcases h.front a y ha hy with h1 | h1
  · rcases hF a h1 with h2 | h2
    · exact Or.inl h2
    · exact Or.inr (h2 y hy)
  · exact Or.inr h1

/-- what the search leaves behind -/
structure Found (f : Field) (g : Nat → Nat → Int) (src : Nat) (t : Nat → O) (d : Nat → Int) (tau : Nat → Nat) : Prop where
  all : ∀ b, b < f.w * f.h → ∃ a, t b = some (d b, a) ∧ (b ≠ src → a < f.w * f.h ∧ b ∈ near f.w f.h a ∧ d b = d a + sc g a b ∧ tau a < tau b)
  src0 : t src = some (0, src)
  pot : Pot f g d

theorem BF.found {f : Field} (hv : V f) {g : Nat → Nat → Int} {p : Nat → Int} {src : Nat} (hs : src < f.w * f.h) {t : Nat → O} {tau : Nat → Nat} {T : Nat} (h : BF f g src p t tau T []) : ∃ d, Found f g src t d tau := by
  have hall : ∀ b, b < f.w * f.h → ∃ x, t b = some x := by
    intro b hb
    refine reach_of_near hv hs (R := fun b => ∃ x, t b = some x) ⟨_, h.src0⟩ ?_ _ b hb rfl
    rintro a c ha ⟨y, hy⟩ hc
    rcases h.front a y ha hy with h1 | h1
    · cases h1
    · obtain ⟨x, hx, _⟩ := h1 c hc
      exact ⟨x, hx⟩
  refine ⟨fun b => val (t b), ⟨?_, h.src0, ?_⟩⟩
  · intro b hb
    obtain ⟨x, hx⟩ := hall b hb
    refine ⟨x.2, by rw [hx]; rfl, ?_⟩
    intro hne
    obtain ⟨h1, h2, y, hy, hle, hrk⟩ := h.pred b x hb hx hne
    have hle2 : x.1 ≤ y.1 + sc g x.2 b := by
      rcases h.front x.2 y h1 hy with h3 | h3
      · cases h3
      · obtain ⟨x', hx', hle'⟩ := h3 b h2
        rw [hx] at hx'; cases hx'; exact hle'
    refine ⟨h1, h2, ?_, hrk (by omega)⟩
    simp only [hx, hy, val]
    omega
  · intro a b ha hb
    obtain ⟨y, hy⟩ := hall a ha
    rcases h.front a y ha hy with h3 | h3
    · cases h3
    · obtain ⟨x, hx, hle⟩ := h3 b hb
      simp only [hx, hy, val]
      exact hle
end EM
namespace EM
open Kp218

def updG (g : Nat → Nat → Int) (x y : Nat) (v : Int) : Nat → Nat → Int := fun i j => if i = x ∧ j = y then v else g i j
/-- k loads one step further -/
def push (k : Int) (g : Nat → Nat → Int) (q : Nat × Nat) : Nat → Nat → Int :=
  if 0 < g q.2 q.1 then updG g q.2 q.1 (g q.2 q.1 - k) else updG g q.1 q.2 (g q.1 q.2 + k)
def pairs : List Nat → List (Nat × Nat)
  | [] => []
  | [_] => []
  | x :: y :: r => (x, y) :: pairs (y :: r)
def net (n : Nat) (g : Nat → Nat → Int) (a : Nat) : Int := S n (fun b => g a b) - S n (fun b => g b a)

def OnPath (f : Field) (g : Nat → Nat → Int) (d : Nat → Int) : List Nat → Prop
  | [] => True
  | [x] => x < f.w * f.h
  | x :: y :: r => x < f.w * f.h ∧ y ∈ near f.w f.h x ∧ d y = d x + sc g x y ∧ OnPath f g d (y :: r)

/-- what can be spared on the way is k at least -/
def Spare (g : Nat → Nat → Int) (k : Int) : List Nat → Prop
  | [] => True
  | [_] => True
  | x :: y :: r => (0 < g y x → k ≤ g y x) ∧ Spare g k (y :: r)

theorem OnPath.congr {f : Field} {g g' : Nat → Nat → Int} {d : Nat → Int} : ∀ {P : List Nat}, (∀ i j, i ∈ P → j ∈ P → g' i j = g i j) → OnPath f g d P → OnPath f g' d P
  | [], _, _ => trivial
  | [_], _, h => h
  | x :: y :: r, e, h => by
    obtain ⟨h1, h2, h3, h4⟩ := h
    refine ⟨h1, h2, ?_, OnPath.congr (fun i j hi hj => e i j (List.mem_cons_of_mem _ hi) (List.mem_cons_of_mem _ hj)) h4⟩
    unfold sc at h3 ⊢
    rw [e y x (by simp) (by simp)]; exact h3

theorem Spare.congr {g g' : Nat → Nat → Int} {k : Int} : ∀ {P : List Nat}, (∀ i j, i ∈ P → j ∈ P → g' i j = g i j) → Spare g k P → Spare g' k P
  | [], _, _ => trivial
  | [_], _, _ => trivial
  | x :: y :: r, e, h => by
    obtain ⟨h1, h2⟩ := h
    refine ⟨?_, Spare.congr (fun i j hi hj => e i j (List.mem_cons_of_mem _ hi) (List.mem_cons_of_mem _ hj)) h2⟩
    rw [e y x (by simp) (by simp)]; exact h1

theorem S_upd_row {n : Nat} (g : Nat → Nat → Int) {x y : Nat} (hy : y < n) (v : Int) (a : Nat) : S n (fun b => updG g x y v a b) = S n (fun b => g a b) + (if a = x then v - g x y else 0) := by
  by_cases e : a = x
  · subst e
    rw [S_congr (g := fun b => g a b + (if b = y then v - g a y else 0))]
    · rw [S_add, S_single _ _ _ hy]; simp
    · intro b _
      unfold updG
      by_cases e2 : b = y
      · subst e2; simp; omega
      · simp [e2]
  · simp only [e, if_false, Int.add_zero]
    apply S_congr
    intro b _
    unfold updG
    simp [e]

theorem S_upd_col {n : Nat} (g : Nat → Nat → Int) {x y : Nat} (hx : x < n) (v : Int) (a : Nat) : S n (fun b => updG g x y v b a) = S n (fun b => g b a) + (if a = y then v - g x y else 0) := by
  by_cases e : a = y
  · subst e
    rw [S_congr (g := fun b => g b a + (if b = x then v - g x a else 0))]
    · rw [S_add, S_single _ _ _ hx]; simp
    · intro b _
      unfold updG
      by_cases e2 : b = x
      · subst e2; simp; omega
      · simp [e2]
  · simp only [e, if_false, Int.add_zero]
    apply S_congr
    intro b _
    unfold updG
    simp [e]

theorem push_net {n : Nat} (g : Nat → Nat → Int) (k : Int) {x y : Nat} (hx : x < n) (hy : y < n) (a : Nat) :
    net n (push k g (x, y)) a = net n g a + (if a = x then k else 0) - (if a = y then k else 0) := by
  unfold push net
  simp only
  split
  · rw [S_upd_row g hx, S_upd_col g hy]
    split <;> split <;> omega
  · rw [S_upd_row g hy, S_upd_col g hx]
    split <;> split <;> omega

theorem push_else (g : Nat → Nat → Int) (k : Int) {x y i j : Nat} (h : (i ≠ x ∧ j ≠ x) ∨ (i ≠ y ∧ j ≠ y)) : push k g (x, y) i j = g i j := by
  unfold push updG
  simp only
  split
  · dsimp only; rw [if_neg]; rintro ⟨rfl, rfl⟩; rcases h with h | h
    · exact h.2 rfl
    · exact h.1 rfl
  · dsimp only; rw [if_neg]; rintro ⟨rfl, rfl⟩; rcases h with h | h
    · exact h.1 rfl
    · exact h.2 rfl

structure Sent (f : Field) (g g' : Nat → Nat → Int) (d : Nat → Int) (k : Int) (x z : Nat) : Prop where
  nn : ∀ a b, 0 ≤ g' a b
  nets : ∀ a, net (f.w * f.h) g' a = net (f.w * f.h) g a + (if a = x then k else 0) - (if a = z then k else 0)
  pos : ∀ a b, 0 < g' a b → 0 < g a b ∨ (a < f.w * f.h ∧ b ∈ near f.w f.h a ∧ d b = d a + 1)

theorem send_path {f : Field} (hv : V f) {d : Nat → Int} {k : Int} (hk : 0 ≤ k) : ∀ (r : List Nat) (x z : Nat) (g : Nat → Nat → Int),
    (x :: r).getLast? = some z → (x :: r).Nodup → OnPath f g d (x :: r) → Spare g k (x :: r) → (∀ a b, 0 ≤ g a b) →
    Sent f g ((pairs (x :: r)).foldl (push k) g) d k x z
  | [], x, z, g, hz, _, _, _, hn => by
    have e : x = z := by simpa using hz
    subst e
    refine ⟨hn, fun a => ?_, fun a b h => Or.inl h⟩
    show net _ g a = _
    omega
  | y :: r, x, z, g, hz, hd, hp, hs, hn => by
    obtain ⟨hx, hxy, hdt, hp2⟩ := hp
    obtain ⟨hs1, hs2⟩ := hs
    have hy := (near_lt hv hx hxy).1
    have hdn := List.nodup_cons.1 hd
    have hag : ∀ i j, i ∈ y :: r → j ∈ y :: r → push k g (x, y) i j = g i j := by
      intro i j hi hj
      refine push_else g k (Or.inl ⟨?_, ?_⟩)
      · rintro rfl; exact hdn.1 hi
      · rintro rfl; exact hdn.1 hj
    have hn' : ∀ a b, 0 ≤ push k g (x, y) a b := by
      intro a b
      unfold push updG
      simp only
      split
      · rename_i h0
        have := hs1 h0
        dsimp only
        split
        · omega
        · exact hn a b
      · have := hn x y
        dsimp only
        split
        · omega
        · exact hn a b
    have ih := send_path hv hk r y z (push k g (x, y)) (by rw [List.getLast?_cons_cons] at hz; exact hz) hdn.2 (hp2.congr hag) (hs2.congr hag) hn'
    have e : (pairs (x :: y :: r)).foldl (push k) g = (pairs (y :: r)).foldl (push k) (push k g (x, y)) := rfl
    rw [e]
    refine ⟨ih.nn, ?_, ?_⟩
    · intro a
      rw [ih.nets a, push_net g k hx hy]
      omega
    · intro a b h
      rcases ih.pos a b h with h1 | h1
      · unfold push updG at h1
        simp only at h1
        split at h1
        · rename_i h0
          dsimp only at h1
          split at h1
          · rename_i e2; obtain ⟨rfl, rfl⟩ := e2; exact Or.inl h0
          · exact Or.inl h1
        · rename_i h0
          dsimp only at h1
          split at h1
          · rename_i e2
            obtain ⟨rfl, rfl⟩ := e2
            right
            refine ⟨hx, hxy, ?_⟩
            unfold sc at hdt
            rw [if_neg h0] at hdt
            exact hdt
          · exact Or.inl h1
      · exact Or.inr h1

/-- the prices that the search finds still show that the moves are the cheapest -/
theorem Sent.pot {f : Field} (hv : V f) {g g' : Nat → Nat → Int} {d : Nat → Int} {k : Int} {x z : Nat} (h : Sent f g g' d k x z) (hp : Pot f g d) : Pot f g' d := by
  intro a b ha hb
  have h1 := hp a b ha hb
  have hbl := (near_lt hv ha hb).1
  have hsym := near_symm ⟨hv.w1, hv.w4⟩ ha hb
  have h2 := hp b a hbl hsym
  unfold sc at h1 ⊢
  by_cases e : 0 < g' b a
  · rw [if_pos e]
    rcases h.pos b a e with h3 | ⟨_, _, h3⟩
    · rw [if_pos h3] at h1; exact h1
    · omega
  · rw [if_neg e]
    split at h1 <;> omega

/-- moves that are the cheapest: what they cost by the prices -/
theorem cost_by_prices {f : Field} (hv : V f) {g : Nat → Nat → Int} {p : Nat → Int} (hp : Pot f g p) (hn : ∀ a b, 0 ≤ g a b) (hadj : ∀ a b, a < f.w * f.h → b < f.w * f.h → 0 < g a b → b ∈ near f.w f.h a) :
    S (f.w * f.h) (fun a => S (f.w * f.h) (fun b => g a b)) = S (f.w * f.h) (fun a => (- p a) * net (f.w * f.h) g a) := by
  have e : ∀ a b, a < f.w * f.h → b < f.w * f.h → g a b = g a b * (p b - p a) := by
    intro a b ha hb
    by_cases h0 : 0 < g a b
    · have h1 := hadj a b ha hb h0
      have h2 := hp a b ha h1
      have h3 := hp b a hb (near_symm ⟨hv.w1, hv.w4⟩ ha h1)
      unfold sc at h2 h3
      rw [if_pos h0] at h3
      have : p b - p a = 1 := by split at h2 <;> omega
      rw [this]; omega
    · have : g a b = 0 := by have := hn a b; omega
      rw [this]; omega
  have e1 : S (f.w * f.h) (fun a => S (f.w * f.h) (fun b => g a b)) = S (f.w * f.h) (fun a => S (f.w * f.h) (fun b => g a b * p b)) - S (f.w * f.h) (fun a => S (f.w * f.h) (fun b => g a b * p a)) := by
    rw [← S_sub]
    apply S_congr; intro a ha
    rw [← S_sub]
    apply S_congr; intro b hb
    rw [← Int.mul_sub]; exact e a b ha hb
  rw [e1, S_swap, ← S_sub]
  apply S_congr
  intro a _
  rw [S_mulR, S_mulR]
  unfold net
  rw [← Int.sub_mul, Int.mul_comm, Int.neg_mul, ← Int.mul_neg]
  congr 1
  show _ - S (f.w * f.h) (fun b => g a b) = _
  omega

/-- no moves that bring about the same are worth less by any prices -/
theorem cost_weak {f : Field} {g : Nat → Nat → Int} {q : Nat → Int} (hq : ∀ a b, a < f.w * f.h → b ∈ near f.w f.h a → q a - q b ≤ 1) (hn : ∀ a b, 0 ≤ g a b) (hadj : ∀ a b, a < f.w * f.h → b < f.w * f.h → 0 < g a b → b ∈ near f.w f.h a) :
    S (f.w * f.h) (fun a => q a * net (f.w * f.h) g a) ≤ S (f.w * f.h) (fun a => S (f.w * f.h) (fun b => g a b)) := by
  have e1 : S (f.w * f.h) (fun a => q a * net (f.w * f.h) g a) = S (f.w * f.h) (fun a => S (f.w * f.h) (fun b => g a b * q a)) - S (f.w * f.h) (fun a => S (f.w * f.h) (fun b => g a b * q b)) := by
    rw [S_swap (fun a b => g a b * q b), ← S_sub]
    apply S_congr
    intro a _
    rw [S_mulR, S_mulR]
    unfold net
    rw [← Int.sub_mul, Int.mul_comm]
  rw [e1, ← S_sub]
  apply S_le
  intro a ha
  rw [← S_sub]
  apply S_le
  intro b hb
  rw [← Int.mul_sub]
  by_cases h0 : 0 < g a b
  · have h1 := hq a b ha (hadj a b ha hb h0)
    have := Int.mul_le_mul_of_nonneg_left h1 (hn a b)
    omega
  · have : g a b = 0 := by have := hn a b; omega
    rw [this]; omega

/-- **what the program finds is the specification's least** -/
theorem haul_least {f : Field} (hv : V f) {g : Nat → Nat → Int} {p : Nat → Int} (hp : Pot f g p) (hn : ∀ a b, 0 ≤ g a b) (hadj : ∀ a b, a < f.w * f.h → b < f.w * f.h → 0 < g a b → b ∈ near f.w f.h a)
    {o : Int} (ho : o = S (f.w * f.h) (fun s => (level f s : Int) - wanted f s))
    (hnet : ∀ a, a < f.w * f.h → net (f.w * f.h) g a = (level f a : Int) - wanted f a - (if a = 0 then o else 0)) :
    (if 0 < o then o * f.take_ else - o * f.bring) + S (f.w * f.h) (fun a => S (f.w * f.h) (fun b => g a b)) = (least f : Int) := by
  have hf := hv.pos
  have hD : ∀ q : Nat → Int, S (f.w * f.h) (fun a => q a * net (f.w * f.h) g a) = D f q - q 0 * o := by
    intro q
    rw [S_congr (g := fun a => q a * ((level f a : Int) - wanted f a) - (if a = 0 then q 0 * o else 0))]
    · rw [S_sub, S_single _ _ _ hf]; rfl
    · intro a ha
      rw [hnet a ha]
      by_cases e : a = 0
      · subst e; simp only [if_true]; rw [Int.mul_sub]
      · simp only [e, if_false]; rw [Int.mul_sub]; omega
  -- from below
  have hge : ∀ q, Feas f q → D f q ≤ (if 0 < o then o * f.take_ else - o * f.bring) + S (f.w * f.h) (fun a => S (f.w * f.h) (fun b => g a b)) := by
    intro q hq
    have h1 := cost_weak (f := f) (g := g) (q := q) (fun a b ha hb => by
      have h2 := near_lt hv ha hb
      have := hq.lip a b ha h2.1
      rw [h2.2.2.1] at this; exact this) hn hadj
    rw [hD] at h1
    have h2 : q 0 * o ≤ (if 0 < o then o * (f.take_ : Int) else - o * f.bring) := by
      have hi := hq.hi
      have lo := hq.lo
      split
      · have := Int.mul_le_mul_of_nonneg_left hi (show 0 ≤ o by omega)
        rw [Int.mul_comm]; exact this
      · have := Int.mul_le_mul_of_nonneg_left (show - q 0 ≤ (f.bring : Int) by omega) (show 0 ≤ - o by omega)
        rw [Int.neg_mul_neg, Int.mul_comm] at this; exact this
    omega
  -- from above: the prices, shifted so that the gate's is right
  have hex : ∃ q, Feas f q ∧ D f q = (if 0 < o then o * f.take_ else - o * f.bring) + S (f.w * f.h) (fun a => S (f.w * f.h) (fun b => g a b)) := by
    refine ⟨fun a => - p a + (p 0 + (if 0 < o then (f.take_ : Int) else - f.bring)), ⟨?_, ?_, ?_⟩, ?_⟩
    · intro a b ha hb
      have := hp.lip hv ha hb
      omega
    · split <;> omega
    · split <;> omega
    · have h1 := cost_by_prices hv hp hn hadj
      have h2 := hD (fun a => - p a + (p 0 + (if 0 < o then (f.take_ : Int) else - f.bring)))
      have h3 : S (f.w * f.h) (fun a => net (f.w * f.h) g a) = 0 := by
        unfold net
        rw [S_sub, S_swap]; omega
      rw [S_congr (g := fun a => (- p a) * net (f.w * f.h) g a + (p 0 + (if 0 < o then (f.take_ : Int) else - f.bring)) * net (f.w * f.h) g a) (fun a _ => Int.add_mul _ _ _), S_add, S_mulL, h3, Int.mul_zero, Int.add_zero, ← h1] at h2
      rw [h2]
      have h4 : (- p 0 + (p 0 + (if 0 < o then (f.take_ : Int) else - f.bring))) * o = (if 0 < o then o * (f.take_ : Int) else - o * f.bring) := by
        rw [show - p 0 + (p 0 + (if 0 < o then (f.take_ : Int) else - f.bring)) = (if 0 < o then (f.take_ : Int) else - f.bring) by omega]
        split
        · exact Int.mul_comm _ _
        · rw [Int.neg_mul, Int.neg_mul, Int.mul_comm]
      omega
  obtain ⟨q, hq, eq⟩ := hex
  obtain ⟨q2, hq2, eq2⟩ := least_strong f hf
  have l1 := least_weak f hf hq
  have l2 := hge q2 hq2
  omega
end EM
namespace EM
open Kp218

/-- how many numbers each call takes -/
def argc : List Nat := [4, 2, 2, 1, 0, 0, 1, 0, 3, 1, 1, 2, 0, 0, 1, 0]

theorem shape_some {p : Int} {x : Nat × Nat} (h : PyKp218.shape p = some x) : ∃ k : Nat, k < 16 ∧ p = (k : Int) ∧ x = (argc.getD k 0, 0) := by
  unfold PyKp218.shape at h
  by_cases c0 : p = 0
  · rw [c0] at h; exact ⟨0, by decide, c0, (Option.some.inj h).symm⟩
  by_cases c1 : p = 1
  · rw [c1] at h; exact ⟨1, by decide, c1, (Option.some.inj h).symm⟩
  by_cases c2 : p = 2
  · rw [c2] at h; exact ⟨2, by decide, c2, (Option.some.inj h).symm⟩
  by_cases c3 : p = 3
  · rw [c3] at h; exact ⟨3, by decide, c3, (Option.some.inj h).symm⟩
  by_cases c4 : p = 4
  · rw [c4] at h; exact ⟨4, by decide, c4, (Option.some.inj h).symm⟩
  by_cases c5 : p = 5
  · rw [c5] at h; exact ⟨5, by decide, c5, (Option.some.inj h).symm⟩
  by_cases c6 : p = 6
  · rw [c6] at h; exact ⟨6, by decide, c6, (Option.some.inj h).symm⟩
  by_cases c7 : p = 7
  · rw [c7] at h; exact ⟨7, by decide, c7, (Option.some.inj h).symm⟩
  by_cases c8 : p = 8
  · rw [c8] at h; exact ⟨8, by decide, c8, (Option.some.inj h).symm⟩
  by_cases c9 : p = 9
  · rw [c9] at h; exact ⟨9, by decide, c9, (Option.some.inj h).symm⟩
  by_cases c10 : p = 10
  · rw [c10] at h; exact ⟨10, by decide, c10, (Option.some.inj h).symm⟩
  by_cases c11 : p = 11
  · rw [c11] at h; exact ⟨11, by decide, c11, (Option.some.inj h).symm⟩
  by_cases c12 : p = 12
  · rw [c12] at h; exact ⟨12, by decide, c12, (Option.some.inj h).symm⟩
  by_cases c13 : p = 13
  · rw [c13] at h; exact ⟨13, by decide, c13, (Option.some.inj h).symm⟩
  by_cases c14 : p = 14
  · rw [c14] at h; exact ⟨14, by decide, c14, (Option.some.inj h).symm⟩
  by_cases c15 : p = 15
  · rw [c15] at h; exact ⟨15, by decide, c15, (Option.some.inj h).symm⟩
  rw [if_neg c0, if_neg c1, if_neg c2, if_neg c3, if_neg c4, if_neg c5, if_neg c6, if_neg c7, if_neg c8, if_neg c9, if_neg c10, if_neg c11, if_neg c12, if_neg c13, if_neg c14, if_neg c15] at h
  cases h

/-- the first call of a list that is read to its end -/
theorem calls_cons {fuel : Nat} {p : Int} {r : List Int} {cs : List (List (List Int))} (h : PyFlat.calls PyKp218.shape (fuel + 1) (p :: r) = some cs) :
    ∃ k : Nat, k < 16 ∧ p = (k : Int) ∧ argc.getD k 0 ≤ r.length ∧ ∃ cs', cs = [p :: r.take (argc.getD k 0)] :: cs' ∧ PyFlat.calls PyKp218.shape fuel (r.drop (argc.getD k 0)) = some cs' := by
  unfold PyFlat.calls at h
  cases hc : PyFlat.call PyKp218.shape (p :: r) with
  | none => rw [hc] at h; cases h
  | some ct =>
    obtain ⟨c, t⟩ := ct
    rw [hc] at h
    simp only at h
    cases hr : PyFlat.calls PyKp218.shape fuel t with
    | none => rw [hr] at h; cases h
    | some cs' =>
      rw [hr] at h
      injection h with h
      unfold PyFlat.call at hc
      simp only at hc
      cases hs : PyKp218.shape p with
      | none => rw [hs] at hc; cases hc
      | some x =>
        obtain ⟨k, hk, rfl, rfl⟩ := shape_some hs
        rw [hs] at hc
        simp only [PyFlat.rows] at hc
        split at hc
        · cases hc
        · rename_i hl
          injection hc with hc
          injection hc with h1 h2
          subst h1; subst h2
          exact ⟨k, hk, rfl, by omega, cs', h.symm, hr⟩

theorem calls_nil (fuel : Nat) : PyFlat.calls PyKp218.shape fuel [] = some [] := by
  cases fuel <;> rfl

/-- one call, as the machine of the document takes it -/
def act (s : State) (c : List (List Int)) : State × List Int := Kp218Neutral.step s (PyKp218.whole c)
def said (y : State × Ans) : State × List Int := (y.1, y.2.num :: y.2.nums)

theorem act_begin (s : State) (a b c d : Int) : act s [[0, a, b, c, d]] = said (step s (.begin_ a.toNat b.toNat c.toNat d.toNat)) := rfl
theorem act_ground (s : State) (a b : Int) : act s [[1, a, b]] = said (step s (.ground a.toNat b.toNat)) := rfl
theorem act_want (s : State) (a b : Int) : act s [[2, a, b]] = said (step s (.want a.toNat b.toNat)) := rfl
theorem act_look (s : State) (a : Int) : act s [[3, a]] = said (step s (.look a.toNat)) := rfl
theorem act_sums (s : State) : act s [[4]] = said (step s .sums) := rfl
theorem act_least (s : State) : act s [[5]] = said (step s .least) := rfl
theorem act_worth (s : State) (a : Int) : act s [[6, a]] = said (step s (.worth a.toNat)) := rfl
theorem act_flat (s : State) : act s [[7]] = said (step s .flat) := rfl
theorem act_move (s : State) (a b c : Int) : act s [[8, a, b, c]] = said (step s (.move a.toNat b.toNat c.toNat)) := rfl
theorem act_bring (s : State) (a : Int) : act s [[9, a]] = said (step s (.bring a.toNat)) := rfl
theorem act_take (s : State) (a : Int) : act s [[10, a]] = said (step s (.take_ a.toNat)) := rfl
theorem act_wise (s : State) (a b : Int) : act s [[11, a, b]] = said (step s (.wise a.toNat b.toNat)) := rfl
theorem act_next (s : State) : act s [[12]] = said (step s .next) := rfl
theorem act_done (s : State) : act s [[13]] = said (step s .done) := rfl
theorem act_steep (s : State) (a : Int) : act s [[14, a]] = said (step s (.steep a.toNat)) := rfl
theorem act_state (s : State) : act s [[15]] = said (step s .state) := rfl

/-- what is answered to the calls that are still to come -/
def rest (s : State) (cs : List (List (List Int))) : List Int := PyFlat.told (PyFlat.played Kp218Neutral.step s (cs.map PyKp218.whole))
theorem rest_nil (s : State) : rest s [] = [] := rfl
theorem rest_cons (s : State) (c : List (List Int)) (cs : List (List (List Int))) : rest s (c :: cs) = ((act s c).2.length : Int) :: ((act s c).2 ++ rest (act s c).1 cs) := by
  unfold rest act PyFlat.told
  rw [List.map_cons, PyFlat.played, List.flatMap_cons]
  rfl

theorem answers_rest {l : List Int} (h : PyKp218.answers_asked l = true) : ∃ cs, PyFlat.calls PyKp218.shape l.length l = some cs ∧ PyKp218.answers l = rest none cs ∧ cs.length ≤ 80 ∧ (PyKp218.answers l).length ≤ 10000000 := by
  unfold PyKp218.answers_asked at h
  cases hc : PyFlat.calls PyKp218.shape l.length l with
  | none => rw [hc] at h; cases h
  | some cs =>
    rw [hc] at h
    refine ⟨cs, rfl, ?_, ?_, ?_⟩
    · unfold PyKp218.answers PyKp218.calls
      rw [hc]; rfl
    · simp only [Bool.and_eq_true, PyFlat.atMost, decide_eq_true_eq] at h
      exact h.1.1.1.2
    · simp only [Bool.and_eq_true, PyFlat.short, decide_eq_true_eq] at h
      exact h.2

/-- a state that can be come to -/
def Vs : State → Prop
  | none => True
  | some f => V f

theorem V.setLevel {f : Field} (h : V f) (s v : Nat) : V (setLevel f s v) := ⟨h.w1, h.w4, h.h1, h.h4, by unfold Kp218.setLevel; simp [h.g], h.q, h.b1, h.b2, h.t1, h.t2⟩
theorem V.setWant {f : Field} (h : V f) (s v : Nat) : V { f with want := f.want.set s v } := ⟨h.w1, h.w4, h.h1, h.h4, h.g, by simp [h.q], h.b1, h.b2, h.t1, h.t2⟩
theorem V.allWant {f : Field} (h : V f) (l : Nat) : V { f with want := List.replicate (f.w * f.h) l } := ⟨h.w1, h.w4, h.h1, h.h4, h.g, by simp, h.b1, h.b2, h.t1, h.t2⟩
theorem V.moved {f : Field} (h : V f) (s t n : Nat) : V (moved f s t n) := ⟨h.w1, h.w4, h.h1, h.h4, by unfold Kp218.moved Kp218.setLevel; simp [h.g], h.q, h.b1, h.b2, h.t1, h.t2⟩
theorem V.brought {f : Field} (h : V f) (n : Nat) : V (brought f n) := ⟨h.w1, h.w4, h.h1, h.h4, by unfold Kp218.brought Kp218.setLevel; simp [h.g], h.q, h.b1, h.b2, h.t1, h.t2⟩
theorem V.taken {f : Field} (h : V f) (n : Nat) : V (taken f n) := ⟨h.w1, h.w4, h.h1, h.h4, by unfold Kp218.taken Kp218.setLevel; simp [h.g], h.q, h.b1, h.b2, h.t1, h.t2⟩
theorem V.begin {w h b t : Nat} (hg : good w h b t = true) : V ⟨w, h, List.replicate (w * h) 0, List.replicate (w * h) 0, b, t, 0⟩ := by
  unfold good at hg
  simp only [Bool.and_eq_true, decide_eq_true_eq] at hg
  obtain ⟨⟨⟨⟨⟨⟨⟨h1, h2⟩, h3⟩, h4⟩, h5⟩, h6⟩, h7⟩, h8⟩ := hg
  exact ⟨h1, h2, h3, h4, by simp, by simp, h5, h6, h7, h8⟩

theorem step_V {s : State} (h : Vs s) (c : Call) : Vs (step s c).1 := by
  cases c with
  | begin_ w hh b t =>
    show Vs (if good w hh b t then _ else _ : State × Ans).1
    split
    · rename_i hg; exact V.begin hg
    · exact h
  | _ =>
    cases s with
    | none => trivial
    | some f =>
      have hf : V f := h
      simp only [step]
      repeat' split
      all_goals first
        | exact hf
        | exact hf.setLevel _ _
        | exact hf.setWant _ _
        | exact hf.moved _ _ _
        | exact hf.brought _
        | exact hf.taken _
end EM
namespace EM
open Kp218
/-- the first of the least, as the specification finds it -/
theorem flat_fold (F : Nat → Nat) : ∀ k, ∃ j, ((List.range k).map fun l => (l, F l)).foldl (fun (b x : Nat × Nat) => if x.2 < b.2 then x else b) (0, F 0) = (j, F j) ∧ (j < k ∨ j = 0) ∧ (∀ i, i < k → F j ≤ F i) ∧ (∀ i, i < j → F j < F i)
  | 0 => ⟨0, rfl, Or.inr rfl, fun i h => by omega, fun i h => by omega⟩
  | k + 1 => by
    obtain ⟨j, h1, h2, h3, h4⟩ := flat_fold F k
    rw [List.range_succ, List.map_append, List.foldl_append, h1]
    simp only [List.map_cons, List.map_nil, List.foldl_cons, List.foldl_nil]
    by_cases c : F k < F j
    · rw [if_pos c]
      refine ⟨k, rfl, Or.inl (by omega), fun i hi => ?_, fun i hi => ?_⟩
      · by_cases e : i = k
        · subst e; exact Nat.le_refl _
        · have := h3 i (by omega); omega
      · have := h3 i hi; omega
    · rw [if_neg c]
      refine ⟨j, rfl, ?_, fun i hi => ?_, h4⟩
      · rcases h2 with h2 | h2
        · left; omega
        · right; exact h2
      · by_cases e : i = k
        · subst e; omega
        · exact h3 i (by omega)
theorem flat_is (f : Field) (j m : Nat) (hj : j < 51) (hm : flatAt f j = m) (hmin : ∀ i, i < 51 → m ≤ flatAt f i) (hfirst : ∀ i, i < j → flatAt f i ≠ m) : Kp218.flat f = (j, m) := by
  obtain ⟨j2, h1, h2, h3, h4⟩ := flat_fold (flatAt f) 51
  have e : Kp218.flat f = (j2, flatAt f j2) := h1
  rw [e]
  have hj2 : j2 < 51 := by rcases h2 with h | h <;> omega
  have a1 := hmin j2 hj2
  have a2 := h3 j hj
  have e2 : flatAt f j2 = m := by omega
  have e3 : j2 = j := by
    rcases Nat.lt_trichotomy j2 j with h | h | h
    · exact absurd e2 (hfirst j2 h)
    · exact h
    · have := h4 j h; omega
  rw [e3, hm]
/-- what is too high, too low, summed up by tests -/
theorem sum_filter (p : Int → Bool) (g : Int → Int) : ∀ l : List Int, ((l.filter p).map g).sum = sumI (l.map fun e => if p e then g e else 0)
  | [] => rfl
  | x :: l => by
    rw [List.filter_cons, List.map_cons, sumI]
    by_cases h : p x = true
    · rw [if_pos h, if_pos h, List.map_cons, List.sum_cons, sum_filter p g l]
    · rw [if_neg h, if_neg h, sum_filter p g l]; omega
theorem high_sum (f : Field) : ((((List.range (f.w * f.h)).map fun s => (level f s : Int) - (f.want.getD s 0 : Nat)).filter fun e => decide (0 < e)).map fun e => e).sum = (cut f : Int) := by
  rw [sum_filter, List.map_map, sumI_range, cut_eq]
  apply S_congr
  intro s _
  show (if decide (0 < (level f s : Int) - (wanted f s : Nat)) = true then (level f s : Int) - (wanted f s : Nat) else 0) = _
  unfold over
  by_cases h : 0 < (level f s : Int) - (wanted f s : Nat)
  · rw [if_pos (decide_eq_true h)]; omega
  · rw [if_neg (by simpa using h)]; omega
theorem low_sum (f : Field) : ((((List.range (f.w * f.h)).map fun s => (level f s : Int) - (f.want.getD s 0 : Nat)).filter fun e => decide (e < 0)).map fun e => -e).sum = (fill f : Int) := by
  rw [sum_filter, List.map_map, sumI_range, fill_eq]
  apply S_congr
  intro s _
  show (if decide ((level f s : Int) - (wanted f s : Nat) < 0) = true then -((level f s : Int) - (wanted f s : Nat)) else 0) = _
  unfold under
  by_cases h : (level f s : Int) - (wanted f s : Nat) < 0
  · rw [if_pos (decide_eq_true h)]; omega
  · rw [if_neg (by simpa using h)]; omega
end EM
namespace EM
open Kp218
/-- all is as wanted just where the two lists are one -/
theorem done_iff {f : Field} (hv : V f) : done f = true ↔ f.ground = f.want := by
  unfold done
  simp only [Bool.and_eq_true, beq_iff_eq]
  constructor
  · rintro ⟨h1, h2⟩
    have e1 := cut_eq f
    have e2 := fill_eq f
    apply List.ext_getElem
    · rw [hv.g, hv.q]
    · intro s hs1 hs2
      have hs : s < f.w * f.h := by rw [← hv.g]; exact hs1
      have a1 := S_term (f := fun s => (over f s : Int)) (n := f.w * f.h) (fun k _ => by omega) hs
      have a2 := S_term (f := fun s => (under f s : Int)) (n := f.w * f.h) (fun k _ => by omega) hs
      have l : level f s = f.ground[s] := by unfold level; simp [List.getD, hs1]
      have q : wanted f s = f.want[s] := by unfold wanted; simp [List.getD, hs2]
      rw [← e1, h1] at a1
      rw [← e2, h2] at a2
      unfold over at a1
      unfold under at a2
      rw [l, q] at a1 a2
      omega
  · intro e
    have hz : ∀ s, over f s = 0 ∧ under f s = 0 := by
      intro s
      unfold over under level wanted
      rw [e]; omega
    have e1 := cut_eq f
    have e2 := fill_eq f
    rw [S_congr (g := fun _ => 0) (fun s _ => by rw [(hz s).1]; rfl), S_zero] at e1
    rw [S_congr (g := fun _ => 0) (fun s _ => by rw [(hz s).2]; rfl), S_zero] at e2
    omega
/-- square by square, one that is not as wanted -/
theorem done_all {f : Field} : done f = true ↔ ∀ s, s < f.w * f.h → level f s = wanted f s := by
  unfold done
  simp only [Bool.and_eq_true, beq_iff_eq]
  have e1 := cut_eq f
  have e2 := fill_eq f
  constructor
  · rintro ⟨h1, h2⟩ s hs
    have a1 := S_term (f := fun s => (over f s : Int)) (n := f.w * f.h) (fun k _ => by omega) hs
    have a2 := S_term (f := fun s => (under f s : Int)) (n := f.w * f.h) (fun k _ => by omega) hs
    rw [← e1, h1] at a1
    rw [← e2, h2] at a2
    unfold over at a1
    unfold under at a2
    omega
  · intro h
    rw [S_congr (g := fun _ => 0) (fun s hs => by unfold over; rw [h s hs]; omega), S_zero] at e1
    rw [S_congr (g := fun _ => 0) (fun s hs => by unfold under; rw [h s hs]; omega), S_zero] at e2
    omega
end EM
set_option linter.all false
namespace EM
open Kp218
/-- the square beside, as the program finds it -/
def sqB (w h s d : Nat) : Option Nat :=
  if d = 0 then (if w ≤ s then some (s - w) else none)
  else if d = 1 then (if s % w + 1 < w then some (s + 1) else none)
  else if d = 2 then (if s + w < w * h then some (s + w) else none)
  else (if 0 < s % w then some (s - 1) else none)
theorem sqB_beside {f : Field} (hv : V f) {s : Nat} (hs : s < f.w * f.h) (d : Nat) : sqB f.w f.h s d = beside f s d := by
  have h1 := hv.w1
  have e0 : f.w ≤ s ↔ ¬ s / f.w = 0 := by
    rw [Nat.div_eq_zero_iff]
    generalize f.w = w at *
    omega
  have e2 : s + f.w < f.w * f.h ↔ s / f.w + 1 < f.h := by
    rw [← Nat.add_div_right s (by omega : 0 < f.w)]
    rw [Nat.div_lt_iff_lt_mul (by omega), Nat.mul_comm]
  unfold sqB beside
  match d with
  | 0 =>
    simp only [if_true]
    by_cases c : s / f.w = 0
    · rw [if_pos c, if_neg (fun z => e0.1 z c)]
    · rw [if_neg c, if_pos (e0.2 c)]
  | 1 => simp
  | 2 =>
    simp only [show ¬ (2 : Nat) = 0 by omega, show ¬ (2 : Nat) = 1 by omega, if_false, if_true]
    by_cases c : s + f.w < f.w * f.h
    · rw [if_pos c, if_pos (e2.1 c)]
    · rw [if_neg c, if_neg (fun z => c (e2.2 z))]
  | d + 3 =>
    simp only [show ¬ (d + 3 : Nat) = 0 by omega, show ¬ (d + 3 : Nat) = 1 by omega, show ¬ (d + 3 : Nat) = 2 by omega, if_false]
    by_cases c : s % f.w = 0
    · rw [if_pos c, if_neg (by omega)]
    · rw [if_neg c, if_pos (by omega)]
theorem near_sqB (w h s : Nat) : near w h s = ((List.range 4).map (sqB w h s)).filterMap id := by
  have e : List.range 4 = [0, 1, 2, 3] := by decide
  have s0 : sqB w h s 0 = if w ≤ s then some (s - w) else none := rfl
  have s1 : sqB w h s 1 = if s % w + 1 < w then some (s + 1) else none := rfl
  have s2 : sqB w h s 2 = if s + w < w * h then some (s + w) else none := rfl
  have s3 : sqB w h s 3 = if 0 < s % w then some (s - 1) else none := rfl
  rw [e]
  simp only [List.map_cons, List.map_nil, s0, s1, s2, s3]
  unfold near
  split <;> split <;> split <;> split <;> rfl

/-! next -/
theorem find_first {p : Nat → Bool} {d : Nat} (hd : d < 4) (hw : p d = true) (hb : ∀ d', d' < d → p d' = false) : [0, 1, 2, 3].find? p = some d := by
  have : d = 0 ∨ d = 1 ∨ d = 2 ∨ d = 3 := by omega
  rcases this with rfl | rfl | rfl | rfl
  · simp [List.find?, hw]
  · simp [List.find?, hw, hb 0 (by omega)]
  · simp [List.find?, hw, hb 0 (by omega), hb 1 (by omega)]
  · simp [List.find?, hw, hb 0 (by omega), hb 1 (by omega), hb 2 (by omega)]
theorem find_no {p : Nat → Bool} (hb : ∀ d', d' < 4 → p d' = false) : [0, 1, 2, 3].find? p = none := by
  simp [List.find?, hb 0 (by omega), hb 1 (by omega), hb 2 (by omega), hb 3 (by omega)]
theorem range_split {n s : Nat} (h : s < n) : List.range n = List.range s ++ s :: (List.range (n - s - 1)).map (· + (s + 1)) := by
  apply List.ext_getElem
  · simp; omega
  · intro i h1 h2
    simp at h1
    by_cases c : i < s
    · rw [List.getElem_append_left (by simpa using c)]; simp
    · rw [List.getElem_append_right (by simpa using c)]
      simp only [List.length_range, List.getElem_range]
      rw [List.getElem_cons]
      split
      · omega
      · simp; omega
theorem next_found {f : Field} (hv : V f) (hd : done f = false) {s d : Nat} (hs : s < f.w * f.h) (hd4 : d < 4) (hw : wiseBy f (least f) s d = true)
    (hb : ∀ s', s' < s → ∀ d', d' < 4 → wiseBy f (least f) s' d' = false) (hb2 : ∀ d', d' < d → wiseBy f (least f) s d' = false) : next f = some (s, d) := by
  rw [next_eq hv hd]
  have h1 : (squares f).findSome? (fun s => ([0, 1, 2, 3].find? (wiseBy f (least f) s)).map fun d => (s, d)) = some (s, d) := by
    unfold squares
    rw [range_split hs, List.findSome?_append]
    have : (List.range s).findSome? (fun s => ([0, 1, 2, 3].find? (wiseBy f (least f) s)).map fun d => (s, d)) = none := by
      rw [List.findSome?_eq_none_iff]
      intro x hx
      rw [find_no (hb x (List.mem_range.1 hx))]; rfl
    rw [this, List.findSome?_cons, find_first hd4 hw hb2]; rfl
  rw [h1]
theorem next_none {f : Field} (hv : V f) (hd : done f = false) (hb : ∀ s', s' < f.w * f.h → ∀ d', d' < 4 → wiseBy f (least f) s' d' = false) : next f = some (0, if wiseBring f then 4 else 5) := by
  rw [next_eq hv hd]
  have h1 : (squares f).findSome? (fun s => ([0, 1, 2, 3].find? (wiseBy f (least f) s)).map fun d => (s, d)) = none := by
    unfold squares
    rw [List.findSome?_eq_none_iff]
    intro x hx
    rw [find_no (hb x (List.mem_range.1 hx))]; rfl
  rw [h1]
  by_cases c : wiseBring f = true
  · simp [c]
  · simp [c]
theorem next_done {f : Field} (hd : done f = true) : next f = none := by unfold next; rw [if_pos hd]

/-! steep -/
def steepAt (f : Field) (k s d : Nat) : List Nat := match beside f s d with
  | none => []
  | some t => if k < apart (wanted f s) (wanted f t) then [s, t] else []
def steepTo (f : Field) (k i : Nat) : List Nat := (List.range i).flatMap fun s => steepAt f k s 1 ++ steepAt f k s 2
theorem steepTo_zero (f : Field) (k : Nat) : steepTo f k 0 = [] := rfl
theorem steepTo_succ (f : Field) (k i : Nat) : steepTo f k (i + 1) = steepTo f k i ++ steepAt f k i 1 ++ steepAt f k i 2 := by
  unfold steepTo
  rw [List.range_succ, List.flatMap_append, List.flatMap_singleton, List.append_assoc]
theorem steepAt_len (f : Field) (k s d : Nat) : (steepAt f k s d).length ≤ 2 := by
  unfold steepAt
  split
  · simp
  · split <;> simp
theorem steepTo_len (f : Field) (k : Nat) : ∀ i, (steepTo f k i).length ≤ 4 * i
  | 0 => by simp [steepTo_zero]
  | i + 1 => by
    rw [steepTo_succ, List.length_append, List.length_append]
    have := steepTo_len f k i
    have := steepAt_len f k i 1
    have := steepAt_len f k i 2
    omega
theorem steep_is (f : Field) (k : Nat) : steep f k = steepTo f k (f.w * f.h) := by
  unfold steep steepTo squares
  congr 1
  funext s
  unfold steepAt
  cases h1 : beside f s 1 with
  | none => cases h2 : beside f s 2 with
    | none => simp [List.filterMap, h1, h2]
    | some t => simp [List.filterMap, h1, h2]
  | some t1 => cases h2 : beside f s 2 with
    | none => simp [List.filterMap, h1, h2]
    | some t => simp [List.filterMap, h1, h2]
theorem apart_abs (a b k : Nat) : (k : Int) < (if ((a : Int) - b) < 0 then -((a : Int) - b) else (a : Int) - b) ↔ k < apart a b := by
  unfold apart
  split <;> omega

/-! what it costs hangs on no spending -/
theorem least_spent (f : Field) (x : Nat) : least { f with spent := x } = least f := rfl
theorem least_moved (f : Field) (s t : Nat) : least (moved f s t 1) = least { f with ground := (moved f s t 1).ground } := rfl
theorem least_brought (f : Field) : least (brought f 1) = least { f with ground := (brought f 1).ground } := rfl
end EM
set_option linter.all false
namespace EM
open Kp218
theorem nat_args : ∀ l : List Int, (∀ x, x ∈ l → 0 ≤ x) → ∃ xs : List Nat, l = xs.map fun (n : Nat) => (n : Int)
  | [], _ => ⟨[], rfl⟩
  | x :: l, h => by
    obtain ⟨xs, e⟩ := nat_args l (fun y hy => h y (List.mem_cons_of_mem _ hy))
    have := h x List.mem_cons_self
    refine ⟨x.toNat :: xs, ?_⟩
    rw [List.map_cons, ← e]
    congr 1
    omega
theorem len0 {α : Type} {l : List α} (h : l.length = 0) : l = [] := List.eq_nil_of_length_eq_zero h
theorem len1 {α : Type} {l : List α} (h : l.length = 1) : ∃ a, l = [a] := match l, h with | [a], _ => ⟨a, rfl⟩
theorem len2 {α : Type} {l : List α} (h : l.length = 2) : ∃ a b, l = [a, b] := match l, h with | [a, b], _ => ⟨a, b, rfl⟩
theorem len3 {α : Type} {l : List α} (h : l.length = 3) : ∃ a b c, l = [a, b, c] := match l, h with | [a, b, c], _ => ⟨a, b, c, rfl⟩
theorem len4 {α : Type} {l : List α} (h : l.length = 4) : ∃ a b c d, l = [a, b, c, d] := match l, h with | [a, b, c, d], _ => ⟨a, b, c, d, rfl⟩
theorem act_none {k : Nat} {l : List Int} (h0 : k ≠ 0) (hk : k < 16) (hl : l.length = argc.getD k 0) : act none [(k : Int) :: l] = (none, [-11]) := by
  have : k = 1 ∨ k = 2 ∨ k = 3 ∨ k = 4 ∨ k = 5 ∨ k = 6 ∨ k = 7 ∨ k = 8 ∨ k = 9 ∨ k = 10 ∨ k = 11 ∨ k = 12 ∨ k = 13 ∨ k = 14 ∨ k = 15 := by omega
  rcases this with rfl | rfl | rfl | rfl | rfl | rfl | rfl | rfl | rfl | rfl | rfl | rfl | rfl | rfl | rfl
  · obtain ⟨a, b, rfl⟩ := len2 hl; rfl
  · obtain ⟨a, b, rfl⟩ := len2 hl; rfl
  · obtain ⟨a, rfl⟩ := len1 hl; rfl
  · obtain rfl := len0 hl; rfl
  · obtain rfl := len0 hl; rfl
  · obtain ⟨a, rfl⟩ := len1 hl; rfl
  · obtain rfl := len0 hl; rfl
  · obtain ⟨a, b, c, rfl⟩ := len3 hl; rfl
  · obtain ⟨a, rfl⟩ := len1 hl; rfl
  · obtain ⟨a, rfl⟩ := len1 hl; rfl
  · obtain ⟨a, b, rfl⟩ := len2 hl; rfl
  · obtain rfl := len0 hl; rfl
  · obtain rfl := len0 hl; rfl
  · obtain ⟨a, rfl⟩ := len1 hl; rfl
  · obtain rfl := len0 hl; rfl
end EM
set_option linter.all false
set_option maxRecDepth 100000
set_option maxHeartbeats 2000000
namespace Earth
open PySem PySem.Spec PyProof.Rows L2
def top (i : Nat) : Stmt := PySem.Challenge.pw_earthmoved_s01_answers.main.body.getD i (.Pass ⟨0, 0, 0, 0⟩)
abbrev sStep : Stmt := top 7
theorem scStep : FnScope ["moved", "a", "b"] ["moved", "a", "b"] (defScope sStep) := ⟨rfl, rfl, rfl, by decide +kernel, rfl, by decide +kernel, by decide +kernel⟩

/-- a matrix: rows of whole numbers -/
structure MatAt (H : Hp) (m : Addr) (rs : List Addr) (M : List (List Int)) : Prop where
  top : H m = some (.lst (rs.map V.ref))
  len : rs.length = M.length
  row : ∀ (i : Nat) (a : Addr) (r : List Int), rs[i]? = some a → M[i]? = some r → H a = some (.lst (r.map V.int))
  nd : rs.Nodup

def mget (M : List (List Int)) (a b : Nat) : Int := (M.getD a []).getD b 0
def Sq (n : Nat) (M : List (List Int)) : Prop := M.length = n ∧ ∀ i, i < n → (M.getD i []).length = n

theorem upd_upd {H : Hp} {p : Addr} {a b : HO} : upd (upd H p a) p b = upd H p b := by
  funext x
  by_cases e : x = p
  · subst e; rw [upd_same, upd_same]
  · rw [upd_ne e, upd_ne e, upd_ne e]
theorem upd_self {H : Hp} {p : Addr} {a : HO} (h : H p = some a) : upd H p a = H := by
  funext x
  by_cases e : x = p
  · subst e; rw [upd_same, h]
  · rw [upd_ne e]
theorem MatAt.push {H : Hp} {o p : Addr} {rs : List Addr} {M : List (List Int)} {r : List Int} (h : MatAt H o rs M) (hp : H p = none) (ho : o ∉ rs) : MatAt (upd (upd H p (.lst (r.map V.int))) o (.lst ((rs ++ [p]).map V.ref))) o (rs ++ [p]) (M ++ [r]) := by
  have hpo : p ≠ o := fun e => by rw [e, h.top] at hp; cases hp
  have hmem : ∀ a, a ∈ rs → H a ≠ none := by
    intro a ha
    obtain ⟨i, hi, rfl⟩ := List.mem_iff_getElem.1 ha
    rw [h.row i _ (M.getD i []) (List.getElem?_eq_getElem hi) (by have := h.len; simp [List.getD, show i < M.length by omega])]
    exact fun z => by cases z
  refine ⟨upd_same, by simp [h.len], ?_, ?_⟩
  · intro i a q hi hq
    have hao : a ≠ o := by
      intro e
      subst e
      have := List.mem_of_getElem? hi
      rcases List.mem_append.1 this with h1 | h1
      · exact ho h1
      · rw [List.mem_singleton] at h1; exact hpo h1.symm
    rw [upd_ne hao]
    by_cases e : i < rs.length
    · rw [List.getElem?_append_left e] at hi
      rw [List.getElem?_append_left (by rw [← h.len]; exact e)] at hq
      have := h.row i a q hi hq
      rw [upd_ne (ne_of_none this hp)]
      exact this
    · rw [List.getElem?_append_right (by omega)] at hi
      rw [List.getElem?_append_right (by rw [← h.len]; omega)] at hq
      have e2 : i - rs.length = 0 := by
        by_cases e3 : i - rs.length = 0
        · exact e3
        · rw [List.getElem?_eq_none (by simp; omega)] at hi; cases hi
      have e4 : i - M.length = 0 := by rw [← h.len]; exact e2
      rw [e2] at hi; rw [e4] at hq
      cases hi; cases hq
      exact upd_same
  · refine List.nodup_append.2 ⟨h.nd, by simp, ?_⟩
    intro a ha b hb e
    rw [List.mem_singleton] at hb
    subst hb; subst e
    exact hmem _ ha hp
theorem MatAt.same {H H' : Hp} {m : Addr} {rs : List Addr} {M : List (List Int)} (h : MatAt H m rs M) (e : Same H H') : MatAt H' m rs M :=
  ⟨e _ _ h.top, h.len, fun i a r h1 h2 => e _ _ (h.row i a r h1 h2), h.nd⟩
theorem MatAt.off {H : Hp} {o p : Addr} {rs : List Addr} {M : List (List Int)} (h : MatAt H o rs M) (hp : H p = none) : p ∉ rs := by
  intro ha
  obtain ⟨i, hi, e⟩ := List.mem_iff_getElem.1 ha
  have := h.row i p (M.getD i []) (by rw [List.getElem?_eq_getElem hi, e]) (by have := h.len; simp [List.getD, show i < M.length by omega])
  rw [hp] at this; cases this
/-- a row that stands already is put behind -/
theorem MatAt.put {H : Hp} {o p : Addr} {rs : List Addr} {M : List (List Int)} {r : List Int} (h : MatAt H o rs M) (hp : H p = some (.lst (r.map V.int))) (hpr : p ∉ rs) (hpo : p ≠ o) (ho : o ∉ rs) : MatAt (upd H o (.lst ((rs ++ [p]).map V.ref))) o (rs ++ [p]) (M ++ [r]) := by
  refine ⟨upd_same, by simp [h.len], ?_, ?_⟩
  · intro i a q hi hq
    have hao : a ≠ o := by
      intro e
      subst e
      have := List.mem_of_getElem? hi
      rcases List.mem_append.1 this with h1 | h1
      · exact ho h1
      · rw [List.mem_singleton] at h1; exact hpo h1.symm
    rw [upd_ne hao]
    by_cases e : i < rs.length
    · rw [List.getElem?_append_left e] at hi
      rw [List.getElem?_append_left (by rw [← h.len]; exact e)] at hq
      exact h.row i a q hi hq
    · rw [List.getElem?_append_right (by omega)] at hi
      rw [List.getElem?_append_right (by rw [← h.len]; omega)] at hq
      have e2 : i - rs.length = 0 := by
        by_cases e3 : i - rs.length = 0
        · exact e3
        · rw [List.getElem?_eq_none (by simp; omega)] at hi; cases hi
      have e4 : i - M.length = 0 := by rw [← h.len]; exact e2
      rw [e2] at hi; rw [e4] at hq
      cases hi; cases hq
      exact hp
  · refine List.nodup_append.2 ⟨h.nd, by simp, ?_⟩
    intro a ha b hb e
    rw [List.mem_singleton] at hb
    subst hb; subst e
    exact hpr ha
def vN (l : List Nat) : List V := l.map fun (x : Nat) => V.int (x : Int)
theorem get_int {r : List Int} {a : Nat} (h : a < r.length) : (r.map V.int)[a]? = some (.int (r.getD a 0)) := by
  simp [List.getD, h]
section
variable {P : Program} {w : World} {K : PySem.W.Frag} {mg : Str → Option Value} {base : Heap}
def spStep (K : PySem.W.Frag) : Sp := fun vs H Q _ => ∃ (m : Addr) (rs : List Addr) (M : List (List Int)) (n a b : Nat), vs = [.ref m, .int a, .int b] ∧ MatAt H m rs M ∧ Sq n M ∧ a < n ∧ b < n ∧ Q (.int (EM.sc (mget M) a b)) H

theorem ok_step {f : Addr} {fd : FuncData} {k : Nat} (F : Fun K "step_cost" "step_cost" sStep f fd) : FnOk P w K mg base CX0 (k + 1) f fd ["moved", "a", "b"] (spStep K) := by
  refine F.ok scStep (fun vs H Q E h => ?_) (fun cdv A outer s H vs Q E hr h => ?_)
  · obtain ⟨m, rs, M, n, a, b, rfl, _⟩ := h
    rfl
  · obtain ⟨m, rs, M, n, a, b, rfl, hM, hS, ha, hb, q⟩ := h
    refine ⟨_, pss_one (ps_ret (pe_ifExp (pt_cmpR op_gt (pe_ix ix_list (pe_ix ix_list (pv 0) (pv 2) (fun _ _ => rfl)) (pv 1) (fun _ _ => rfl)) pe_int (nomark _)) (pe_un un_neg pe_int) pe_int)), ?_⟩
    have hrl : b < rs.length := by rw [hM.len, hS.1]; exact hb
    have hrow := hM.row b (rs[b]) (M.getD b []) (List.getElem?_eq_getElem hrl) (by simp [List.getD, hS.1, hb])
    have hml : a < (M.getD b []).length := by rw [hS.2 b hb]; exact ha
    refine ⟨_, rfl, _, rfl, m, rs.map V.ref, _, .ref rs[b], rfl, rfl, SqL.of hM.top, atI_nat (by simp [hrl]), ?_⟩
    refine ⟨_, rfl, rs[b], _, _, .int (mget M b a), rfl, rfl, SqL.of hrow, atI_nat (get_int hml), ?_⟩
    refine ⟨_, _, rfl, rfl, _, rfl, ?_⟩
    refine ite2 (fun c => ?_) (fun c => ?_)
    · refine ⟨1, rfl, ?_⟩
      unfold EM.sc at q
      rw [if_pos (of_decide_eq_true c)] at q
      exact q
    · unfold EM.sc at q
      rw [if_neg (fun z => c (decide_eq_true z))] at q
      exact q

abbrev sSq : Stmt := top 2
abbrev sBes : Stmt := top 3
theorem scSq : FnScope ["w", "h", "s", "d", "x"] ["w", "h", "s", "d"] (defScope sSq) := ⟨rfl, rfl, rfl, by decide +kernel, rfl, by decide +kernel, by decide +kernel⟩
theorem scBes : FnScope ["w", "h", "beside", "s", "near", "d", "b"] ["w", "h"] (defScope sBes) := ⟨rfl, rfl, rfl, by decide +kernel, rfl, by decide +kernel, by decide +kernel⟩
def vO : Option Nat → V
  | none => .non
  | some t => .int (t : Nat)
def spSq : Sp := fun vs H Q _ => ∃ (w h s d : Nat), vs = [.int (w : Nat), .int (h : Nat), .int (s : Nat), .int (d : Nat)] ∧ 1 ≤ w ∧ w ≤ 4 ∧ h ≤ 4 ∧ Q (vO (EM.sqB w h s d)) H
theorem ok_sq {f : Addr} {fd : FuncData} {k : Nat} (F : Fun K "square_beside" "square_beside" sSq f fd) : FnOk P w K mg base CX0 (k + 1) f fd ["w", "h", "s", "d"] spSq := by
  refine F.ok scSq (fun vs H Q E h => ?_) (fun cdv A outer s H vs Q E hr h => ?_)
  · obtain ⟨w, h, s, d, rfl, _⟩ := h
    rfl
  · obtain ⟨w, h, s, d, rfl, w1, w4, h4, q⟩ := h
    refine ⟨_, pss_cons (ps_set (i := 4) scSq.nd rfl (.inl rfl) (pe_op op_mod (pv 2) (pv 0)))
      (pss_cons (ps_if (pt_cmpR op_eq (pv 3) pe_int (nomark _)) (pss_one (ps_ret (pe_ifExp (pt_cmpR op_ge (pv 2) (pv 0) (nomark _)) (pe_op op_sub (pv 2) (pv 0)) pe_non))) pss_nil)
      (pss_cons (ps_if (pt_cmpR op_eq (pv 3) pe_int (nomark _)) (pss_one (ps_ret (pe_ifExp (pt_cmpR op_lt (pe_op op_add (pv 4) pe_int) (pv 0) (nomark _)) (pe_op op_add (pv 2) pe_int) pe_non))) pss_nil)
      (pss_cons (ps_if (pt_cmpR op_eq (pv 3) pe_int (nomark _)) (pss_one (ps_ret (pe_ifExp (pt_cmpR op_lt (pe_op op_add (pv 2) (pv 0)) (pe_op op_mul (pv 0) (pv 1)) (nomark _)) (pe_op op_add (pv 2) (pv 0)) pe_non))) pss_nil)
      (pss_one (ps_ret (pe_ifExp (pt_cmpR op_gt (pv 4) pe_int (nomark _)) (pe_op op_sub (pv 2) pe_int) pe_non)))))), ?_⟩
    have hmod : ((s : Int) % (w : Int)) = ((s % w : Nat) : Int) := by omega
    have hc : ((w : Int) * (h : Int)) = ((w * h : Nat) : Int) := (Int.natCast_mul w h).symm
    have hle : s % w ≤ s := Nat.mod_le _ _
    refine ⟨_, rfl, _, rfl, _, _, rfl, rfl, (by show (0 : Int) < w; omega), ?_⟩
    unfold EM.sqB at q
    -- above
    refine ⟨_, rfl, rfl, _, rfl, ite2 (fun c => ?_) (fun c => ?_)⟩
    · have c' : d = 0 := by have := of_decide_eq_true c; injection this with e; omega
      rw [if_pos c'] at q
      refine ⟨_, rfl, _, rfl, _, _, rfl, rfl, _, rfl, ite2 (fun c2 => ?_) (fun c2 => ?_)⟩
      · have c2' : w ≤ s := by have := of_decide_eq_true c2; omega
        rw [if_pos c2'] at q
        refine ⟨_, rfl, _, rfl, _, _, rfl, rfl, ?_⟩
        have e : (s : Int) - (w : Int) = ((s - w : Nat) : Int) := by omega
        show Q (.int ((s : Int) - (w : Int))) H
        rw [e]; exact q
      · have c2' : ¬ w ≤ s := fun z => c2 (decide_eq_true (by omega))
        rw [if_neg c2'] at q
        exact q
    have c0 : ¬ d = 0 := fun z => c (decide_eq_true (by rw [z]; rfl))
    rw [if_neg c0] at q
    -- right
    refine ⟨_, rfl, rfl, _, rfl, ite2 (fun c => ?_) (fun c => ?_)⟩
    · have c' : d = 1 := by have := of_decide_eq_true c; injection this with e; omega
      rw [if_pos c'] at q
      refine ⟨_, rfl, _, _, rfl, rfl, _, rfl, _, _, rfl, rfl, _, rfl, ite2 (fun c2 => ?_) (fun c2 => ?_)⟩
      · have c2' : s % w + 1 < w := by have := of_decide_eq_true c2; rw [hmod] at this; omega
        rw [if_pos c2'] at q
        exact ⟨_, rfl, _, _, rfl, rfl, q⟩
      · have c2' : ¬ s % w + 1 < w := fun z => c2 (decide_eq_true (by rw [hmod]; omega))
        rw [if_neg c2'] at q
        exact q
    have c1 : ¬ d = 1 := fun z => c (decide_eq_true (by rw [z]; rfl))
    rw [if_neg c1] at q
    -- below
    refine ⟨_, rfl, rfl, _, rfl, ite2 (fun c => ?_) (fun c => ?_)⟩
    · have c' : d = 2 := by have := of_decide_eq_true c; injection this with e; omega
      rw [if_pos c'] at q
      refine ⟨_, rfl, _, rfl, _, _, rfl, rfl, _, rfl, _, rfl, _, _, rfl, rfl, .inl ⟨by omega, by omega⟩, _, _, rfl, rfl, _, rfl, ite2 (fun c2 => ?_) (fun c2 => ?_)⟩
      · have c2' : s + w < w * h := by have := of_decide_eq_true c2; rw [hc] at this; omega
        rw [if_pos c2'] at q
        refine ⟨_, rfl, _, rfl, _, _, rfl, rfl, ?_⟩
        exact q
      · have c2' : ¬ s + w < w * h := fun z => c2 (decide_eq_true (by rw [hc]; omega))
        rw [if_neg c2'] at q
        exact q
    have c2 : ¬ d = 2 := fun z => c (decide_eq_true (by rw [z]; rfl))
    rw [if_neg c2] at q
    -- left
    refine ⟨_, rfl, _, _, rfl, rfl, _, rfl, ite2 (fun c3 => ?_) (fun c3 => ?_)⟩
    · have c3' : 0 < s % w := by have := of_decide_eq_true c3; rw [hmod] at this; omega
      rw [if_pos c3'] at q
      refine ⟨_, rfl, _, _, rfl, rfl, ?_⟩
      have e : (s : Int) - 1 = ((s - 1 : Nat) : Int) := by omega
      show Q (.int ((s : Int) - 1)) H
      rw [e]; exact q
    · have c3' : ¬ 0 < s % w := fun z => c3 (decide_eq_true (by rw [hmod]; omega))
      rw [if_neg c3'] at q
      exact q

def bes (w h : Nat) : List (List Int) := (List.range (w * h)).map fun s => (EM.near w h s).map fun (x : Nat) => (x : Int)
/-- a new matrix -/
def NewMat (H H' : Hp) (m : Addr) (rs : List Addr) (M : List (List Int)) : Prop := Same H H' ∧ MatAt H' m rs M ∧ H m = none ∧ (∀ a, a ∈ rs → H a = none) ∧ m ∉ rs
def spBes : Sp := fun vs H Q _ => ∃ (w h : Nat), vs = [.int w, .int h] ∧ 1 ≤ w ∧ w ≤ 4 ∧ 1 ≤ h ∧ h ≤ 4 ∧ ∀ H' m rs, NewMat H H' m rs (bes w h) → Q (.ref m) H'
def ways (w h s : Nat) : List (Option Nat) := (List.range 4).map (EM.sqB w h s)
theorem ways_len (w h s : Nat) : (ways w h s).length = 4 := by unfold ways; simp
theorem ways_get {w h s d : Nat} (hd : d < 4) : (ways w h s)[d]? = some (EM.sqB w h s d) := by unfold ways; rw [List.getElem?_map, List.getElem?_range hd]; rfl
theorem ok_bes {f fQ : Addr} {fd fdQ : FuncData} {k : Nat} (F : Fun K "squares_beside" "squares_beside" sBes f fd) (mr : mg "range" = none) {tw : Tok} (gW : mg "WAYS" = some (.int 4 tw))
    (FQ : Fun K "square_beside" "square_beside" sSq fQ fdQ) (bQ : Binds K fdQ ["w", "h", "s", "d"] []) (gQ : mg "square_beside" = some (.ref fQ)) : FnOk P w K mg base CX0 (k + 2) f fd ["w", "h"] spBes := by
  have GQ : FnOk P w K mg base CX0 (k + 1) fQ fdQ ["w", "h", "s", "d"] spSq := ok_sq FQ
  refine F.ok scBes (fun vs H Q E h => ?_) (fun cdv A outer s H vs Q E hr h => ?_)
  · obtain ⟨w, h, rfl, _⟩ := h
    rfl
  · obtain ⟨w, h, rfl, w1, w4, h1, h4, q⟩ := h
    refine ⟨_, pss_cons (ps_set (i := 2) scBes.nd rfl (.inl rfl) (pe_lst pa_nil))
      (pss_cons (ps_for PassesOwn.never rfl (pi_range1 rfl mr (pa_cons (pe_op op_mul (pv 0) (pv 1)) pa_nil)) (pg_name (i := 3) scBes.nd rfl (.inr rfl))
        (pss_cons (ps_setLc (i := 4) (own := [("d", 5)]) (g := gName 5) (tt := tYes) (te := tCall spSq [] E0 (tCons (tVar 0) (tCons (tVar 1) (tCons (tVar 3) (tCons (tVar 5) tNil))))) rfl scBes.nd rfl rfl (sw_true rfl rfl rfl (by decide +kernel))
            (pi_range1 rfl mr (pa_cons (pe_glob (v := .int 4) rfl gW ⟨_, rfl⟩) pa_nil)) (blkOk_by (N := ["w", "h", "beside", "s", "near", "d", "b"]) (sc := defScope sBes) (by decide +kernel))
            (fun _ _ _ _ _ => pg_name (i := 5) scBes.nd rfl (Or.inl rfl)) (fun _ _ _ _ _ => pts_nil) (fun _ _ _ _ _ => pe_call GQ hr (by rfl) gQ FQ.kp bQ .nil pass0 (pa_cons (pv 0) (pa_cons (pv 1) (pa_cons (pv 3) (pa_cons (pv 5) pa_nil))))))
        (pss_one (ps_expr (pe_bm PySem.F.plainAttrs_list PySem.F.slot_list_append PySem.F.type_list_append mt_append (pv 2) (pa_cons (pe_lc (own := [("b", 6)]) (g := gName 6) (tt := tTest (tOp rNotN (tVar 6) (tC .non))) (te := tVar 6) rfl scBes.nd (pi_list (pv 4)) (blkOk_by (N := ["w", "h", "beside", "s", "near", "d", "b"]) (sc := defScope sBes) (by decide +kernel))
            (fun _ _ _ _ _ => pg_name (i := 6) scBes.nd rfl (Or.inl rfl)) (fun _ _ _ _ _ => pts_one (pt_cmpR op_notN1 (pv 6) pe_non (nomark _))) (fun _ _ _ _ _ => pv 6)) pa_nil))))))
      (pss_one (ps_ret (pv 2)))), ?_⟩
    refine ⟨Nat.zero_le _, fun o no => ?_⟩
    refine ⟨_, rfl, _, rfl, _, _, rfl, rfl, .inl ⟨by omega, by omega⟩, ?_⟩
    have hj : ((w : Int) * (h : Int)).toNat = w * h := by rw [← Int.natCast_mul]; exact Int.toNat_natCast _
    have hwh : w * h ≤ 16 := Nat.mul_le_mul w4 h4
    have hc : ((w : Int) * (h : Int)) = ((w * h : Nat) : Int) := (Int.natCast_mul w h).symm
    refine ⟨_, rfl, by show -2 ^ 62 ≤ (w : Int) * (h : Int); rw [hc]; omega, by show (w : Int) * (h : Int) < 2 ^ 62; rw [hc]; omega, for_range (lo := 0) (fun i σ H' => ∃ v3 v4 v5 v6 rs, σ = [some (.int w), some (.int h), some (.ref o), v3, v4, v5, v6] ∧ Same H H' ∧ MatAt H' o rs ((bes w h).take i) ∧ (∀ a, a ∈ rs → H a = none) ∧ o ∉ rs) ?_ ?_ ?_⟩
    · refine ⟨none, none, none, none, [], rfl, ?_, ⟨upd_same, rfl, fun i a r z => by simp at z, by simp⟩, fun a z => by simp at z, by simp⟩
      exact fun b x e => by rw [upd_ne (ne_of_none e no)]; exact e
    · rintro i σ H' hi ⟨v3, v4, v5, v6, rs, rfl, sm, hM, hn, hno⟩
      rw [hj] at hi
      have e0 : (0 + (i : Int)) = i := by omega
      rw [e0]
      have hib : (bes w h).take (i + 1) = (bes w h).take i ++ [(EM.near w h i).map fun (x : Nat) => (x : Int)] := by
        rw [List.take_add_one]; congr 1; simp [bes, hi]
      -- near
      refine ⟨_, rfl, by decide, by decide, ?_⟩
      intro N nN
      refine lc_range (lo := 0) (n := 4) (fun d H2 => Same H' H2 ∧ H2 N = some (.lst (((ways w h i).take d).map vO))) ?_ ?_ ?_
      · exact ⟨fun b x e => by rw [upd_ne (ne_of_none e nN)]; exact e, upd_same⟩
      · rintro d H2 hd ⟨s2, hN⟩
        have ed : (0 + (d : Int)) = d := by omega
        rw [ed]
        refine ⟨rfl, _, rfl, _, rfl, _, rfl, _, rfl, w, h, i, d, rfl, w1, w4, h4, _, hN, Evl.sz_lt (by rw [List.length_map, List.length_take]; omega), fun b x e => by rw [upd_ne (ne_of_none e nN)]; exact s2 _ _ e, ?_⟩
        rw [upd_same, List.take_add_one, ways_get hd, List.map_append]; rfl
      · rintro H2 ⟨s2, hN⟩
        rw [List.take_of_length_le (by rw [ways_len]; omega)] at hN
        have hM2 := hM.same s2
        -- beside.append(..)
        refine ⟨_, rfl, .inl ⟨rfl, _, SqL.of hM2.top⟩, _, rfl, N, rfl, ⟨_, SqL.of hN⟩, fun p np => ?_⟩
        have hNp : N ≠ p := ne_of_none hN np
        have npH : H p = none := Evl.fresh_back sm (Evl.fresh_back s2 np)
        refine lc_list (K := K) (a := N) (xs := (ways w h i).map vO) (fun j H3 => Same H2 H3 ∧ H3 p = some (.lst (vN (((ways w h i).take j).filterMap id)))) ?_ ?_ ?_ ?_
        · exact ⟨fun b x e => by rw [upd_ne (ne_of_none e np)]; exact e, upd_same⟩
        · rintro j H3 _ ⟨s3, _⟩
          exact SqL.of (s3 _ _ hN)
        · rintro j x H3 hx ⟨s3, hp⟩
          rw [List.getElem?_map] at hx
          cases ew : (ways w h i)[j]? with
          | none => rw [ew] at hx; cases hx
          | some y =>
            rw [ew] at hx
            cases hx
            have hj4 : j < 4 := by rw [← ways_len w h i]; exact (List.getElem?_eq_some_iff.1 ew).1
            refine ⟨rfl, _, rfl, rfl, _, rfl, ?_⟩
            cases y with
            | none =>
              refine iteF ⟨s3, ?_⟩
              rw [List.take_add_one, ew, List.filterMap_append]
              show H3 p = some (.lst (vN (_ ++ [])))
              rw [List.append_nil]; exact hp
            | some t =>
              refine iteT ⟨_, rfl, _, hp, Evl.sz_lt ?_, fun b x e => by rw [upd_ne (ne_of_none e np)]; exact s3 _ _ e, ?_⟩
              · unfold vN
                rw [List.length_map]
                have := List.length_filterMap_le id ((ways w h i).take j)
                rw [List.length_take, ways_len] at this; omega
              · rw [upd_same, List.take_add_one, ew, List.filterMap_append]
                unfold vN
                rw [List.map_append]; rfl
        · rintro H3 ⟨s3, hp⟩
          rw [List.length_map, List.take_of_length_le (Nat.le_refl _)] at hp
          have hv : ((EM.near w h i).map fun (x : Nat) => (x : Int)).map V.int = vN ((ways w h i).filterMap id) := by rw [EM.near_sqB, List.map_map]; rfl
          have hM3 := hM2.same s3
          have hpo : p ≠ o := fun e => by rw [e, hM2.top] at np; cases np
          refine ⟨o, _, _, rfl, rfl, hM3.top, Evl.sz_lt (by rw [List.length_map, hM.len, List.length_take]; omega), ?_⟩
          have hput := hM3.put (r := (EM.near w h i).map fun (x : Nat) => (x : Int)) (p := p) (by rw [hv]; exact hp) (hM2.off np) hpo hno
          rw [← hib] at hput
          refine ⟨_, _, _, _, rs ++ [p], rfl, ?_, by rw [List.map_append] at hput; exact hput, ?_, ?_⟩
          · intro b x e
            rw [upd_ne (ne_of_none e no)]
            exact s3 _ _ (s2 _ _ (sm _ _ e))
          · intro a ha
            rcases List.mem_append.1 ha with h5 | h5
            · exact hn a h5
            · rw [List.mem_singleton] at h5; subst h5; exact npH
          · intro z
            rcases List.mem_append.1 z with h5 | h5
            · exact hno h5
            · rw [List.mem_singleton] at h5; exact hpo h5.symm
    · rintro σ H' ⟨v3, v4, v5, v6, rs, rfl, sm, hM, hn, hno⟩
      rw [hj, List.take_of_length_le (by simp [bes])] at hM
      exact ⟨_, rfl, q H' o rs ⟨sm, hM, no, hn, hno⟩⟩
end
end Earth
set_option linter.all false
set_option maxRecDepth 100000
set_option maxHeartbeats 2000000
namespace Earth
open PySem PySem.Spec PyProof.Rows L2
/-- the list of steps: None, or what it costs and the square ahead -/
structure StepsAt (H : Hp) (sp : Addr) (n : Nat) (t : Nat → EM.O) (vs : List V) : Prop where
  top : H sp = some (.lst vs)
  len : vs.length = n
  non : ∀ i, i < n → t i = none → vs[i]? = some .non
  tup : ∀ i x, i < n → t i = some x → ∃ q, vs[i]? = some (.ref q) ∧ H q = some (.tup [.int x.1, .int (x.2 : Nat)])

theorem StepsAt.keep {H H' : Hp} {sp : Addr} {n : Nat} {t : Nat → EM.O} {vs : List V} (h : StepsAt H sp n t vs) (e1 : H' sp = H sp) (e2 : ∀ q xs, H q = some (.tup xs) → H' q = some (.tup xs)) : StepsAt H' sp n t vs := by
  refine ⟨by rw [e1]; exact h.top, h.len, h.non, fun i x hi hx => ?_⟩
  obtain ⟨q, h1, h2⟩ := h.tup i x hi hx
  exact ⟨q, h1, e2 q _ h2⟩
theorem StepsAt.upd {H : Hp} {sp p : Addr} {n : Nat} {t : Nat → EM.O} {vs l : List V} {o : HO} (h : StepsAt H sp n t vs) (hne : p ≠ sp) (hp : H p = none ∨ H p = some (.lst l)) : StepsAt (upd H p o) sp n t vs := by
  refine h.keep (upd_ne hne.symm) fun q xs e => ?_
  have : q ≠ p := by
    intro z; subst z
    rcases hp with hp | hp <;> rw [hp] at e <;> cases e
  rw [upd_ne this]; exact e
theorem StepsAt.set {H : Hp} {sp q : Addr} {n b : Nat} {t : Nat → EM.O} {vs : List V} {c : Int} {a : Nat} (h : StepsAt H sp n t vs) (hb : b < n) (hq : H q = none) :
    StepsAt (L2.upd (L2.upd H q (.tup [.int c, .int (a : Nat)])) sp (.lst (vs.set b (.ref q)))) sp n (EM.updO t b (c, a)) (vs.set b (.ref q)) := by
  have hqs : q ≠ sp := fun e => by rw [e, h.top] at hq; cases hq
  have hk : ∀ r xs, H r = some (.tup xs) → (L2.upd (L2.upd H q (.tup [.int c, .int (a : Nat)])) sp (.lst (vs.set b (.ref q)))) r = some (.tup xs) := by
    intro r xs e
    have h1 : r ≠ sp := fun z => by rw [z, h.top] at e; cases e
    rw [upd_ne h1, upd_ne (ne_of_none e hq)]; exact e
  refine ⟨upd_same, by rw [List.length_set]; exact h.len, ?_, ?_⟩
  · intro i hi e
    unfold EM.updO at e
    split at e
    · cases e
    · rename_i hne
      rw [List.getElem?_set_ne (fun z => hne z.symm)]
      exact h.non i hi e
  · intro i x hi e
    unfold EM.updO at e
    split at e
    · rename_i hne
      subst hne
      cases e
      refine ⟨q, ?_, ?_⟩
      · rw [List.getElem?_set_self (by rw [h.len]; exact hb)]
      · rw [upd_ne hqs]; exact upd_same
    · rename_i hne
      obtain ⟨r, h1, h2⟩ := h.tup i x hi e
      exact ⟨r, by rw [List.getElem?_set_ne (fun z => hne z.symm)]; exact h1, hk r _ h2⟩

theorem bes_len (w h : Nat) : (bes w h).length = w * h := by simp [bes]
theorem bes_get {w h s : Nat} (hs : s < w * h) : (bes w h)[s]? = some ((EM.near w h s).map fun (x : Nat) => (x : Int)) := by simp [bes, hs]
theorem vN_map (l : List Nat) : (l.map fun (x : Nat) => (x : Int)).map V.int = vN l := by rw [List.map_map]; rfl
theorem vN_get {l : List Nat} {i : Nat} {x : V} (h : (vN l)[i]? = some x) : ∃ k, l[i]? = some k ∧ x = .int (k : Int) := by
  unfold vN at h
  rw [List.getElem?_map] at h
  cases e : l[i]? with
  | none => rw [e] at h; cases h
  | some k => rw [e] at h; exact ⟨k, rfl, (Option.some.inj h).symm⟩

abbrev sCheap : Stmt := top 8
theorem scCheap : FnScope ["beside", "moved", "source", "steps", "changed", "bettered", "a", "b", "cost"] ["beside", "moved", "source"] (defScope sCheap) := ⟨rfl, rfl, rfl, by decide +kernel, rfl, by decide +kernel, by decide +kernel⟩
section
variable {P : Program} {w : World} {K : PySem.W.Frag} {mg : Str → Option Value} {base : Heap}
def spCheap : Sp := fun vs H Q _ => ∃ (mb mm : Addr) (rb rm : List Addr) (f : Kp218.Field) (M : List (List Int)) (p : Nat → Int) (src : Nat),
  vs = [.ref mb, .ref mm, .int (src : Nat)] ∧ EM.V f ∧ MatAt H mb rb (bes f.w f.h) ∧ MatAt H mm rm M ∧ Sq (f.w * f.h) M ∧ EM.Pot f (mget M) p ∧ src < f.w * f.h ∧
  ∀ (H' : Hp) (sp : Addr) (t : Nat → EM.O) (d : Nat → Int) (tau : Nat → Nat) (us : List V), Same H H' → H sp = none → StepsAt H' sp (f.w * f.h) t us → EM.Found f (mget M) src t d tau → Q (.ref sp) H'

theorem ok_cheap {f fS : Addr} {fd fdS : FuncData} {k : Nat} (F : Fun K "cheapest_steps" "cheapest_steps" sCheap f fd) (ml : mg "len" = none)
    (FS : Fun K "step_cost" "step_cost" sStep fS fdS) (bS : Binds K fdS ["moved", "a", "b"] []) (gS : mg "step_cost" = some (.ref fS)) :
    FnOk P w K mg base CX0 (k + 2) f fd ["beside", "moved", "source"] spCheap := by
  have GS : FnOk P w K mg base CX0 (k + 1) fS fdS ["moved", "a", "b"] (spStep K) := ok_step FS
  refine F.ok scCheap (fun vs H Q E h => ?_) (fun cdv A outer s H vs Q E hr h => ?_)
  · obtain ⟨mb, mm, rb, rm, f, M, p, src, rfl, _⟩ := h
    rfl
  · obtain ⟨mb, mm, rb, rm, f, M, p, src, rfl, hv, hB, hM, hS, hp, hsrc, q⟩ := h
    refine ⟨_, pss_cons (ps_set (i := 3) scCheap.nd rfl (.inl rfl) (pe_op op_rep (pe_lst (pa_cons pe_non pa_nil)) (pe_callB call_len_seq (by rfl) ml PySem.boot_len (pa_cons (pv 0) pa_nil))))
      (pss_cons (ps_asg (pe_tup (pa_cons pe_int (pa_cons (pv 2) pa_nil))) (pg_sub (pv 3) (pv 2) set_list))
      (pss_cons (ps_set (i := 4) scCheap.nd rfl (.inl rfl) (pe_lst (pa_cons (pv 2) pa_nil)))
      (pss_cons (ps_while PassesOwn.never (pt_cmpR op_gt (pe_callB call_len_seq (by rfl) ml PySem.boot_len (pa_cons (pv 4) pa_nil)) pe_int (nomark _))
        (pss_cons (ps_set (i := 5) scCheap.nd rfl (.inl rfl) (pe_lst pa_nil))
        (pss_cons (ps_for PassesOwn.never rfl (pi_list (pv 4)) (pg_name (i := 6) scCheap.nd rfl (.inl rfl))
          (pss_one (ps_for PassesOwn.never rfl (pi_list (pe_ix ix_list (pv 0) (pv 6) (fun _ _ => rfl))) (pg_name (i := 7) scCheap.nd rfl (.inl rfl))
            (pss_cons (ps_set (i := 8) scCheap.nd rfl (.inl rfl) (pe_op op_add (pe_ix ix_tup (pe_ix ix_list (pv 3) (pv 6) (fun _ _ => rfl)) pe_int (fun _ _ => rfl)) (pe_call GS hr (by rfl) gS FS.kp bS .nil pass0 (pa_cons (pv 1) (pa_cons (pv 6) (pa_cons (pv 7) pa_nil))))))
            (pss_one (ps_if (PW.pt (pw_or (pt_cmpR op_isN (pe_ix ix_list (pv 3) (pv 7) (fun _ _ => rfl)) pe_non (nomark _)) (pw_or1 (pt_cmpR op_lt (pv 8) (pe_ix ix_tup (pe_ix ix_list (pv 3) (pv 7) (fun _ _ => rfl)) pe_int (fun _ _ => rfl)) (nomark _)))))
              (pss_cons (ps_asg (pe_tup (pa_cons (pv 8) (pa_cons (pv 6) pa_nil))) (pg_sub (pv 3) (pv 7) set_list))
              (pss_one (ps_expr (pe_bm PySem.F.plainAttrs_list PySem.F.slot_list_append PySem.F.type_list_append mt_append (pv 5) (pa_cons (pv 7) pa_nil))))) pss_nil))))))
        (pss_one (ps_set (i := 4) scCheap.nd rfl (.inl rfl) (pv 5))))))
      (pss_one (ps_ret (pv 3)))))), ?_⟩
    have hn16 := EM.size16 hv
    have hblen : rb.length = f.w * f.h := by rw [hB.len, bes_len]
    -- [None] * len(beside)
    refine ⟨Evl.sz_of (by simp), fun z nz => ?_⟩
    have s1 : Same H (upd H z (.lst [.non])) := fun b x e => by rw [upd_ne (ne_of_none e nz)]; exact e
    refine ⟨_, rfl, mb, rb.map V.ref, rfl, .inl (SqL.of (s1 _ _ hB.top)), z, _, [.non], rfl, rfl, upd_same, ?_⟩
    refine ⟨by rw [List.length_map]; omega, by rw [List.length_map]; omega, by rw [List.length_map, Int.toNat_natCast, List.length_singleton]; exact Evl.sz_of (by omega), fun sp nsp => ?_⟩
    have hzs : sp ≠ z := fun e => by rw [e, upd_same] at nsp; cases nsp
    have nspH : H sp = none := by rw [upd_ne hzs] at nsp; exact nsp
    have hrep : (List.replicate (((rb.map V.ref).length : Int)).toNat [V.non]).flatten = List.replicate (f.w * f.h) V.non := by
      rw [List.length_map, Int.toNat_natCast, hblen]
      generalize f.w * f.h = n
      induction n with
      | zero => rfl
      | succ n ih => rw [List.replicate_succ, List.flatten_cons, ih]; rfl
    rw [hrep]
    generalize hH2 : upd (upd H z (.lst [.non])) sp (.lst (List.replicate (f.w * f.h) V.non)) = H2
    have s2 : Same H H2 := fun b x e => by rw [← hH2, upd_ne (ne_of_none e nspH)]; exact s1 _ _ e
    have a0 : StepsAt H2 sp (f.w * f.h) (fun _ => none) (List.replicate (f.w * f.h) V.non) := ⟨by rw [← hH2, upd_same], by simp, fun i hi _ => by simp [hi], fun i x _ e => by cases e⟩
    -- steps[source] = (0, source)
    refine ⟨_, rfl, Evl.sz_of (by simp), fun q0 nq0 => ?_⟩
    have hq0s : q0 ≠ sp := fun e => by rw [e, a0.top] at nq0; cases nq0
    refine ⟨_, rfl, _, rfl, sp, _, _, _, rfl, rfl, by rw [upd_ne hq0s.symm]; exact a0.top, Evl.ixN_nat (by rw [a0.len]; exact hsrc), ?_⟩
    have a1 := a0.set (c := 0) (a := src) hsrc nq0
    generalize hH3 : upd (upd H2 q0 (.tup [.int 0, .int (src : Nat)])) sp (.lst ((List.replicate (f.w * f.h) V.non).set src (.ref q0))) = H3 at a1
    have s3 : Same H H3 := fun b x e => by rw [← hH3, upd_ne (ne_of_none e nspH), upd_ne (ne_of_none (s2 _ _ e) nq0)]; exact s2 _ _ e
    -- changed = [source]
    refine ⟨_, rfl, Evl.sz_of (by simp), fun cp ncp => ?_⟩
    have hcs : cp ≠ sp := fun e => by
      have := a1.top
      rw [e, this] at ncp; cases ncp
    have a2 := a1.upd (o := .lst [.int (src : Nat)]) (l := []) hcs (.inl ncp)
    generalize hH4 : upd H3 cp (.lst [.int (src : Nat)]) = H4 at a2
    have s4 : Same H H4 := fun b x e => by rw [← hH4, upd_ne (ne_of_none (s3 _ _ e) ncp)]; exact s3 _ _ e
    -- the while
    refine ⟨fun m σ H' => ∃ (cp : Addr) (v5 v6 v7 v8 : Option V) (F : List Nat) (t : Nat → EM.O) (tau : Nat → Nat) (T : Nat) (us : List V),
        σ = [some (.ref mb), some (.ref mm), some (.int (src : Nat)), some (.ref sp), some (.ref cp), v5, v6, v7, v8] ∧ Same H H' ∧ H' cp = some (.lst (vN F)) ∧ cp ≠ sp ∧ H cp = none ∧
        StepsAt H' sp (f.w * f.h) t us ∧ EM.BF f (mget M) src p t tau T F ∧ (∀ a, a ∈ F → a < f.w * f.h ∧ ∃ y, t a = some y) ∧ (F.length : Int) + EM.mz (f.w * f.h) p src t ≤ 417 ∧ m = (EM.mz (f.w * f.h) p src t).toNat + (if F = [] then 0 else 1), ?_, ?_⟩
    · refine ⟨_, cp, none, none, none, none, [src], _, _, _, _, rfl, s4, by rw [← hH4]; exact upd_same, hcs, Evl.fresh_back s3 ncp, a2, EM.BF.start hsrc, ?_, ?_, rfl⟩
      · intro a ha
        rw [List.mem_singleton] at ha; subst ha
        exact ⟨hsrc, _, by simp [EM.updO]; rfl⟩
      · have := EM.mz_start hv hp hsrc
        simp only [List.length_singleton]
        omega
    · rintro m σ H' ⟨cp, v5, v6, v7, v8, F, t, tau, T, us, rfl, sm, hcp, hcs, ncp, hst, hbf, hF, hlen, rfl⟩
      refine ⟨_, rfl, cp, _, rfl, .inl (SqL.of hcp), _, _, rfl, rfl, _, rfl, ite2 (fun c => ?_) (fun c => ?_)⟩
      · have hF0 : F ≠ [] := by
          intro e; subst e
          have := of_decide_eq_true c
          simp [vN] at this
        refine ⟨_, fun _ _ h => h, ?_⟩
        -- bettered = []
        refine ⟨Nat.zero_le _, fun bp nbp => ?_⟩
        have hbs : bp ≠ sp := fun e => by rw [e, hst.top] at nbp; cases nbp
        have hbc : bp ≠ cp := fun e => by rw [e, hcp] at nbp; cases nbp
        have nbH : H bp = none := Evl.fresh_back sm nbp
        -- for a in changed
        refine ⟨_, rfl, cp, rfl, ⟨_, SqL.of (by rw [upd_ne hbc.symm]; exact hcp)⟩, for_list (K := K) (a := cp) (xs := vN F) (fun i σ H2 => ∃ (v6 v7 v8 : Option V) (t2 : Nat → EM.O) (tau2 : Nat → Nat) (T2 : Nat) (us2 : List V) (B : List Nat),
          σ = [some (.ref mb), some (.ref mm), some (.int (src : Nat)), some (.ref sp), some (.ref cp), some (.ref bp), v6, v7, v8] ∧ Same H H2 ∧ H2 cp = some (.lst (vN F)) ∧ H2 bp = some (.lst (vN B)) ∧
          StepsAt H2 sp (f.w * f.h) t2 us2 ∧ EM.BF f (mget M) src p t2 tau2 T2 (F.drop i ++ B) ∧ (∀ a, a ∈ F → a < f.w * f.h ∧ ∃ y, t2 a = some y) ∧ (∀ a, a ∈ B → a < f.w * f.h ∧ ∃ y, t2 a = some y) ∧
          (B.length : Int) + EM.mz (f.w * f.h) p src t2 ≤ EM.mz (f.w * f.h) p src t) ?_ ?_ ?_ ?_⟩
        · refine ⟨v6, v7, v8, t, tau, T, us, [], rfl, ?_, by rw [upd_ne hbc.symm]; exact hcp, upd_same, hst.upd (l := []) hbs (.inl nbp), by rw [List.drop_zero, List.append_nil]; exact hbf, hF, fun a z => by simp at z, by simp⟩
          intro b x e
          rw [upd_ne (ne_of_none e nbH)]; exact sm _ _ e
        · rintro i σ H2 _ ⟨v6, v7, v8, t2, tau2, T2, us2, B, rfl, sm2, hc2, _⟩
          exact SqL.of hc2
        · rintro i x σ H2 hx ⟨v6, v7, v8, t2, tau2, T2, us2, B, rfl, sm2, hc2, hb2, hst2, hbf2, hF2, hB2, hlen2⟩
          obtain ⟨a, hai, rfl⟩ := vN_get hx
          have haF := List.mem_of_getElem? hai
          obtain ⟨ha, y, hy⟩ := hF2 a haF
          have hil : i < F.length := by
            by_cases e : i < F.length
            · exact e
            · rw [List.getElem?_eq_none (by omega)] at hai; cases hai
          have hdrop : F.drop i = a :: F.drop (i + 1) := by
            rw [List.drop_eq_getElem_cons hil]
            congr 1
            rw [List.getElem?_eq_getElem hil] at hai; exact Option.some.inj hai
          rw [hdrop, List.cons_append] at hbf2
          have harb : a < rb.length := by rw [hblen]; exact ha
          have hrow : H2 rb[a] = some (.lst (vN (EM.near f.w f.h a))) := by
            have := hB.row a rb[a] _ (List.getElem?_eq_getElem harb) (bes_get ha)
            rw [vN_map] at this
            exact sm2 _ _ this
          have hrbH : H rb[a] ≠ none := by
            have := hB.row a rb[a] _ (List.getElem?_eq_getElem harb) (bes_get ha)
            rw [this]; exact fun z => by cases z
          -- for b in beside[a]
          refine ⟨_, rfl, _, rfl, mb, _, _, .ref rb[a], rfl, rfl, SqL.of (sm2 _ _ hB.top), atI_nat (by simp [harb]), rb[a], rfl, ⟨_, SqL.of hrow⟩, for_list (K := K) (a := rb[a]) (xs := vN (EM.near f.w f.h a)) (fun j σ H3 => ∃ (v7 v8 : Option V) (t3 : Nat → EM.O) (tau3 : Nat → Nat) (T3 : Nat) (us3 : List V) (B : List Nat),
            σ = [some (.ref mb), some (.ref mm), some (.int (src : Nat)), some (.ref sp), some (.ref cp), some (.ref bp), some (.int (a : Nat)), v7, v8] ∧ Same H H3 ∧ H3 cp = some (.lst (vN F)) ∧ H3 bp = some (.lst (vN B)) ∧
            StepsAt H3 sp (f.w * f.h) t3 us3 ∧ EM.BF f (mget M) src p t3 tau3 T3 (a :: (F.drop (i + 1) ++ B)) ∧ (∀ a, a ∈ F → a < f.w * f.h ∧ ∃ y, t3 a = some y) ∧ (∀ a, a ∈ B → a < f.w * f.h ∧ ∃ y, t3 a = some y) ∧
            (B.length : Int) + EM.mz (f.w * f.h) p src t3 ≤ EM.mz (f.w * f.h) p src t ∧ t3 a = some y ∧ ∀ b, b ∈ (EM.near f.w f.h a).take j → ∃ x, t3 b = some x ∧ x.1 ≤ y.1 + EM.sc (mget M) a b) ?_ ?_ ?_ ?_⟩
          · exact ⟨v7, v8, t2, tau2, T2, us2, B, rfl, sm2, hc2, hb2, hst2, hbf2, hF2, hB2, hlen2, hy, fun b z => by simp at z⟩
          · rintro j σ H3 _ ⟨v7, v8, t3, tau3, T3, us3, B, rfl, sm3, _⟩
            have := hB.row a rb[a] _ (List.getElem?_eq_getElem harb) (bes_get ha)
            rw [vN_map] at this
            exact SqL.of (sm3 _ _ this)
          · rintro j x σ H3 hx ⟨v7, v8, t3, tau3, T3, us3, B, rfl, sm3, hc3, hb3, hst3, hbf3, hF3, hB3, hlen3, hy3, hrel⟩
            obtain ⟨b, hbj, rfl⟩ := vN_get hx
            have hbn := List.mem_of_getElem? hbj
            obtain ⟨hb, hbne, _, _⟩ := EM.near_lt hv ha hbn
            obtain ⟨qa, hqa1, hqa2⟩ := hst3.tup a y ha hy3
            have htake : (EM.near f.w f.h a).take (j + 1) = (EM.near f.w f.h a).take j ++ [b] := by
              rw [List.take_add_one, hbj]; rfl
            -- cost = steps[a][0] + step_cost(moved, a, b)
            refine ⟨_, rfl, _, rfl, sp, us3, _, .ref qa, rfl, rfl, SqL.of hst3.top, atI_nat hqa1, qa, _, _, .int y.1, rfl, rfl, SqT.of hqa2, rfl, ?_⟩
            refine ⟨_, rfl, _, rfl, _, rfl, mm, rm, M, f.w * f.h, a, b, rfl, hM.same sm3, hS, ha, hb, _, _, rfl, rfl, ?_⟩
            have hrel' : ∀ (t4 : Nat → EM.O), (∀ q z, t3 q = some z → ∃ z', t4 q = some z' ∧ z'.1 ≤ z.1) → (∃ z, t4 b = some z ∧ z.1 ≤ y.1 + EM.sc (mget M) a b) → ∀ q, q ∈ (EM.near f.w f.h a).take (j + 1) → ∃ x, t4 q = some x ∧ x.1 ≤ y.1 + EM.sc (mget M) a q := by
              intro t4 h4 hb4 q hq
              rw [htake] at hq
              rcases List.mem_append.1 hq with h5 | h5
              · obtain ⟨x, hx1, hx2⟩ := hrel q h5
                obtain ⟨x', hx3, hx4⟩ := h4 q x hx1
                exact ⟨x', hx3, by omega⟩
              · rw [List.mem_singleton] at h5; subst h5; exact hb4
            have hcase : (∀ x, t3 b = some x → y.1 + EM.sc (mget M) a b < x.1) ∨ ∃ x, t3 b = some x ∧ ¬ y.1 + EM.sc (mget M) a b < x.1 := by
              cases ht : t3 b with
              | none => left; intro x z; cases z
              | some x =>
                by_cases e : y.1 + EM.sc (mget M) a b < x.1
                · left; intro x' z; cases z; exact e
                · right; exact ⟨x, rfl, e⟩
            rcases hcase with hc | ⟨x0, hx0, hnc⟩
            rotate_left
            · -- as good already
              obtain ⟨qb, hqb1, hqb2⟩ := hst3.tup b x0 hb hx0
              refine ⟨_, rfl, _, rfl, sp, us3, _, .ref qb, rfl, rfl, SqL.of hst3.top, atI_nat hqb1, rfl, _, rfl, iteF ?_⟩
              refine ⟨_, rfl, _, rfl, _, rfl, sp, us3, _, .ref qb, rfl, rfl, SqL.of hst3.top, atI_nat hqb1, qb, _, _, .int x0.1, rfl, rfl, SqT.of hqb2, rfl, _, _, rfl, rfl, _, rfl, ?_⟩
              rw [decide_eq_false hnc]
              refine iteF ?_
              exact ⟨_, _, t3, tau3, T3, us3, B, rfl, sm3, hc3, hb3, hst3, hbf3, hF3, hB3, hlen3, hy3, hrel' t3 (fun q z hz => ⟨z, hz, Int.le_refl _⟩) ⟨x0, hx0, by omega⟩⟩
            have hb2 : t3 b = none ∨ ∃ x, t3 b = some x := by
              cases t3 b with
              | none => exact Or.inl rfl
              | some x => exact Or.inr ⟨x, rfl⟩
            rcases hb2 with ht | ⟨x0, ht⟩
            refine ⟨_, rfl, _, rfl, sp, us3, _, .non, rfl, rfl, SqL.of hst3.top, atI_nat (hst3.non b hb ht), rfl, _, rfl, iteT (iteT ?_)⟩
            rotate_left
            obtain ⟨qb, hqb1, hqb2⟩ := hst3.tup b x0 hb ht
            refine ⟨_, rfl, _, rfl, sp, us3, _, .ref qb, rfl, rfl, SqL.of hst3.top, atI_nat hqb1, rfl, _, rfl, iteF ⟨_, rfl, _, rfl, _, rfl, sp, us3, _, .ref qb, rfl, rfl, SqL.of hst3.top, atI_nat hqb1, qb, _, _, .int x0.1, rfl, rfl, SqT.of hqb2, rfl, _, _, rfl, rfl, _, rfl, ?_⟩⟩
            rw [decide_eq_true (hc x0 ht)]
            refine iteT ?_
            all_goals
              refine ⟨_, rfl, _, rfl, Evl.sz_of (by simp), fun q nq => ?_⟩
              have hqs : q ≠ sp := fun e => by rw [e, hst3.top] at nq; cases nq
              have hqb : bp ≠ q := fun e => by rw [← e, hb3] at nq; cases nq
              have hqc : cp ≠ q := fun e => by rw [← e, hc3] at nq; cases nq
              refine ⟨_, rfl, _, rfl, sp, us3, _, _, rfl, rfl, by rw [upd_ne hqs.symm]; exact hst3.top, Evl.ixN_nat (by rw [hst3.len]; exact hb), ?_⟩
              have a4 := hst3.set (c := y.1 + EM.sc (mget M) a b) (a := a) hb nq
              have hb4 : (upd (upd H3 q (.tup [.int (y.1 + EM.sc (mget M) a b), .int (a : Nat)])) sp (.lst (us3.set b (.ref q)))) bp = some (.lst (vN B)) := by
                rw [upd_ne hbs, upd_ne hqb]; exact hb3
              have hnn := EM.BF.mz_nonneg hv hp hsrc hbf3
              refine ⟨_, rfl, .inl ⟨rfl, _, SqL.of hb4⟩, _, rfl, bp, _, _, rfl, rfl, hb4, Evl.sz_lt (by simp only [vN, List.length_map]; omega), ?_⟩
              obtain ⟨hbf4, hmz⟩ := hbf3.better hv hp ha hbn hy3 hc
              have hmono : ∀ q z, t3 q = some z → ∃ z', EM.updO t3 b (y.1 + EM.sc (mget M) a b, a) q = some z' ∧ z'.1 ≤ z.1 := by
                intro q z hz
                by_cases e : q = b
                · subst e
                  exact ⟨_, by unfold EM.updO; rw [if_pos rfl], by have := hc z hz; simp only; omega⟩
                · exact ⟨z, by unfold EM.updO; rw [if_neg e]; exact hz, Int.le_refl _⟩
              refine ⟨_, _, _, _, _, us3.set b (.ref q), B ++ [b], rfl, ?_, ?_, ?_, a4.upd (l := vN B) hbs (.inr hb4), hbf4.drop ?_, ?_, ?_, ?_, ?_, hrel' _ hmono ?_⟩
              · intro x u e
                rw [upd_ne (ne_of_none e nbH), upd_ne (ne_of_none e nspH), upd_ne (ne_of_none (sm3 _ _ e) nq)]
                exact sm3 _ _ e
              · rw [upd_ne hbc.symm, upd_ne hcs, upd_ne hqc]; exact hc3
              · rw [upd_same]; simp [vN]
              · intro x hx
                left
                rcases List.mem_cons.1 hx with h5 | h5
                · subst h5; simp
                · rcases List.mem_cons.1 h5 with h6 | h6
                  · subst h6; simp
                  · rcases List.mem_append.1 h6 with h7 | h7
                    · simp [h7]
                    · simp [h7]
              · intro x hx
                obtain ⟨h5, z, h6⟩ := hF3 x hx
                obtain ⟨z', h7, _⟩ := hmono x z h6
                exact ⟨h5, z', h7⟩
              · intro x hx
                rcases List.mem_append.1 hx with h4 | h4
                · obtain ⟨h5, z, h6⟩ := hB3 x h4
                  obtain ⟨z', h7, _⟩ := hmono x z h6
                  exact ⟨h5, z', h7⟩
                · rw [List.mem_singleton] at h4; subst h4
                  exact ⟨hb, _, by unfold EM.updO; rw [if_pos rfl]⟩
              · rw [List.length_append, List.length_singleton]; omega
              · unfold EM.updO; rw [if_neg hbne.symm]; exact hy3
              · exact ⟨_, by unfold EM.updO; rw [if_pos rfl], Int.le_refl _⟩
          · -- behind the squares beside a
            rintro σ H3 ⟨v7, v8, t3, tau3, T3, us3, B, rfl, sm3, hc3, hb3, hst3, hbf3, hF3, hB3, hlen3, hy3, hrel⟩
            refine ⟨_, _, _, t3, tau3, T3, us3, B, rfl, sm3, hc3, hb3, hst3, hbf3.drop ?_, hF3, hB3, hlen3⟩
            intro x hx
            rcases List.mem_cons.1 hx with h5 | h5
            · subst h5
              right
              intro y' hy' b hb
              rw [hy3] at hy'; cases hy'
              exact hrel b (by rw [List.take_of_length_le (by simp [vN])]; exact hb)
            · exact Or.inl h5
        · -- changed = bettered
          rintro σ H2 ⟨v6, v7, v8, t2, tau2, T2, us2, B, rfl, sm2, hc2, hb2, hst2, hbf2, hF2, hB2, hlen2⟩
          have hnn := EM.BF.mz_nonneg hv hp hsrc hbf2
          rw [List.drop_of_length_le (by simp [vN]), List.nil_append] at hbf2
          refine ⟨_, rfl, _, ?_, bp, _, _, _, _, B, t2, tau2, T2, us2, rfl, sm2, hb2, hbs, nbH, hst2, hbf2, hB2, by omega, rfl⟩
          rw [if_neg hF0]
          split
          · omega
          · rename_i h5
            have : 0 < B.length := List.length_pos_iff.2 h5
            omega
      · -- nothing has changed any more
        have hF0 : F = [] := by
          cases F with
          | nil => rfl
          | cons x r => exact absurd (decide_eq_true (by simp [vN])) c
        subst hF0
        obtain ⟨d, hd⟩ := hbf.found hv hsrc
        exact ⟨_, rfl, q H' sp t d tau us sm nspH hst hd⟩
end
end Earth
set_option linter.all false
set_option maxRecDepth 100000
set_option maxHeartbeats 2000000
namespace Earth
open PySem PySem.Spec PyProof.Rows L2
/-- reading an item ahead of storing it anew, as values -/
theorem get_list {X : Cx} : PGet X (rIxL X.K) := by
  intro pins s σ H ov iv v u Q I r1 r2 hh
  obtain ⟨p, xs, i, z, rfl, rfl, hsq, hat, fin0⟩ := hh
  cases r1
  obtain ⟨tk, rfl⟩ := r2
  obtain ⟨its, rr, pl, _⟩ := I.list hsq
  obtain ⟨j, e1, e2, _, e4, e5⟩ := atI_get hat
  obtain ⟨item, ei, ri⟩ := rr.get e2
  have hlen := rr.length
  have h63 := line63
  have fin : EP X pins σ Q item s := ⟨z, H, I, ri, fin0⟩
  by_cases hi0 : 0 ≤ i
  · have hj : i.toNat = j := Option.some.inj ((seqIndex_of hi0 e5).symm.trans e1)
    exact wpAny_getItem_list pl.isList hi0 (by omega) (by rw [hj]; simpa using ei) fin
  · have hj : (i + (its.toArray.size : Int)).toNat = j := by
      have := (seqIndex_neg (show i < 0 by omega) e4).symm.trans e1
      rw [List.size_toArray, ← hlen]; exact Option.some.inj this
    exact wpAny_getItem_list_neg pl.isList (by omega) (by rw [List.size_toArray]; omega) (by omega) (by rw [hj]; simpa using ei) fin

/-- a loop over two lists side by side, as long as the shorter one -/
theorem zip_loop {K : PySem.W.Frag} {a b : Addr} {xs ys : List V} {g : TG} {tb : TS} {D : Ends} {σ : L2.St} {H : Hp} (n : Nat) (hn : n = min xs.length ys.length) (Pv : Nat → L2.St → Hp → Prop)
    (start : Pv 0 σ H) (stand : ∀ i σ H, Pv i σ H → SqL K H a xs ∧ SqL K H b ys)
    (turn : ∀ (i : Nat) (x y : V) (T : Addr) (σ : L2.St) (H : Hp), xs[i]? = some x → ys[i]? = some y → Pv i σ H → H T = none →
      g (.ref T) σ (upd H T (.tup [x, y])) fun σ2 H2 => tb { D with nx := Pv (i + 1), ct := Pv (i + 1), bk := D.nx } σ2 H2)
    (behind : ∀ σ H, Pv n σ H → D.nx σ H) :
    ∃ W : Nat → Nat → L2.St → Hp → Prop, (∃ m, W 0 m σ H) ∧ ∀ i m σ H, W i m σ H → ((Itz K a b).stop i H ∧ D.nx σ H) ∨
      ((Itz K a b).go i H ∧ ∃ N : L2.St → Hp → Prop, (∀ σ' H', N σ' H' → ∃ m', m' < m ∧ W (i + 1) m' σ' H') ∧
        ∀ v H', (Itz K a b).yld i H v H' → g v σ H' fun σ2 H2 => tb { D with nx := N, ct := N, bk := D.nx } σ2 H2) := by
  refine ⟨fun i m σ H => m + i = n ∧ Pv i σ H, ⟨n, by omega, start⟩, ?_⟩
  rintro i m σ H ⟨hm, hP⟩
  obtain ⟨s1, s2⟩ := stand i σ H hP
  by_cases hi : i < n
  · have l1 : i < xs.length := by omega
    have l2 : i < ys.length := by omega
    refine .inr ⟨⟨xs, ys, xs[i], ys[i], s1, s2, List.getElem?_eq_getElem l1, List.getElem?_eq_getElem l2⟩, Pv (i + 1), fun σ' H' h => ⟨m - 1, by omega, by omega, h⟩, ?_⟩
    rintro v H' ⟨T, x', y', rfl, hT, rfl, g1, g2⟩
    exact turn i x' y' T σ H (g1 xs s1) (g2 ys s2) hP hT
  · have e : i = n := by omega
    rw [e] at hP ⊢
    refine .inl ⟨⟨xs, ys, s1, s2, ?_⟩, behind σ H hP⟩
    omega

/-! matrices, item by item -/
theorem mget_set {n : Nat} {M : List (List Int)} (h : Sq n M) {a b : Nat} (ha : a < n) (hb : b < n) (v : Int) (i j : Nat) : mget (M.set a ((M.getD a []).set b v)) i j = EM.updG (mget M) a b v i j := by
  obtain ⟨h1, h2⟩ := h
  have h3 := h2 a ha
  unfold mget EM.updG
  simp only [List.getD, List.getElem?_set]
  by_cases e : a = i
  · subst e
    simp only [h1, ha, if_true, true_and, Option.getD_some, List.getElem?_set]
    by_cases e2 : b = j
    · subst e2
      have h4 : b < ((M[a]?).getD []).length := by
        have : (M[a]?.getD []).length = n := by simpa [List.getD] using h3
        omega
      simp [h4, mget]
    · have : ¬ j = b := fun h => e2 h.symm
      simp [e2, this, mget]
  · have : ¬ i = a := fun h => e h.symm
    simp [e, this, mget]
theorem Sq.set {n : Nat} {M : List (List Int)} (h : Sq n M) (a b : Nat) (v : Int) : Sq n (M.set a ((M.getD a []).set b v)) := by
  obtain ⟨h1, h2⟩ := h
  refine ⟨by simp [h1], fun i hi => ?_⟩
  have h3 := h2 i hi
  simp only [List.getD, List.getElem?_set]
  by_cases e : a = i
  · subst e
    simp only [h1, hi, if_true]
    simpa [List.getD] using h3
  · simp only [e, if_false]
    simpa [List.getD] using h3
theorem MatAt.get {H : Hp} {m : Addr} {rs : List Addr} {M : List (List Int)} {n : Nat} (h : MatAt H m rs M) (hS : Sq n M) {a : Nat} (ha : a < n) : ∃ r, rs[a]? = some r ∧ H r = some (.lst ((M.getD a []).map V.int)) := by
  have hl : a < rs.length := by rw [h.len, hS.1]; exact ha
  refine ⟨rs[a], List.getElem?_eq_getElem hl, h.row a _ _ (List.getElem?_eq_getElem hl) ?_⟩
  simp [List.getD, hS.1, ha]
theorem MatAt.set {H : Hp} {m : Addr} {rs : List Addr} {M : List (List Int)} {n : Nat} (h : MatAt H m rs M) (hS : Sq n M) (hm : m ∉ rs) {a b : Nat} {r : Addr} (ha : a < n) (hr : rs[a]? = some r) (v : Int) :
    MatAt (upd H r (.lst (((M.getD a []).map V.int).set b (.int v)))) m rs (M.set a ((M.getD a []).set b v)) := by
  have hrm : m ≠ r := fun e => by rw [e] at hm; exact hm (List.mem_of_getElem? hr)
  refine ⟨by rw [upd_ne hrm]; exact h.top, by rw [List.length_set]; exact h.len, ?_, h.nd⟩
  intro i q row hi hrow
  by_cases e : i = a
  · subst e
    rw [hi] at hr; cases hr
    rw [upd_same]
    rw [List.getElem?_set_self (by rw [hS.1]; exact ha)] at hrow
    cases hrow
    rw [List.map_set]
  · have hq : q ≠ r := by
      intro z
      rw [z] at hi
      have l1 := (List.getElem?_eq_some_iff.1 hi)
      have l2 := (List.getElem?_eq_some_iff.1 hr)
      obtain ⟨p1, q1⟩ := l1
      obtain ⟨p2, q2⟩ := l2
      have hpw := List.pairwise_iff_getElem.1 h.nd
      rcases Nat.lt_or_gt_of_ne e with z1 | z1
      · exact hpw i a p1 p2 z1 (q1.trans q2.symm)
      · exact hpw a i p2 p1 z1 (q2.trans q1.symm)
    rw [upd_ne hq]
    rw [List.getElem?_set_ne (fun z => e z.symm)] at hrow
    exact h.row i q row hi hrow

theorem pairs_get : ∀ (P : List Nat) (i a b : Nat), P[i]? = some a → P[i + 1]? = some b → (EM.pairs P)[i]? = some (a, b)
  | [], _, _, _, h, _ => by simp at h
  | [_], 0, _, _, _, h => by simp at h
  | [_], i + 1, _, _, h, _ => by simp at h
  | x :: y :: r, 0, a, b, h, h2 => by
    simp at h h2
    subst h; subst h2; rfl
  | x :: y :: r, i + 1, a, b, h, h2 => pairs_get (y :: r) i a b h h2
theorem pairs_len : ∀ P : List Nat, (EM.pairs P).length = P.length - 1
  | [] => rfl
  | [_] => rfl
  | x :: y :: r => by
    show (EM.pairs (y :: r)).length + 1 = _
    rw [pairs_len (y :: r)]; simp
theorem spare_of {g : Nat → Nat → Int} {k : Int} : ∀ (P : List Nat), (∀ i a b, P[i]? = some a → P[i + 1]? = some b → 0 < g b a → k ≤ g b a) → EM.Spare g k P
  | [], _ => trivial
  | [_], _ => trivial
  | x :: y :: r, h => ⟨h 0 x y rfl rfl, spare_of (y :: r) fun i a b h1 h2 => h (i + 1) a b h1 h2⟩
theorem path_lt {f : Kp218.Field} (hv : EM.V f) {g : Nat → Nat → Int} {d : Nat → Int} : ∀ (P : List Nat), EM.OnPath f g d P → ∀ x, x ∈ P → x < f.w * f.h
  | [], _, x, h => by simp at h
  | [y], hp, x, h => by rw [List.mem_singleton] at h; subst h; exact hp
  | y :: z :: r, hp, x, h => by
    rcases List.mem_cons.1 h with h1 | h1
    · subst h1; exact hp.1
    · exact path_lt hv (z :: r) hp.2.2.2 x h1
theorem cut_tail (xs : List V) : cutV xs (some 1) none = xs.drop 1 := by
  unfold cutV
  rw [show HT.sIx xs.length 0 (some 1) = min 1 xs.length from HT.sIx_nat xs.length 0 1, HT.sIx_none]
  cases xs with
  | nil => rfl
  | cons x r => simp
abbrev sSend : Stmt := top 10
theorem scSend : FnScope ["moved", "left", "way", "loads", "a", "b"] ["moved", "left", "way"] (defScope sSend) := ⟨rfl, rfl, rfl, by decide +kernel, rfl, by decide +kernel, by decide +kernel⟩
def setL (L : List Int) (x : Nat) (v : Int) : List Int := L.set x v
section
variable {P : Program} {w : World} {K : PySem.W.Frag} {mg : Str → Option Value} {base : Heap}
def spSend : Sp := fun vs H Q _ => ∃ (mm la wa : Addr) (rm : List Addr) (f : Kp218.Field) (M : List (List Int)) (L : List Int) (x z : Nat) (r : List Nat) (d : Nat → Int),
  vs = [.ref mm, .ref la, .ref wa] ∧ EM.V f ∧ MatAt H mm rm M ∧ Sq (f.w * f.h) M ∧ mm ∉ rm ∧ H la = some (.lst (L.map V.int)) ∧ L.length = f.w * f.h ∧ la ∉ rm ∧ la ≠ mm ∧
  H wa = some (.lst (vN (x :: r))) ∧ wa ∉ rm ∧ wa ≠ la ∧ r.length ≤ 1000 ∧ (x :: r).getLast? = some z ∧ EM.OnPath f (mget M) d (x :: r) ∧ 0 < L.getD x 0 ∧ L.getD z 0 < 0 ∧
  ∀ (H' : Hp) (M' : List (List Int)) (k : Int), 1 ≤ k → k ≤ L.getD x 0 → k ≤ - L.getD z 0 → EM.Spare (mget M) k (x :: r) → MatAt H' mm rm M' → Sq (f.w * f.h) M' →
    (∀ a b, mget M' a b = (EM.pairs (x :: r)).foldl (EM.push k) (mget M) a b) → H' la = some (.lst (((L.set x (L.getD x 0 - k)).set z (L.getD z 0 + k)).map V.int)) →
    (∀ b o, H b = some o → b ∉ rm → b ≠ la → H' b = some o) → Q .non H'
theorem ok_send {f : Addr} {fd : FuncData} {k : Nat} (F : Fun K "send" "send" sSend f fd) (mn : mg "min" = none) (mz : mg "zip" = none) : FnOk P w K mg base CX0 (k + 1) f fd ["moved", "left", "way"] spSend := by
  refine F.ok scSend (fun vs H Q E h => ?_) (fun cdv A outer s H vs Q E hr h => ?_)
  · obtain ⟨mm, la, wa, rm, f, M, L, x, z, r, d, rfl, _⟩ := h
    rfl
  · obtain ⟨mm, la, wa, rm, f, M, L, x, z, r, d, rfl, hv, hM, hS, hmm, hL, hLn, hla, hlm, hW, hwa, hwl, hrl, hlast, hpath, hx0, hz0, q⟩ := h
    refine ⟨_, pss_cons (ps_set (i := 3) scSend.nd rfl (.inl rfl) (pe_callB (call_min2 rfl) (by rfl) mn (by decide +kernel) (pa_cons (pe_ix ix_list (pv 1) (pe_ix ix_list (pv 2) pe_int (fun _ _ => rfl)) (fun _ _ => rfl)) (pa_cons (pe_un un_neg (pe_ix ix_list (pv 1) (pe_ix ix_list (pv 2) (pe_un un_neg pe_int) (fun _ _ => rfl)) (fun _ _ => rfl))) pa_nil))))
      (pss_cons (ps_for PassesOwn.never rfl (pi_zip (by rfl) mz (pa_cons (pv 2) (pa_cons (pe_slice sl_list (pv 2) (po_some pe_int) po_none) pa_nil)))
          (pg_tup rfl (pgs_cons (pg_name (i := 4) scSend.nd rfl (.inl rfl)) (pgs_cons (pg_name (i := 5) scSend.nd rfl (.inl rfl)) pgs_nil)))
          (pss_one (ps_if (pt_cmpR op_gt (pe_ix ix_list (pe_ix ix_list (pv 0) (pv 5) (fun _ _ => rfl)) (pv 4) (fun _ _ => rfl)) pe_int (nomark _))
            (pss_one (ps_set (i := 3) scSend.nd rfl (.inl rfl) (pe_callB (call_min2 rfl) (by rfl) mn (by decide +kernel) (pa_cons (pv 3) (pa_cons (pe_ix ix_list (pe_ix ix_list (pv 0) (pv 5) (fun _ _ => rfl)) (pv 4) (fun _ _ => rfl)) pa_nil))))) pss_nil)))
      (pss_cons (ps_for PassesOwn.never rfl (pi_zip (by rfl) mz (pa_cons (pv 2) (pa_cons (pe_slice sl_list (pv 2) (po_some pe_int) po_none) pa_nil)))
          (pg_tup rfl (pgs_cons (pg_name (i := 4) scSend.nd rfl (.inl rfl)) (pgs_cons (pg_name (i := 5) scSend.nd rfl (.inl rfl)) pgs_nil)))
          (pss_one (ps_if (pt_cmpR op_gt (pe_ix ix_list (pe_ix ix_list (pv 0) (pv 5) (fun _ _ => rfl)) (pv 4) (fun _ _ => rfl)) pe_int (nomark _))
            (pss_one (ps_augS (pe_ix ix_list (pv 0) (pv 5) (fun _ _ => rfl)) (pv 4) get_list (pv 3) ip_sub set_list))
            (pss_one (ps_augS (pe_ix ix_list (pv 0) (pv 4) (fun _ _ => rfl)) (pv 5) get_list (pv 3) ip_add set_list)))))
      (pss_cons (ps_augS (pv 1) (pe_ix ix_list (pv 2) pe_int (fun _ _ => rfl)) get_list (pv 3) ip_sub set_list)
      (pss_one (ps_augS (pv 1) (pe_ix ix_list (pv 2) (pe_un un_neg pe_int) (fun _ _ => rfl)) get_list (pv 3) ip_add set_list))))), ?_⟩
    have hlt := path_lt hv _ hpath
    have hzm : z ∈ x :: r := List.mem_of_getLast? hlast
    have hxn : x < f.w * f.h := hlt x (by simp)
    have hzn : z < f.w * f.h := hlt z hzm
    have hxz : x ≠ z := by intro e; subst e; omega
    have hlastV : atI (vN (x :: r)) (-1) = some (.int (z : Nat)) := by
      obtain ⟨ys, e⟩ := List.getLast?_eq_some_iff.1 hlast
      rw [e]; unfold vN; rw [List.map_append]; exact atI_last _ _
    have gx : (L.map V.int)[x]? = some (.int (L.getD x 0)) := get_int (by rw [hLn]; exact hxn)
    have gz : (L.map V.int)[z]? = some (.int (L.getD z 0)) := get_int (by rw [hLn]; exact hzn)
    -- loads = min(left[way[0]], -left[way[-1]])
    refine ⟨_, rfl, _, rfl, wa, _, 0, .int (x : Nat), rfl, rfl, SqL.of hW, atI_nat (j := 0) rfl, la, _, _, _, rfl, rfl, SqL.of hL, atI_nat gx, ?_⟩
    refine ⟨_, rfl, _, rfl, 1, rfl, wa, _, _, .int (z : Nat), rfl, rfl, SqL.of hW, hlastV, la, _, _, _, rfl, rfl, SqL.of hL, atI_nat gz, _, rfl, _, _, rfl, ?_⟩
    -- zip(way, way[1:])
    refine ⟨_, rfl, _, rfl, 1, rfl, wa, _, rfl, SqL.of hW, fun c nc => ?_⟩
    have hcw : wa ≠ c := fun e => by rw [← e, hW] at nc; cases nc
    have hdrop : cutV (vN (x :: r)) (some 1) none = vN r := by rw [cut_tail]; rfl
    rw [hdrop]
    have sc : Same H (upd H c (.lst (vN r))) := fun b o e => by rw [upd_ne (ne_of_none e nc)]; exact e
    refine ⟨wa, c, vN (x :: r), vN r, rfl, SqL.of (sc _ _ hW), SqL.of upd_same, zip_loop (xs := vN (x :: r)) (ys := vN r) r.length (by simp only [vN, List.length_map, List.length_cons]; omega) (fun i σ H' => ∃ (v4 v5 : Option V) (k : Int),
      σ = [some (.ref mm), some (.ref la), some (.ref wa), some (.int k), v4, v5] ∧ Same H H' ∧ H' c = some (.lst (vN r)) ∧ 1 ≤ k ∧ k ≤ L.getD x 0 ∧ k ≤ - L.getD z 0 ∧
      ∀ j a b, j < i → (x :: r)[j]? = some a → (x :: r)[j + 1]? = some b → 0 < mget M b a → k ≤ mget M b a) ?_ ?_ ?_ ?_⟩
    · refine ⟨none, none, _, rfl, sc, upd_same, ?_, ?_, ?_, fun j a b hj => absurd hj (by omega)⟩ <;> split <;> omega
    · rintro i σ H' ⟨v4, v5, k, rfl, sm, hc, _⟩
      exact ⟨SqL.of (sm _ _ hW), SqL.of hc⟩
    · rintro i X Y T σ H' hX hY ⟨v4, v5, k, rfl, sm, hc, k1, k2, k3, k4⟩ hT
      obtain ⟨a, ha, rfl⟩ := vN_get hX
      obtain ⟨b, hb, rfl⟩ := vN_get hY
      have han := hlt a (List.mem_of_getElem? ha)
      have hbn := hlt b (List.mem_cons_of_mem _ (List.mem_of_getElem? hb))
      obtain ⟨rb, hrb, hrow⟩ := hM.get hS hbn
      have smT : Same H (upd H' T (.tup [.int (a : Nat), .int (b : Nat)])) := fun q o e => by rw [upd_ne (ne_of_none (sm _ _ e) hT)]; exact sm _ _ e
      have hcT : (upd H' T (.tup [.int (a : Nat), .int (b : Nat)])) c = some (.lst (vN r)) := by rw [upd_ne (ne_of_none hc hT)]; exact hc
      have gba : ((M.getD b []).map V.int)[a]? = some (.int (mget M b a)) := get_int (by rw [hS.2 b hbn]; exact han)
      refine ⟨T, _, rfl, SqT.of upd_same, rfl, _, _, rfl, _, _, rfl, rfl, ?_⟩
      refine ⟨_, rfl, _, rfl, mm, _, _, .ref rb, rfl, rfl, SqL.of (smT _ _ hM.top), atI_nat (by rw [List.getElem?_map, hrb]; rfl), _, rfl, rb, _, _, _, rfl, rfl, SqL.of (smT _ _ hrow), atI_nat gba, _, _, rfl, rfl, _, rfl, ite2 (fun e => ?_) (fun e => ?_)⟩
      · have e' := of_decide_eq_true e
        refine ⟨_, rfl, _, rfl, _, rfl, mm, _, _, .ref rb, rfl, rfl, SqL.of (smT _ _ hM.top), atI_nat (by rw [List.getElem?_map, hrb]; rfl), _, rfl, rb, _, _, _, rfl, rfl, SqL.of (smT _ _ hrow), atI_nat gba, _, _, rfl, ?_⟩
        refine ⟨_, _, _, rfl, smT, hcT, ?_, ?_, ?_, ?_⟩
        · split <;> omega
        · split <;> omega
        · split <;> omega
        · intro j a' b' hj h1 h2 h3
          by_cases ej : j = i
          · subst ej
            rw [ha] at h1
            have h2' : r[j]? = some b' := h2
            rw [hb] at h2'
            cases h1; cases h2'
            split <;> omega
          · have := k4 j a' b' (by omega) h1 h2 h3
            split <;> omega
      · have e' : ¬ 0 < mget M b a := fun z => e (decide_eq_true z)
        refine ⟨_, _, _, rfl, smT, hcT, k1, k2, k3, ?_⟩
        intro j a' b' hj h1 h2 h3
        by_cases ej : j = i
        · subst ej
          rw [ha] at h1
          have h2' : r[j]? = some b' := h2
          rw [hb] at h2'
          cases h1; cases h2'
          exact absurd h3 e'
        · exact k4 j a' b' (by omega) h1 h2 h3
    · rintro σ H1 ⟨v4, v5, k, rfl, sm, _, k1, k2, k3, k4⟩
      have hspare : EM.Spare (mget M) k (x :: r) := spare_of _ fun j a b h1 h2 h3 => k4 j a b (by
        have : j + 1 < (x :: r).length := (List.getElem?_eq_some_iff.1 h2).1
        simp at this; omega) h1 h2 h3
      -- zip(way, way[1:]) once more
      refine ⟨_, rfl, _, rfl, 1, rfl, wa, _, rfl, SqL.of (sm _ _ hW), fun c2 nc2 => ?_⟩
      rw [hdrop]
      have nc2H : H c2 = none := Evl.fresh_back sm nc2
      have s2 : Same H (upd H1 c2 (.lst (vN r))) := fun b o e => by rw [upd_ne (ne_of_none (sm _ _ e) nc2)]; exact sm _ _ e
      have hc2w : c2 ≠ wa := fun e => by rw [e, hW] at nc2H; cases nc2H
      have hc2r : c2 ∉ rm := fun e => by
        obtain ⟨i, hi, rfl⟩ := List.mem_iff_getElem.1 e
        have hin : i < f.w * f.h := by rw [← hS.1, ← hM.len]; exact hi
        obtain ⟨q, h1, h2⟩ := hM.get hS hin
        rw [List.getElem?_eq_getElem hi] at h1; cases h1
        rw [h2] at nc2H; cases nc2H
      have hc2l : c2 ≠ la := fun e => by rw [e, hL] at nc2H; cases nc2H
      refine ⟨wa, c2, vN (x :: r), vN r, rfl, SqL.of (s2 _ _ hW), SqL.of upd_same, zip_loop (xs := vN (x :: r)) (ys := vN r) r.length (by simp only [vN, List.length_map, List.length_cons]; omega) (fun i σ H' => ∃ (v4 v5 : Option V) (M' : List (List Int)),
        σ = [some (.ref mm), some (.ref la), some (.ref wa), some (.int k), v4, v5] ∧ (∀ b o, H b = some o → b ∉ rm → H' b = some o) ∧ H' c2 = some (.lst (vN r)) ∧ MatAt H' mm rm M' ∧ Sq (f.w * f.h) M' ∧
        ∀ a b, mget M' a b = ((EM.pairs (x :: r)).take i).foldl (EM.push k) (mget M) a b) ?_ ?_ ?_ ?_⟩
      · exact ⟨_, _, M, rfl, fun b o e _ => s2 _ _ e, upd_same, hM.same s2, hS, fun a b => rfl⟩
      · rintro i σ H' ⟨v4, v5, M', rfl, sm', hc, _⟩
        exact ⟨SqL.of (sm' _ _ hW hwa), SqL.of hc⟩
      · rintro i X Y T σ H' hX hY ⟨v4, v5, M', rfl, sm', hc, hM', hS', hg⟩ hT
        obtain ⟨a, ha, rfl⟩ := vN_get hX
        obtain ⟨b, hb, rfl⟩ := vN_get hY
        have han := hlt a (List.mem_of_getElem? ha)
        have hbn := hlt b (List.mem_cons_of_mem _ (List.mem_of_getElem? hb))
        have hpair := pairs_get (x :: r) i a b ha hb
        have htake : (EM.pairs (x :: r)).take (i + 1) = (EM.pairs (x :: r)).take i ++ [(a, b)] := by rw [List.take_add_one, hpair]; rfl
        generalize hHT : upd H' T (.tup [.int (a : Nat), .int (b : Nat)]) = HT
        have smT : Same H' HT := fun q o e => by rw [← hHT, upd_ne (ne_of_none e hT)]; exact e
        have hMT := hM'.same smT
        obtain ⟨rb, hrb, hrowb⟩ := hMT.get hS' hbn
        obtain ⟨ra, hra, hrowa⟩ := hMT.get hS' han
        have gba : ((M'.getD b []).map V.int)[a]? = some (.int (mget M' b a)) := get_int (by rw [hS'.2 b hbn]; exact han)
        have gab : ((M'.getD a []).map V.int)[b]? = some (.int (mget M' a b)) := get_int (by rw [hS'.2 a han]; exact hbn)
        refine ⟨T, _, rfl, SqT.of (by rw [← hHT]; exact upd_same), rfl, _, _, rfl, _, _, rfl, rfl, ?_⟩
        refine ⟨_, rfl, _, rfl, mm, _, _, .ref rb, rfl, rfl, SqL.of hMT.top, atI_nat (by rw [List.getElem?_map, hrb]; rfl), _, rfl, rb, _, _, _, rfl, rfl, SqL.of hrowb, atI_nat gba, _, _, rfl, rfl, _, rfl, ite2 (fun e => ?_) (fun e => ?_)⟩
        · have e' := of_decide_eq_true e
          have hrbm := List.mem_of_getElem? hrb
          refine ⟨_, rfl, _, rfl, mm, _, _, .ref rb, rfl, rfl, SqL.of hMT.top, atI_nat (by rw [List.getElem?_map, hrb]; rfl), _, rfl, rb, _, _, _, rfl, rfl, SqL.of hrowb, atI_nat gba, _, rfl, _, _, rfl, rfl, rb, _, _, a, rfl, rfl, hrowb, Evl.ixN_nat (by rw [List.length_map, hS'.2 b hbn]; exact han), ?_⟩
          refine ⟨_, _, _, rfl, ?_, ?_, hMT.set hS' hmm hbn hrb _, hS'.set b a _, ?_⟩
          · intro q o h1 h2
            rw [upd_ne (fun z => h2 (by rw [z]; exact hrbm))]
            exact smT _ _ (sm' q o h1 h2)
          · rw [upd_ne (fun z => hc2r (by rw [z]; exact hrbm))]; exact smT _ _ hc
          · intro i' j'
            rw [mget_set hS' hbn han, htake, List.foldl_append]
            have hgg : mget M' = ((EM.pairs (x :: r)).take i).foldl (EM.push k) (mget M) := by funext a b; exact hg a b
            rw [← hgg]
            show _ = EM.push k (mget M') (a, b) i' j'
            unfold EM.push
            simp only
            rw [if_pos e']
        · have e' : ¬ 0 < mget M' b a := fun z => e (decide_eq_true z)
          have hram := List.mem_of_getElem? hra
          refine ⟨_, rfl, _, rfl, mm, _, _, .ref ra, rfl, rfl, SqL.of hMT.top, atI_nat (by rw [List.getElem?_map, hra]; rfl), _, rfl, ra, _, _, _, rfl, rfl, SqL.of hrowa, atI_nat gab, _, rfl, _, _, rfl, rfl, ra, _, _, b, rfl, rfl, hrowa, Evl.ixN_nat (by rw [List.length_map, hS'.2 a han]; exact hbn), ?_⟩
          refine ⟨_, _, _, rfl, ?_, ?_, hMT.set hS' hmm han hra _, hS'.set a b _, ?_⟩
          · intro q o h1 h2
            rw [upd_ne (fun z => h2 (by rw [z]; exact hram))]
            exact smT _ _ (sm' q o h1 h2)
          · rw [upd_ne (fun z => hc2r (by rw [z]; exact hram))]; exact smT _ _ hc
          · intro i' j'
            rw [mget_set hS' han hbn, htake, List.foldl_append]
            have hgg : mget M' = ((EM.pairs (x :: r)).take i).foldl (EM.push k) (mget M) := by funext a b; exact hg a b
            rw [← hgg]
            show _ = EM.push k (mget M') (a, b) i' j'
            unfold EM.push
            simp only
            rw [if_neg e']
      · rintro σ H2 ⟨v4, v5, M', rfl, sm', hc, hM', hS', hg⟩
        rw [List.take_of_length_le (by rw [pairs_len]; simp)] at hg
        have hL2 := sm' _ _ hL hla
        have hW2 := sm' _ _ hW hwa
        -- left[way[0]] -= loads
        refine ⟨_, rfl, _, rfl, wa, _, 0, .int (x : Nat), rfl, rfl, SqL.of hW2, atI_nat (j := 0) rfl, la, _, _, _, rfl, rfl, SqL.of hL2, atI_nat gx, _, rfl, _, _, rfl, rfl, la, _, _, x, rfl, rfl, hL2, Evl.ixN_nat (by rw [List.length_map, hLn]; exact hxn), ?_⟩
        have hset1 : (L.map V.int).set x (.int (L.getD x 0 - k)) = (L.set x (L.getD x 0 - k)).map V.int := by rw [List.map_set]
        rw [hset1]
        have gz2 : ((L.set x (L.getD x 0 - k)).map V.int)[z]? = some (.int (L.getD z 0)) := by
          rw [List.getElem?_map, List.getElem?_set_ne hxz, ← List.getElem?_map]; exact gz
        have hW3 : (upd H2 la (.lst ((L.set x (L.getD x 0 - k)).map V.int))) wa = some (.lst (vN (x :: r))) := by rw [upd_ne hwl]; exact hW2
        -- left[way[-1]] += loads
        refine ⟨_, rfl, _, rfl, 1, rfl, wa, _, _, .int (z : Nat), rfl, rfl, SqL.of hW3, hlastV, la, _, _, _, rfl, rfl, SqL.of upd_same, atI_nat gz2, _, rfl, _, _, rfl, rfl, la, _, _, z, rfl, rfl, upd_same, Evl.ixN_nat (by rw [List.length_map, List.length_set, hLn]; exact hzn), ?_⟩
        have hset2 : ((L.set x (L.getD x 0 - k)).map V.int).set z (.int (L.getD z 0 + k)) = ((L.set x (L.getD x 0 - k)).set z (L.getD z 0 + k)).map V.int := by rw [List.map_set (l := L.set x (L.getD x 0 - k))]
        rw [hset2, upd_upd]
        refine q _ M' k k1 k2 k3 hspare ?_ hS' hg upd_same ?_
        · refine ⟨by rw [upd_ne hlm.symm]; exact hM'.top, hM'.len, fun i a row h1 h2 => ?_, hM'.nd⟩
          rw [upd_ne (fun e => hla (by rw [← e]; exact List.mem_of_getElem? h1))]
          exact hM'.row i a row h1 h2
        · intro b o h1 h2 h3
          rw [upd_ne h3]
          exact sm' b o h1 h2
end
end Earth
set_option linter.all false
set_option maxRecDepth 100000
set_option maxHeartbeats 2000000
namespace Keyed
open PySem PySem.Spec PyProof.Rows L2
/-- what a key function reads: t[x][0], t captured, x its parameter -/
structure Reads (h : Heap) (cl : List (Str × Addr)) (tn : Str) (sp : Addr) (its : Array Value) : Prop where
  cell : ∃ c, cl.lookup tn = some c ∧ h.IsCell c (some (.ref sp))
  list : h.IsList sp its

theorem Reads.keeps {h h' : Heap} {cl : List (Str × Addr)} {tn : Str} {sp : Addr} {its : Array Value} (r : Reads h cl tn sp its) (k : ∀ b o, h.get? b = some o → h'.get? b = some o) : Reads h' cl tn sp its := by
  obtain ⟨c, h1, h2⟩ := r.cell
  obtain ⟨o, h3, h4⟩ := r.list
  exact ⟨⟨c, h1, h2.keeps k⟩, ⟨o, k _ _ h3, h4⟩⟩

section
variable {prog : Program} {w : World} {A : Around} {s : Shared}
/-- one call of it -/
theorem turn {f c' : Addr} {qual : Str} {params : Arguments} {scope : Scope} {cl : List (Str × Addr)} {pm ctv : Value} {tn xn : Str} {p1 p2 p3 p4 p5 : Pos} {j : Nat} {sp q : Addr} {its tup : Array Value} {k : Nat} {t u : Tok} {c : Int}
    (hroom : A.depth < recursionLimit) (hlim : s.heap.NoLimit)
    (hf : s.heap.get? f = some (PySem.W.kla_obj "<lambda>" qual params (.Subscript (.Subscript (.Name tn p1) (.Name xn p2) p3) (.Constant (.int 0) j p4) p5) scope cl pm c' ctv))
    (hcode : s.heap.CodeRec (.ref c') qual)
    (hk : scope.kind = .function) (hco : scope.isCoroutine = false) (hgen : scope.isGenerator = false) (hnc : ∀ x ∈ scope.names, x.2 ≠ .cell) (hloc : scope.names.lookup xn = some .local) (hfree : scope.names.lookup tn = some .free)
    (hbind : ∀ v : Value, bindArgs (PySem.W.kla_fn "<lambda>" qual params (.Subscript (.Subscript (.Name tn p1) (.Name xn p2) p3) (.Constant (.int 0) j p4) p5) scope cl pm (.ref c') ctv) ⟨[v], []⟩ = pure [(xn, v)])
    (hr : Reads s.heap cl tn sp its) (hit : its[k]? = some (.ref q)) (hkl : k < 1000) (htup : IsTup s.heap q tup) (htl : tup.size < 1000) (hc : tup[0]? = some (.int c u))
    (hdx : (xn == ("__debug__" : Str)) = false) (hdt : (tn == ("__debug__" : Str)) = false) (hct : (tn == ("__classdict__" : Str)) = false) :
    wpAny (model prog w) A (call (.ref f) [.int (k : Int) t]) (fun v s' => ∃ h' tk t', s' = { s with heap := h', toks := tk } ∧ v = .int c t' ∧ ∀ b o, s.heap.get? b = some o → h'.get? b = some o) (fun _ _ => False) s := by
  refine wpAny_call (PySem.W.kla_callFunE hroom hf rfl hco hgen rfl hcode ?_)
  rw [hbind]
  refine wpAny_pure (wpAny_newFunctionEnv hnc (fun y hy => ?_) (fun h₁ hns hsb => ?_) hk)
  · rw [List.mem_singleton] at hy; subst hy; exact hloc
  · have kp : ∀ b o, s.heap.get? b = some o → h₁.get? b = some o := fun b o e => hsb.extBut b o (Nat.ne_of_lt (Heap.lt_size e)) (Heap.get?_push_of_some _ e)
    refine ⟨hlim.keeps kp, PySem.W.kla_codeExpr ?_⟩
    generalize hE : (fun e' s' => wpAny (model prog w) _ (leaving _ e') (fun _ s'' => _) (fun e'' s'' => _) s') = EE
    obtain ⟨cc, hl1, hcell⟩ := hr.cell
    have hr1 := hr.keeps kp
    have ht1 : IsTup h₁ q tup := by
      obtain ⟨o, h1, h2⟩ := htup
      exact ⟨o, kp _ _ h1, h2⟩
    refine Subscript_ (Subscript_ (wpAny_Name (wpAny_loadName_free hk hfree hl1 (hcell.keeps kp) (wpAny_Name (wpAny_loadName_local hk hloc hns (v := .int (k : Int) t) (by simp) ?_) hdx) hct) hdt))
    refine item_listR (x := .ref q) hr1.list (by omega) (by omega) (by rw [Int.toNat_natCast]; exact hit) ?_ rfl
    refine wpAny_Constant_int ?_
    refine subscriptTail_builtinR (x := .int c u) ht1.typeIs slot_tuple_getitem.lookup (getItem_tuple (j := 0) ht1 (by omega) (by omega) ?_ hc ⟨rfl, ?_⟩) rfl
    · have hs0 : 0 < tup.size := by
        by_cases e : 0 < tup.size
        · exact e
        · rw [Array.getElem?_eq_none (by omega)] at hc; cases hc
      exact seqIndex_of (by omega) (by omega)
    · exact ⟨h₁, _, u, rfl, rfl, kp⟩
end
/-- every object of a heap but one -/
def others (h : Heap) (L : Addr) : List (Addr × Obj) := (List.range h.objs.size).filterMap fun b => if b = L then none else (h.get? b).map fun o => (b, o)
theorem mem_others {h : Heap} {L b : Addr} {o : Obj} (e : h.get? b = some o) (hb : b ≠ L) : (b, o) ∈ others h L :=
  List.mem_filterMap.2 ⟨b, List.mem_range.2 (Heap.lt_size e), by rw [if_neg hb, e]; rfl⟩
theorem others_mem {h : Heap} {L : Addr} {p : Addr × Obj} (e : p ∈ others h L) : h.get? p.1 = some p.2 ∧ p.1 ≠ L := by
  obtain ⟨b, _, e2⟩ := List.mem_filterMap.1 e
  split at e2
  · cases e2
  · rename_i hb
    cases e3 : h.get? b with
    | none => rw [e3] at e2; cases e2
    | some o => rw [e3] at e2; cases e2; exact ⟨e3, hb⟩
def hollow : Heap := { objs := #[] }
theorem hollow_get (b : Addr) : hollow.get? b = none := Heap.get?_none_of_le (Nat.zero_le _)
theorem hollow_no {b : Addr} {o : Obj} (e : hollow.get? b = some o) : False := by rw [hollow_get] at e; cases e
section
variable {X : Cx} {pins : List (Addr × Obj)} {σ : L2.St} {H : Hp} {s : Shared}
/-- all but the frame's own record stand, and that one tells the same -/
theorem inv_others {h' : Heap} {t' : Nat} {m : Str → Option Value} (I : Inv X pins σ H s) (k : ∀ b o, b ≠ X.env.locals → s.heap.get? b = some o → h'.get? b = some o) (hm : s.heap.Ns X.env.locals m) (hm' : h'.Ns X.env.locals m) :
    Inv X pins σ H { s with heap := h', toks := t' } := by
  have nL : ∀ b u, H b = some u → b ≠ X.env.locals := fun b u e z => by
    rw [z, I.free] at e; cases e
  refine I.step (g' := s.gens) (d' := s.drawn) (ch := []) (fun b hb => nomatch hb) (fun b o h1 _ _ e _ => k b o h1 e) (fun b o h1 _ _ e _ => ⟨o.slots, k b o h1 e⟩) (fun _ _ _ _ e => e) (fun b o _ e => ?_)
    (fun _ _ e => e) (fun _ _ _ e => e) (fun b ps e => ⟨#[], by rw [Array.append_empty]; exact e⟩) (fun m2 h2 => ?_) (fun b u e => ?_) I.bare
  · by_cases hb : b = X.env.locals
    · rw [hb]; obtain ⟨o2, _, _, e2, _⟩ := hm'; exact ⟨o2, e2⟩
    · exact ⟨o, k b o hb e⟩
  · have e2 : m2 = m := h2.eq_nsMap.trans hm.eq_nsMap.symm
    rw [e2]; exact hm'
  · refine (I.hok b u e).stay (fun d v hd q => k d v ?_ q) (fun _ q => q) fun _ _ q => q
    rcases hd with z | z
    · rw [z]; exact nL b u e
    · exact nL d _ z
theorem min_run {l f : Addr} {vs : List Value} {Q : Value → Shared → Prop} {E : Value → Shared → Prop} (I : Inv X pins σ H s) (hc : X.A.handled = none) (hl : s.heap.IsList l vs.toArray) (hne : 0 < vs.length) (kf : Nat → Int)
    (turn : ∀ (i : Nat) (v : Value), vs[i]? = some v → ∀ (h : Heap) (tk : Nat), (∀ b o, b ≠ X.env.locals → s.heap.get? b = some o → h.get? b = some o) →
      wpAny (model X.prog X.w) X.A.in1 (call (.ref f) [v]) (fun u s' => ∃ h' tk' t', s' = { s with heap := h', toks := tk' } ∧ u = .int (kf i) t' ∧ ∀ b o, h.get? b = some o → h'.get? b = some o) (fun _ _ => False) { s with heap := h, toks := tk })
    (hQ : ∀ (i : Nat) (v : Value) (h' : Heap) (tk' : Nat), vs[i]? = some v → Inv X pins σ H { s with heap := h', toks := tk' } → (∀ b o, b ≠ X.env.locals → s.heap.get? b = some o → h'.get? b = some o) → Q v { s with heap := h', toks := tk' }) :
    wpAny (model X.prog X.w) X.A (call (.builtin "min") [.ref l] [(Str.ofString "key", .ref f)]) Q E s := by
  obtain ⟨m, hm, _⟩ := I.loc
  have hlL : l ≠ X.env.locals := fun z => by
    obtain ⟨o, e1, e2, n, e3⟩ := hl
    obtain ⟨o', es, ep, e4, e5, _⟩ := hm
    rw [z, e4] at e1
    cases e1
    rw [e5] at e3
    cases e3
  have all : ∀ {h : Heap} {own : List (Addr × Obj)}, News hollow X.env.locals h (others s.heap X.env.locals ++ own) → ∀ b o, b ≠ X.env.locals → s.heap.get? b = some o → h.get? b = some o :=
    fun N b o hb e => (N (b, o) (List.mem_append_left _ (mem_others e hb))).1
  have all0 : ∀ {h : Heap}, News hollow X.env.locals h (others s.heap X.env.locals) → ∀ b o, b ≠ X.env.locals → s.heap.get? b = some o → h.get? b = some o :=
    fun N b o hb e => (N (b, o) (mem_others e hb)).1
  refine kmk_min (h₀ := hollow) (L := X.env.locals) (m := m) (news := others s.heap X.env.locals) (vs := vs) kf hc ⟨hm, fun b o e => (hollow_no e).elim, Nat.zero_le _⟩
    (fun p hp => ⟨(others_mem hp).1, (others_mem hp).2, hollow_get _⟩) (fun h _ N => ?_) hne (fun i v hv h tk own F N => ?_) (fun i v h' tk' hv _ F N => ?_)
  · obtain ⟨o, e1, e2⟩ := hl
    exact ⟨o, all0 N l o hlL e1, e2⟩
  · refine wpAny_mono (turn i v hv h tk (all N)) (fun u s' he => ?_) fun _ _ z => z
    obtain ⟨h', tk', t', rfl, rfl, kp⟩ := he
    exact ⟨h', tk', t', rfl, rfl, ⟨F.ns.keeps kp, fun b o e => (hollow_no e).elim, Nat.zero_le _⟩, fun p hp => ⟨kp _ _ (N p hp).1, (N p hp).2⟩⟩
  · exact hQ i v h' tk' hv (inv_others I (all0 N) hm F.ns) (all0 N)
end
end Keyed
set_option linter.all false
set_option maxRecDepth 100000
set_option maxHeartbeats 2000000
namespace Keyed
open PySem PySem.Spec PyProof.Rows L2
/-- min(e, key=lambda x: t[x][0]): e a list of places, t (slot i) a list of tuples -/
def tMinKey (K : PySem.W.Frag) (T : List (Addr × Str)) (i : Nat) (ta : TA) : TE := fun σ H Q => ta σ H fun vs H1 => ∃ (l sp : Addr) (ns : List Nat) (us : List V),
  vs = [.ref l] ∧ SqL K H1 l (ns.map fun (n : Nat) => V.int (n : Int)) ∧ ns ≠ [] ∧ σ[i]? = some (some (.ref sp)) ∧ H1 sp = some (.lst us) ∧ us.length < 1000 ∧ LamX.Tabs T H1 ∧
  (∀ n, n ∈ ns → ∃ (q : Addr) (c : Int) (more : List V), us[n]? = some (.ref q) ∧ H1 q = some (.tup (.int c :: more)) ∧ more.length < 900) ∧
  ∀ H2, LamX.ExtN H1 H2 → LamX.Tabs T H2 → ∀ n, n ∈ ns → Q (.int (n : Nat)) H2
section
variable {X : Cx}
theorem pe_minKey {T : List (Addr × Str)} {c P : Addr} {i k : Nat} {e : Expr} {ta : TA} {params : Arguments} {scope : Scope} {tn xn : Str} {p p1 p2 p3 p4 p5 lpos kpos pos : Pos} {j : Nat}
    (hr : Room k X.A) (hg : Gl X "min") (hm : X.mg "min" = none) (ha : PA X [e] ta) (TB : LamX.TabB X.base X.mg c P) (hcode : X.env.code = .ref c) (hmT : (P, X.env.qual ++ "<lambda>") ∈ T) (hu : ∀ q ∈ T, q.1 = P → q.2 = X.env.qual ++ "<lambda>")
    (hdef : defaultsOf params X.env = ([], [])) (hN : X.N[i]? = some tn) (hcell : X.env.scope.names.lookup tn = some .cell)
    (hk : scope.kind = .function) (hco : scope.isCoroutine = false) (hgen : scope.isGenerator = false) (hnc : ∀ y ∈ scope.names, y.2 ≠ .cell) (hloc : scope.names.lookup xn = some .local) (hfree : scope.names.lookup tn = some .free) (hone : ∀ y ∈ scope.names, y.2 = .free → y.1 = tn)
    (hbind : ∀ (q : Str) (cl : List (Str × Addr)) (pm cv ctv v : Value), bindArgs (PySem.W.kla_fn "<lambda>" q params (.Subscript (.Subscript (.Name tn p1) (.Name xn p2) p3) (.Constant (.int 0) j p4) p5) scope cl pm cv ctv) ⟨[v], []⟩ = pure [(xn, v)])
    (hdx : (xn == ("__debug__" : Str)) = false) (hdt : (tn == ("__debug__" : Str)) = false) (hct : (tn == ("__classdict__" : Str)) = false)
    (hs : starEach [e] X.env = [(false, eval e X.env)] := by rfl) :
    PE X (.Call (.Name "min" p) [e] [⟨some "key", .Lambda params (.Subscript (.Subscript (.Name tn p1) (.Name xn p2) p3) (.Constant (.int 0) j p4) p5) scope lpos, kpos⟩] pos) (tMinKey X.K T i ta) := by
  refine ⟨fun pins s σ H Q I h => ?_⟩
  refine wpAny_Call_Name_kw (ld_blt (u := .builtin "min") I hg hm (by decide +kernel) ?_)
  refine callWith_kw (thn (ha.run pos pins s σ H _ I h) fun us0 s1 ⟨vs, H1, I1, r1, q1⟩ => ?_) (by rw [hs]; rfl) (by rw [hs]; rfl) (by rfl) (by rfl)
  obtain ⟨l, sp, ns, us, rfl, hL, hne, hsl, hsp, husl, hT, htup, q⟩ := q1
  cases r1 with
  | cons r1 r2 =>
    cases r2
    cases r1
    have hfr : ∀ y ∈ scope.names, y.2 = .free → ∃ c, X.env.cells.lookup y.1 = some c := fun y hy e => by
      rw [hone y hy e]; exact I1.ok.has tn (.inl hcell)
    refine kws_cons (LamX.lam_make2 I1 TB hcode hmT hu hT hdef hfr fun f c' pm ctv H2 s2 I2 eN hT2 hf hfn hfs hco2 => kws_nil ?_)
    show wpAny _ _ (call (.builtin "min") [.ref l] [(Str.ofString "key", .ref f)]) _ _ s2
    have notT : ∀ {o : HO}, (∀ xs, o = .lst xs → ∀ ps, o ≠ .tbl ps) := fun xs e ps z => by rw [e] at z; cases z
    have hsp2 : H2 sp = some (.lst us) := eN _ _ hsp (fun ps z => by cases z)
    have hL2 : SqL X.K H2 l (ns.map fun (n : Nat) => V.int (n : Int)) := by
      rcases hL with h1 | h1
      · refine .inl ?_
        rcases h1 with h1 | ⟨o, h1⟩
        · exact .inl (eN _ _ h1 (fun ps z => by cases z))
        · exact .inr ⟨o, eN _ _ h1 (fun ps z => by cases z)⟩
      · exact .inr h1
    obtain ⟨its, rv, pl, hz⟩ := I2.list hL2
    obtain ⟨m, hm2, hlk⟩ := I2.loc
    have notL : ∀ {b : Addr} {o : Obj}, s2.heap.get? b = some o → (∀ es ep, o.data ≠ .dict es ep) → b ≠ X.env.locals := fun {b o} e hd z => by
      obtain ⟨o', es, ep, e4, e5, _⟩ := hm2
      rw [z, e4] at e
      cases e
      exact hd es ep e5
    -- the list that is captured
    obtain ⟨u, ru, lk⟩ := hlk i tn (.ref sp) hN hsl (.inr (.inl hcell))
    cases ru
    obtain ⟨cc, hcc, hcv⟩ : ∃ cc, X.env.cells.lookup tn = some cc ∧ s2.heap.IsCell cc (some (.ref sp)) := by
      rcases lk with ⟨h1, _⟩ | ⟨_, cc, h2, h3⟩
      · have h1' : X.env.scope.names.lookup tn = some .local := h1
        rw [hcell] at h1'; cases h1'
      · exact ⟨cc, h2, h3⟩
    have hclo : (cloFrom X.env.cells scope.names []).lookup tn = some cc := by
      have hmem : (tn, NameKind.free) ∈ scope.names := PySem.mem_of_lookup hfree
      obtain ⟨c2, h2⟩ := mem_lookup (cloFrom_has (cells := X.env.cells) (acc := []) hmem)
      rcases cloFrom_mem (PySem.mem_of_lookup h2) with h3 | ⟨_, h3⟩
      · cases h3
      · rw [hcc] at h3
        rw [h2, h3]; rfl
    obtain ⟨uts, rus, plu, _⟩ := I2.list (SqL.of hsp2)
    obtain ⟨⟨oc, vc, tc, hoc, hdc, hvc⟩, _, _⟩ := I2.hok c' _ hco2
    have hlen := rv.length
    have hlen' : ns.length = its.length := by rw [← hlen, List.length_map]
    -- what each place's key is
    have hkey : ∀ (a : Nat) (v : Value), its[a]? = some v → ∃ (n : Nat) (t : Tok), v = .int (n : Int) t ∧ n ∈ ns ∧ ns[a]? = some n := fun a v hv => by
      have ha2 : a < ns.length := by rw [hlen']; exact (List.getElem?_eq_some_iff.1 hv).1
      obtain ⟨w2, hw2, rw2⟩ := rv.get (i := a) (x := V.int ((ns[a] : Nat) : Int)) (by simp [ha2])
      rw [hv] at hw2
      cases hw2
      obtain ⟨t, rfl⟩ := rw2
      exact ⟨ns[a], t, rfl, List.getElem_mem ha2, List.getElem?_eq_getElem ha2⟩
    have hkf : ∃ kf : Nat → Int, ∀ n, n ∈ ns → ∃ (q : Addr) (more : List V), us[n]? = some (.ref q) ∧ H1 q = some (.tup (.int (kf n) :: more)) ∧ more.length < 900 := by
      refine ⟨fun n => if hn : n ∈ ns then Classical.choose (Classical.choose_spec (htup n hn)) else 0, fun n hn => ?_⟩
      simp only [dif_pos hn]
      obtain ⟨more, h3⟩ := Classical.choose_spec (Classical.choose_spec (htup n hn))
      exact ⟨_, more, h3⟩
    obtain ⟨kf, hkf⟩ := hkf
    refine min_run (Q := EP X pins σ Q) I2 hr.hd pl.isList (by rw [← hlen', List.length_pos_iff]; exact hne) (fun a => kf (ns.getD a 0)) (fun a v hv h tk keep => ?_) (fun a v h' tk' hv I3 _ => ?_)
    · obtain ⟨n, t, rfl, hn, hna⟩ := hkey a v hv
      have hgd : ns.getD a 0 = n := by simp [List.getD, hna]
      rw [hgd]
      obtain ⟨q2, more, h1, h2, h3⟩ := hkf n hn
      have hq2 : H2 q2 = some (.tup (.int (kf n) :: more)) := eN _ _ h2 (fun ps z => by cases z)
      obtain ⟨tts, rt, plt, _⟩ := I2.tuple (SqT.of hq2)
      obtain ⟨w3, hw3, rw3⟩ := rus.get h1
      cases rw3
      obtain ⟨w4, hw4, rw4⟩ := rt.get (i := 0) (x := V.int (kf n)) rfl
      obtain ⟨t4, rfl⟩ := rw4
      have hnl : n < 1000 := by
        have := (List.getElem?_eq_some_iff.1 h1).1
        omega
      have hcells : ∀ b o, X.base.get? b = some o → h.get? b = some o := fun b o e => keep b o (Nat.ne_of_lt (Nat.lt_of_lt_of_le (Heap.lt_size e) (Nat.le_trans I2.ok.bsz I2.ok.above))) (I2.bk b o e)
      refine turn (s := { s2 with heap := h, toks := tk }) (A := X.A.in1) (f := f) (c' := c') (qual := X.env.qual ++ "<lambda>") (cl := cloFrom X.env.cells scope.names []) (pm := pm) (ctv := ctv) (tn := tn) (xn := xn) (sp := sp) (q := q2) (its := uts.toArray) (tup := tts.toArray) (k := n) (u := t4) (c := kf n) ?_ ?_ ?_ ?_ hk hco hgen hnc hloc hfree (fun v => hbind _ _ _ _ _ v) ?_ ?_ hnl ?_ ?_ ?_ hdx hdt hct
      · have := hr.dp
        show X.A.depth < _
        omega
      · exact I2.ok.mod.nolimit.keeps hcells
      · exact keep f _ (notL hf (fun es ep z => by cases z)) hf
      · exact ⟨c', oc, vc, tc, rfl, keep c' oc (notL hoc (fun es ep z => by rw [hdc] at z; cases z)) hoc, hdc, hvc⟩
      · refine ⟨⟨cc, hclo, ?_⟩, ?_⟩
        · obtain ⟨o, e1, e2⟩ := hcv
          exact ⟨o, keep cc o (notL e1 (fun es ep z => by rw [e2] at z; cases z)) e1, e2⟩
        · obtain ⟨o, e1, e2, n2, e3⟩ := plu.isList
          exact ⟨o, keep sp o (notL e1 (fun es ep z => by rw [e3] at z; cases z)) e1, e2, n2, e3⟩
      · simpa using hw3
      · obtain ⟨o, e1, e2, n2, e3⟩ := plt
        refine ⟨o, keep q2 o (notL e1 (fun es ep z => ?_)) e1, e2, n2, e3⟩
        rw [e3] at z; cases z
      · have := rt.length
        rw [List.size_toArray, ← this, List.length_cons]; omega
      · simpa using hw4
    · obtain ⟨n, t, rfl, hn, hna⟩ := hkey a v hv
      exact ⟨.int (n : Int), H2, I3, ⟨t, rfl⟩, q H2 eN hT2 n hn⟩
end
end Keyed
set_option linter.all false
set_option maxRecDepth 100000
set_option maxHeartbeats 4000000
namespace Turned
open PySem PySem.Spec PyProof.Rows L2
theorem no_len : typeLookup (.type "list_reverseiterator") "__len__" = pure none := by rw [typeLookup_type, builtinLookup_eq_fast]; kernel_rfl
theorem the_hint : typeLookup (.type "list_reverseiterator") "__length_hint__" = pure (some (.builtin "list_reverseiterator.__length_hint__")) := by
  rw [typeLookup_type, builtinLookup_eq_fast]
  kernel_rfl
section
variable {prog : Program} {w : World} {A : Around} {E : Value → Shared → Prop} {s : Shared}
/-- how long it is isn't asked of what walks a list from its end -/
theorem hint_none {it l : Addr} {i : Int} {Q : Bool → Shared → Prop} (hit : s.heap.IsRevIter it l i) (fin : Q false s) : wpAny (model prog w) A (Builtin.List.listLengthHint (.ref it)) Q E s := by
  unfold Builtin.List.listLengthHint
  refine wpAny_bind (wpAny_specialOf hit.typeIs no_len ?_)
  wp_delta
  refine wpAny_ite_split (fun no => absurd no (by decide +kernel)) (fun _ => ?_)
  refine wpAny_ite_split (fun no => absurd no (by decide)) (fun _ => ?_)
  refine wpAny_bind (wpAny_specialOf hit.typeIs the_hint ?_)
  generalize hid : ("list_reverseiterator.__length_hint__" : String) = own
  wp_delta
  rw [show splitId own = some ("list_reverseiterator", "__length_hint__") from by subst hid; decide +kernel]
  subst hid
  refine wpAny_bind (wpAny_isInstance (T := "list_reverseiterator") (b := true) hit.typeIs (by rw [isSubtype_type]; kernel_rfl) ?_)
  refine wpAny_ite_split (fun no => absurd no (by decide)) (fun _ => ?_)
  refine wpAny_ite_split (fun _ => ?_) (fun no => absurd (by decide +kernel) no)
  refine wpAny_ite_split (fun no => absurd no (by decide)) (fun _ => ?_)
  exact wpAny_pure fin
/-- a list's items are taken over from its end -/
theorem extend_rev {R : Result → Shared → Prop} {it l S : Addr} {items : Array Value} {res : Value} {c0 : Nat} (hh : A.handled = none) (hit : s.heap.IsRevIter it l ((items.size : Int) - 1)) (hl : s.heap.IsList l items) (hne : l ≠ it) (hz : items.size ≤ sizeLine)
    (hS : s.heap.get? S = some { cls := .type "list", data := .seq #[] c0 }) (hSl : S ≠ l)
    (hR : ∀ h' tk acc c', (∀ b o, b ≠ S → b ≠ it → s.heap.get? b = some o → h'.get? b = some o) → h'.get? S = some { cls := .type "list", dict := none, data := .seq acc c', slots := #[] } →
      ItemsOf (fun i v => items[items.size - 1 - i]? = some v) acc items.size → R (.ok (.ret res)) { s with heap := h', toks := tk }) :
    wpAny (model prog w) A.in1 (Builtin.List.listExtendWith (.ref S) (.ref it) res)
      (fun f s' => match f with | .done fl => R (.ok fl) s' | .again code => code.quiet = true ∧ codeAny (model prog w) A code R s') (fun e s' => R (.error e) s') s := by
  have hSi : S ≠ it := fun e => by
    obtain ⟨o, e1, e2, _⟩ := hit
    rw [← e, hS] at e1; cases e1
    exact absurd (Value.type.inj e2) (by decide)
  unfold Builtin.List.listExtendWith
  refine wpAny_bind (wpAny_typeOf hit.typeIs ?_)
  have n1 : Builtin.List.listSameRef (.ref S) (.ref it) = false := by simp [Builtin.List.listSameRef, hSi]
  have n2 : (Value.type "list_reverseiterator" == Value.type "list") = false := by decide
  have n3 : (Value.type "list_reverseiterator" == Value.type "tuple") = false := by decide
  simp only [n1, n2, n3, Bool.or_false, Bool.false_eq_true, if_false]
  refine wpAny_bind (wpAny_pyIter_revIter hit ?_)
  refine wpAny_bind (wpAny_holding (hint_none hit ?_))
  refine wpAny_ite_split (fun no => absurd no (by decide +kernel)) (fun _ => ?_)
  have W := (Walks.listRev (prog := prog) (w := w) (A := A.in1) hh it l hne items).toS
  refine wpAny_pure ⟨plainId_quiet F.plain_extend_loop _, ?_⟩
  refine codeAny_extend_loopS W hz S ?_ res items.size 0 s #[] c0 rfl (Nat.zero_le _) ?_ hS (ItemsOf.nil _) fun s' acc c' hm hS' hacc => ?_
  · intro hmem
    rcases List.mem_cons.mp hmem with e | e
    · exact hSi e
    · exact hSl (List.mem_singleton.mp e)
  · exact ⟨Nat.zero_le _, by simpa using hit, hl⟩
  · rw [Moved.eq_with hm]
    refine hR s'.heap s'.toks acc c' (fun b o h1 h2 e => hm.heap b o (fun hmem => ?_) e) hS' hacc
    rcases List.mem_cons.mp hmem with e' | e'
    · exact h1 e'
    · exact h2 (List.mem_singleton.mp e')
theorem call_list_rev {it l : Addr} {items : Array Value} {Q : Value → Shared → Prop} (hh : A.handled = none) (hit : s.heap.IsRevIter it l ((items.size : Int) - 1)) (hl : s.heap.IsList l items) (hne : l ≠ it) (hz : items.size ≤ sizeLine)
    (hQ : ∀ h' tk acc c', (∀ b o, b ≠ it → s.heap.get? b = some o → h'.get? b = some o) → h'.get? s.heap.objs.size = some { cls := .type "list", dict := none, data := .seq acc c', slots := #[] } →
      ItemsOf (fun i v => items[items.size - 1 - i]? = some v) acc items.size → Q (.ref s.heap.objs.size) { s with heap := h', toks := tk }) :
    wpAny (model prog w) A (call (.type "list") [.ref it]) Q E s := by
  have lt1 : it < s.heap.objs.size := by obtain ⟨o, e, _⟩ := hit; exact Heap.lt_size e
  have lt2 : l < s.heap.objs.size := by obtain ⟨o, e, _⟩ := hl; exact Heap.lt_size e
  refine callType_codes (Q₁ := fun v s1 => v = .ref s.heap.objs.size ∧ s1 = { s with heap := s.heap.push { cls := .type "list", data := .seq #[] } }) F.called_list (F.typeCall_list_1 _) F.entry_list_init
    (code_list_new _ ⟨rfl, rfl⟩) fun v s1 hv => ?_
  obtain ⟨rfl, rfl⟩ := hv
  have new : (s.heap.push { cls := .type "list", data := .seq #[] }).get? s.heap.objs.size = some { cls := .type "list", data := .seq #[] } := Heap.get?_push_size _ rfl
  have up : ∀ b o, s.heap.get? b = some o → (s.heap.push { cls := .type "list", data := .seq #[] }).get? b = some o := fun b o e => Heap.get?_push_of_some _ e
  refine ⟨⟨_, new, rfl⟩, F.args_list_init_2 _ _, ?_⟩
  show wpAny _ _ (do let old ← Builtin.List.listItems (.ref s.heap.objs.size); Builtin.List.listUpdate (.ref s.heap.objs.size) (fun _ => #[]); letGo old.toList.reverse; Builtin.List.listExtendWith (.ref s.heap.objs.size) (.ref it) .none) _ _ _
  refine wpAny_bind ?_
  unfold Builtin.List.listItems
  refine wpAny_bind (wpAny_seqItems new rfl (wpAny_pure ?_))
  show wpAny _ _ (updateSeq s.heap.objs.size (fun _ => #[]) >>= fun _ => letGo (#[] : Array Value).toList.reverse >>= fun _ => Builtin.List.listExtendWith (.ref s.heap.objs.size) (.ref it) .none) _ _ _
  refine wpAny_bind (wpAny_updateSeq new rfl ?_)
  have new2 := Heap.get?_update_self (Obj.mapSeq (fun _ => (#[] : Array Value))) new rfl
  have side : ∀ b o, b ≠ s.heap.objs.size → s.heap.get? b = some o → ((s.heap.push { cls := .type "list", data := .seq #[] }).update s.heap.objs.size (Obj.mapSeq (fun _ => (#[] : Array Value)))).get? b = some o :=
    fun b o hb e => (Heap.get?_update_other _ _ (Ne.symm hb)).trans (up b o e)
  refine wpAny_bind (wpAny_letGo ?_)
  refine extend_rev (A := A.in1) hh ?_ ?_ hne hz new2 (Nat.ne_of_gt lt2) fun h' tk acc c' hk hS' hacc => ?_
  · obtain ⟨o, e, r⟩ := hit
    exact ⟨o, side _ _ (Nat.ne_of_lt lt1) e, r⟩
  · obtain ⟨o, e, r⟩ := hl
    exact ⟨o, side _ _ (Nat.ne_of_lt lt2) e, r⟩
  · exact ⟨rfl, hQ h' tk acc c' (fun b o hb e => hk b o (Nat.ne_of_lt (Heap.lt_size e)) hb (side b o (Nat.ne_of_lt (Heap.lt_size e)) e)) hS' hacc⟩
end
/-- list(reversed(x)), x a list: a new list -/
def tListRev (K : PySem.W.Frag) (te : TE) : TE := fun σ H Q => te σ H fun v H1 => ∃ (a : Addr) (xs : List V), v = .ref a ∧ SqL K H1 a xs ∧ ∀ q, H1 q = none → Q (.ref q) (upd H1 q (.lst xs.reverse))
section
variable {X : Cx}
theorem pe_listRev {e : Expr} {te : TE} {p p2 pos pos2 : Pos} (hc : X.calm = true) (hg : Gl X "list") (hm : X.mg "list" = none) (hg2 : Gl X "reversed") (hm2 : X.mg "reversed" = none) (he : PE X e te)
    (s1 : starEach [e] X.env = (false, eval e X.env) :: starEach [] X.env := by rfl)
    (s2 : starEach [.Call (.Name "reversed" p2) [e] [] pos2] X.env = (false, eval (.Call (.Name "reversed" p2) [e] [] pos2) X.env) :: starEach [] X.env := by rfl) :
    PE X (.Call (.Name "list" p) [.Call (.Name "reversed" p2) [e] [] pos2] [] pos) (tListRev X.K te) := by
  refine ⟨fun pins s σ H Q I h => ?_⟩
  refine Call_ (ld_blt (u := .type "list") I hg hm (by decide +kernel) (PyProof.Rows.callWith_type1 (args_cons (Call_ (ld_blt (u := .type "reversed") I hg2 hm2 (by decide +kernel)
    (PyProof.Rows.callWith_type1 (args_cons (thn (he.run pins s σ H _ I h) fun u sa ⟨v, H1, I1, r1, q1⟩ => args_nil ?_) s1) s1 rfl))) s2) s2 rfl))
  obtain ⟨a, xs, rfl, hq, q⟩ := q1
  cases r1
  obtain ⟨its, rv, pl, hz⟩ := I1.list hq
  refine call_reversed_list pl.isList (args_nil ?_)
  have hl := pl.isList
  have lta : a < sa.heap.objs.size := by obtain ⟨o, e, _⟩ := hl; exact Heap.lt_size e
  have hn : its.toArray.size ≤ sizeLine := by rw [List.size_toArray, ← rv.length]; exact hz
  have hsz : (sa.heap.push (revObj a ((its.toArray.size : Int) - 1))).objs.size = sa.heap.objs.size + 1 := Heap.size_push ..
  refine call_list_rev (s := { sa with heap := sa.heap.push (revObj a ((its.toArray.size : Int) - 1)) }) (it := sa.heap.objs.size) (I1.ok.hd hc) ⟨_, Heap.get?_push_size _ rfl, rfl, rfl⟩ (hl.push _) (Nat.ne_of_lt lta) hn fun h' tk acc c' hk hS hacc => ?_
  have keep : ∀ b o, sa.heap.get? b = some o → h'.get? b = some o := fun b o e => hk b o (Nat.ne_of_lt (Heap.lt_size e)) (Heap.get?_push_of_some _ e)
  refine ⟨.ref (sa.heap.push (revObj a ((its.toArray.size : Int) - 1))).objs.size, upd H1 _ (.lst xs.reverse), I1.laid (t' := tk) keep (by rw [hsz]; exact Nat.le_succ _) ?_, rfl, q _ (I1.hok.fresh (by rw [hsz]; exact Nat.le_succ _))⟩
  exact ⟨by rw [List.length_reverse]; exact hz, acc.toList, c', RT.vals_rev rv hacc, by rw [Array.toArray_toList]; exact hS⟩
end
end Turned
set_option linter.all false
set_option maxRecDepth 100000
set_option maxHeartbeats 2000000
namespace Earth
open PySem PySem.Spec PyProof.Rows L2
abbrev sWay : Stmt := top 9
theorem scWay : FnScope ["steps", "left", "lacking", "way", "s"] ["steps", "left"] (defScope sWay) := ⟨rfl, rfl, rfl, by decide +kernel, rfl, by decide +kernel, by decide +kernel⟩
/-- the table of the key function's code -/
def tabW (P : Addr) : List (Addr × Str) := [(P, ("way_to_nearest" : Str) ++ ".<locals>." ++ "<lambda>")]
theorem Tabs.upd {T : List (Addr × Str)} {H : Hp} {p : Addr} {o : HO} (h : LamX.Tabs T H) (hp : H p = none ∨ ∃ l, H p = some (.lst l)) : LamX.Tabs T (upd H p o) := by
  intro q hq
  obtain ⟨ps, h1, h2, h3⟩ := h q hq
  refine ⟨ps, ?_, h2, fun pos cv hc => ?_⟩
  · have : q.1 ≠ p := fun e => by
      rw [e] at h1
      rcases hp with hp | ⟨l, hp⟩ <;> rw [hp] at h1 <;> cases h1
    rw [upd_ne this]; exact h1
  · obtain ⟨c, e1, e2⟩ := h3 pos cv hc
    have : c ≠ p := fun e => by
      rw [e] at e2
      rcases hp with hp | ⟨l, hp⟩
      · rw [hp] at e2; cases e2
      · rw [hp] at e2; cases e2
    exact ⟨c, e1, by rw [upd_ne this]; exact e2⟩
theorem ExtN.upd {H H' : Hp} {p : Addr} {o : HO} (e : LamX.ExtN H H') (hp : H p = none) : LamX.ExtN H (upd H' p o) := fun b x hb hn => by
  rw [upd_ne (ne_of_none hb hp)]; exact e b x hb hn
/-- a place that bears nothing that is told of H but, maybe, a table -/
def New (H : Hp) (p : Addr) : Prop := ∀ b o, H b = some o → (∀ ps, o ≠ .tbl ps) → b ≠ p
theorem ExtN.new {H H' : Hp} {p : Addr} (e : LamX.ExtN H H') (h : H' p = none) : New H p := fun b o h1 h2 z => by
  have := e b o h1 h2
  rw [z, h] at this; cases this
theorem ExtN.upd' {H H' : Hp} {p : Addr} {o : HO} (e : LamX.ExtN H H') (hp : New H p) : LamX.ExtN H (L2.upd H' p o) := fun b x hb hn => by
  rw [upd_ne (hp b x hb hn)]; exact e b x hb hn
theorem ExtN.back {H H' : Hp} {p : Addr} (e : LamX.ExtN H H') (h : H' p = none) (ht : ∀ ps, H p ≠ some (.tbl ps)) : H p = none := by
  cases h1 : H p with
  | none => rfl
  | some o =>
    have := e p o h1 (fun ps z => by rw [z] at h1; exact ht ps h1)
    rw [this] at h; cases h
theorem MatAt.ext {H H' : Hp} {m : Addr} {rs : List Addr} {M : List (List Int)} (h : MatAt H m rs M) (e : LamX.ExtN H H') : MatAt H' m rs M :=
  ⟨e _ _ h.top (fun ps z => by cases z), h.len, fun i a r h1 h2 => e _ _ (h.row i a r h1 h2) (fun ps z => by cases z), h.nd⟩
theorem StepsAt.ext {H H' : Hp} {sp : Addr} {n : Nat} {t : Nat → EM.O} {vs : List V} (h : StepsAt H sp n t vs) (e : LamX.ExtN H H') : StepsAt H' sp n t vs :=
  ⟨e _ _ h.top (fun ps z => by cases z), h.len, h.non, fun i x hi hx => by
    obtain ⟨q, h1, h2⟩ := h.tup i x hi hx
    exact ⟨q, h1, e _ _ h2 (fun ps z => by cases z)⟩⟩
section
variable {P : Program} {w : World} {K : PySem.W.Frag} {mg : Str → Option Value} {base : Heap}
def spWay (T : List (Addr × Str)) : Sp := fun vs H Q _ => ∃ (sp la : Addr) (f : Kp218.Field) (g : Nat → Nat → Int) (t : Nat → EM.O) (us : List V) (d : Nat → Int) (tau : Nat → Nat) (src : Nat) (L : List Int),
  vs = [.ref sp, .ref la] ∧ EM.V f ∧ LamX.Tabs T H ∧ StepsAt H sp (f.w * f.h) t us ∧ EM.Found f g src t d tau ∧ src < f.w * f.h ∧ H la = some (.lst (L.map V.int)) ∧ L.length = f.w * f.h ∧ (∃ z, z < f.w * f.h ∧ L.getD z 0 < 0) ∧
  ∀ (H' : Hp) (wa : Addr) (r : List Nat) (z : Nat), LamX.ExtN H H' → LamX.Tabs T H' → New H wa → H' wa = some (.lst (vN (src :: r))) → (src :: r).getLast? = some z → (src :: r).Nodup → r.length ≤ 1000 → EM.OnPath f g d (src :: r) → L.getD z 0 < 0 → Q (.ref wa) H'
theorem ok_way {fw c Pt : Addr} {oc kV doc pm ct : Value} {an od : Option Addr} {osl : Array (Option Value)} {k : Nat}
    (lk : K.lookup fw = some ⟨oc, od, .func (PySem.W.fnOf "way_to_nearest" "way_to_nearest" (defArgs sWay) (defBody sWay) (defScope sWay) .none kV doc pm an (.ref c) ct), osl⟩) (hcd : PySem.W.codeIn K (.ref c) "way_to_nearest" = true)
    (TB : LamX.TabB base mg c Pt) (ml : mg "len" = none) (mi : mg "list" = none) (mr : mg "range" = none) (mn : mg "min" = none) (mv : mg "reversed" = none) :
    FnOk P w K mg base CX0 (k + 2) fw (PySem.W.fnOf "way_to_nearest" "way_to_nearest" (defArgs sWay) (defBody sWay) (defScope sWay) .none kV doc pm an (.ref c) ct) ["steps", "left"] (spWay (tabW Pt)) := by
  refine fn_of lk hcd scWay (fun vs H Q E h => ?_) (fun A outer s H vs Q E hr h => ?_)
  · obtain ⟨sp, la, f, g, t, us, d, tau, src, L, rfl, _⟩ := h
    rfl
  · obtain ⟨sp, la, f, g, t, us, d, tau, src, L, rfl, hv, hT, hst, hfo, hsrc, hl, hLn, hzex, q⟩ := h
    suffices hh : ∃ t, PSs (cxOf CX0 P w K mg base ["steps", "left", "lacking", "way", "s"] "way_to_nearest" (defScope sWay) fw (.ref c) A outer s H E).nox (defBody sWay) t ∧ t { nx := fun _ H' => Q .non H', rt := Q } (L2.start ["steps", "left", "lacking", "way", "s"] [.ref sp, .ref la]) H by
      obtain ⟨t0, h1, h2⟩ := hh
      exact ⟨t0, h1.nox, h2⟩
    refine ⟨_, pss_cons (ps_setLc (i := 2) (own := [("s", 4)]) (g := gName 4) (tt := tTest (tOp (rI0 fun i j => .bl (decide (i < j))) (tOp (rIxL K) (tVar 1) (tVar 4)) (tC (.int 0)))) (te := tVar 4) rfl scWay.nd rfl rfl (sw_true rfl rfl rfl (by decide +kernel))
          (pi_range1 rfl mr (pa_cons (pe_callB call_len_seq (by rfl) ml PySem.boot_len (pa_cons (pv 1) pa_nil)) pa_nil)) (blkOk_by (N := ["steps", "left", "lacking", "way", "s"]) (sc := defScope sWay) (by decide +kernel))
          (fun _ _ _ _ _ => pg_name (i := 4) scWay.nd rfl (Or.inl rfl)) (fun _ _ _ _ _ => pts_one (pt_cmpR op_lt (pe_ix (r := rIxL K) ix_list (pv 1) (pv 4) (fun _ _ => rfl)) pe_int (nomark _))) (fun _ _ _ _ _ => pv 4))
      (pss_cons (ps_set (i := 3) scWay.nd rfl (.inl rfl) (pe_lst (pa_cons (Keyed.pe_minKey (T := tabW Pt) (c := c) (P := Pt) (i := 0) (k := k) (hr.mono (by omega)) rfl mn (pa_cons (pv 2) pa_nil) TB rfl (List.mem_singleton.2 rfl) (fun q hq _ => by rw [List.mem_singleton.1 hq]; rfl) rfl rfl rfl rfl rfl rfl (by decide +kernel) rfl rfl (by decide +kernel) (fun _ _ _ _ _ _ => rfl) (by decide) (by decide) (by decide)) pa_nil)))
      (pss_cons (ps_while PassesOwn.never (pt_cmpR op_ne (pe_ix ix_tup (pe_ix ix_list (pv 0) (pe_ix ix_list (pv 3) (pe_un un_neg pe_int) (fun _ _ => rfl)) (fun _ _ => rfl)) pe_int (fun _ _ => rfl)) (pe_ix ix_list (pv 3) (pe_un un_neg pe_int) (fun _ _ => rfl)) (nomark _))
          (pss_one (ps_expr (pe_bm PySem.F.plainAttrs_list PySem.F.slot_list_append PySem.F.type_list_append mt_append (pv 3) (pa_cons (pe_ix ix_tup (pe_ix ix_list (pv 0) (pe_ix ix_list (pv 3) (pe_un un_neg pe_int) (fun _ _ => rfl)) (fun _ _ => rfl)) pe_int (fun _ _ => rfl)) pa_nil)))))
      (pss_one (ps_ret (Turned.pe_listRev rfl rfl mi rfl mv (pv 3)))))), ?_⟩
    have hn16 := EM.size16 hv
    have hlm : (L.map V.int).length = f.w * f.h := by rw [List.length_map, hLn]
    -- lacking = [s for s in range(len(left)) if left[s] < 0]
    refine ⟨_, rfl, la, _, rfl, .inl (SqL.of hl), _, rfl, by rw [hlm]; omega, by rw [hlm]; omega, ?_⟩
    rw [hlm, Int.toNat_natCast]
    intro D nD
    refine lc_range (lo := 0) (n := f.w * f.h) (fun i H' => Same H H' ∧ LamX.Tabs (tabW Pt) H' ∧ H' D = some (.lst (vN ((List.range i).filter fun a => decide (L.getD a 0 < 0))))) ?_ ?_ ?_
    · exact ⟨fun b o e => by rw [upd_ne (ne_of_none e nD)]; exact e, Tabs.upd hT (.inl nD), upd_same⟩
    · rintro i H' hi ⟨sm, hT', hD⟩
      have e0 : (0 + (i : Int)) = i := by omega
      rw [e0]
      have gi : (L.map V.int)[i]? = some (.int (L.getD i 0)) := get_int (by rw [hLn]; exact hi)
      refine ⟨rfl, _, rfl, _, rfl, la, _, _, _, rfl, rfl, SqL.of (sm _ _ hl), atI_nat gi, _, _, rfl, rfl, _, rfl, ite2 (fun c => ?_) (fun c => ?_)⟩
      · have c' := of_decide_eq_true c
        refine ⟨_, rfl, _, hD, Evl.sz_lt ?_, ?_, Tabs.upd hT' (.inr ⟨_, hD⟩), ?_⟩
        · unfold vN; rw [List.length_map]
          have := List.length_filter_le (fun a => decide (L.getD a 0 < 0)) (List.range i)
          rw [List.length_range] at this; omega
        · intro b o e; rw [upd_ne (ne_of_none e nD)]; exact sm _ _ e
        · rw [upd_same, List.range_succ, List.filter_append]
          have : List.filter (fun a => decide (L.getD a 0 < 0)) [i] = [i] := by rw [List.filter_cons, if_pos (decide_eq_true c')]; rfl
          rw [this]
          unfold vN
          rw [List.map_append]; rfl
      · have c' : ¬ L.getD i 0 < 0 := fun z => c (decide_eq_true z)
        refine ⟨sm, hT', ?_⟩
        rw [List.range_succ, List.filter_append]
        have : List.filter (fun a => decide (L.getD a 0 < 0)) [i] = [] := by rw [List.filter_cons, if_neg (by simpa using c')]; rfl
        rw [this, List.append_nil]; exact hD
    · rintro H1 ⟨s1, hT1, hD1⟩
      generalize hns : (List.range (f.w * f.h)).filter (fun a => decide (L.getD a 0 < 0)) = ns at hD1
      have hmem : ∀ a, a ∈ ns → a < f.w * f.h ∧ L.getD a 0 < 0 := by
        intro a ha
        rw [← hns] at ha
        obtain ⟨h1, h2⟩ := List.mem_filter.1 ha
        exact ⟨List.mem_range.1 h1, of_decide_eq_true h2⟩
      have hst1 := hst.keep (s1 _ _ hst.top |>.trans hst.top.symm) (fun q xs e => s1 _ _ e)
      -- way = [min(lacking, key=..)]
      refine ⟨_, rfl, D, sp, ns, us, rfl, SqL.of hD1, ?_, rfl, hst1.top, by rw [hst1.len]; omega, hT1, ?_, fun H2 e2 hT2 z hz => ?_⟩
      · obtain ⟨z, h1, h2⟩ := hzex
        intro e
        have : z ∈ ns := by rw [← hns]; exact List.mem_filter.2 ⟨List.mem_range.2 h1, decide_eq_true h2⟩
        rw [e] at this; cases this
      · intro n hn
        obtain ⟨a, ha, _⟩ := hfo.all n (hmem n hn).1
        obtain ⟨q2, h1, h2⟩ := hst1.tup n _ (hmem n hn).1 ha
        exact ⟨q2, _, _, h1, h2, by simp⟩
      obtain ⟨hzn, hz0⟩ := hmem z hz
      have hst2 := hst1.ext e2
      refine ⟨Evl.sz_of (by simp), fun wa nwa => ?_⟩
      have e2' : LamX.ExtN H H2 := fun b o h1 h2 => e2 b o (s1 b o h1) h2
      have nwaN : New H wa := ExtN.new e2' nwa
      have hst2' : ∀ l, StepsAt (upd H2 wa (.lst l)) sp (f.w * f.h) t us := fun l => hst2.upd (l := []) (fun e => by rw [e, hst2.top] at nwa; cases nwa) (.inl nwa)
      have hz1 : H2 wa = none := nwa
      -- while steps[way[-1]][1] != way[-1]
      refine ⟨fun m σ H' => ∃ (y : Nat) (r : List Nat) (v4 : Option V), σ = [some (.ref sp), some (.ref la), some (.ref D), some (.ref wa), v4] ∧ H' = upd H2 wa (.lst (vN (y :: r).reverse)) ∧
        EM.OnPath f g d (y :: r) ∧ (y :: r).Nodup ∧ (y :: r).getLast? = some z ∧ (∀ a, a ∈ y :: r → tau y ≤ tau a) ∧ m = tau y, ?_, ?_⟩
      · exact ⟨_, z, [], _, rfl, rfl, hzn, by simp, rfl, fun a ha => by rw [List.mem_singleton] at ha; subst ha; exact Nat.le_refl _, rfl⟩
      · rintro m σ H' ⟨y, r, v4, rfl, rfl, hpath, hnd, hlast, htau, rfl⟩
        have hyn : y < f.w * f.h := path_lt hv _ hpath y (by simp)
        obtain ⟨a, hya, hpred⟩ := hfo.all y hyn
        have hstw := hst2' (vN (y :: r).reverse)
        obtain ⟨qy, hq1, hq2⟩ := hstw.tup y _ hyn hya
        have hway : (upd H2 wa (.lst (vN (y :: r).reverse))) wa = some (.lst (vN (y :: r).reverse)) := upd_same
        have hlastV : atI (vN (y :: r).reverse) (-1) = some (.int (y : Nat)) := by
          rw [List.reverse_cons]; unfold vN; rw [List.map_append]; exact atI_last _ _
        have hlenr : (y :: r).length ≤ f.w * f.h := EM.nodup_le _ _ hnd (fun b hb => path_lt hv _ hpath b hb)
        have one : atI [V.int (d y), V.int (a : Nat)] 1 = some (V.int (a : Nat)) := rfl
        refine ⟨_, rfl, _, rfl, 1, rfl, wa, _, _, _, rfl, rfl, SqL.of hway, hlastV, sp, us, _, .ref qy, rfl, rfl, SqL.of hstw.top, atI_nat hq1, qy, _, 1, _, rfl, rfl, SqT.of hq2, one, ?_⟩
        refine ⟨_, rfl, 1, rfl, wa, _, _, _, rfl, rfl, SqL.of hway, hlastV, rfl, _, rfl, ?_⟩
        by_cases hys : y = src
        · -- the source
          subst hys
          have ha : a = y := by
            have := hfo.src0
            rw [hya] at this
            exact congrArg (fun o : EM.O => (o.getD (0, 0)).2) this
          subst ha
          rw [if_neg (by simp)]
          refine ⟨_, rfl, wa, _, rfl, SqL.of hway, fun q2 nq2 => ?_⟩
          have hqw : q2 ≠ wa := fun e => by rw [e, upd_same] at nq2; cases nq2
          have nq2' : H2 q2 = none := by rw [upd_ne hqw] at nq2; exact nq2
          have hrev : (vN (a :: r).reverse).reverse = vN (a :: r) := by unfold vN; rw [← List.map_reverse, List.reverse_reverse]
          rw [hrev]
          refine q _ q2 r z ?_ ?_ (ExtN.new e2' nq2') upd_same hlast hnd (by simp at hlenr; omega) hpath hz0
          · exact ExtN.upd' (ExtN.upd' e2' nwaN) (ExtN.new e2' nq2')
          · exact Tabs.upd (Tabs.upd hT2 (.inl nwa)) (.inl nq2)
        · obtain ⟨han, hnear, hd, htl⟩ := hpred hys
          have hne : a ≠ y := fun e => by
            subst e; omega
          rw [if_pos (by
            have : ¬ (V.int (a : Int) = V.int (y : Int)) := fun z => hne (by have := V.int.inj z; omega)
            simp [this])]
          refine ⟨_, fun _ _ h => h, ?_⟩
          refine ⟨_, rfl, .inl ⟨rfl, _, SqL.of hway⟩, _, rfl, _, rfl, 1, rfl, wa, _, _, _, rfl, rfl, SqL.of hway, hlastV, sp, us, _, .ref qy, rfl, rfl, SqL.of hstw.top, atI_nat hq1, qy, _, 1, _, rfl, rfl, SqT.of hq2, one, wa, _, _, rfl, rfl, hway, Evl.sz_lt (by unfold vN; rw [List.length_map, List.length_reverse]; omega), ?_⟩
          refine ⟨tau a, htl, a, y :: r, _, rfl, ?_, ⟨han, hnear, hd, hpath⟩, ?_, ?_, ?_, rfl⟩
          · rw [upd_upd, List.reverse_cons (a := a)]
            unfold vN
            rw [List.map_append]; rfl
          · refine List.nodup_cons.2 ⟨fun h1 => ?_, hnd⟩
            have := htau a h1
            omega
          · rw [List.getLast?_cons_cons]; exact hlast
          · intro b hb
            rcases List.mem_cons.1 hb with h1 | h1
            · subst h1; exact Nat.le_refl _
            · have := htau b h1; omega
end
end Earth
set_option linter.all false
set_option maxRecDepth 100000
set_option maxHeartbeats 2000000
namespace Earth
open PySem PySem.Spec PyProof.Rows L2
abbrev sMove : Stmt := top 6
theorem scMove : FnScope ["beside", "excess", "left", "moved", "source", "steps", "s", "row"] ["beside", "excess"] (defScope sMove) := ⟨rfl, rfl, rfl, by decide +kernel, rfl, by decide +kernel, by decide +kernel⟩
def rLen (K : PySem.W.Frag) : List V → Hp → VK → Prop := fun xs H Q => ∃ p ys, xs = [V.ref p] ∧ (SqL K H p ys ∨ SqT K H p ys) ∧ Q (V.int (ys.length : Nat)) H
theorem flat_rep {α : Type} (x : α) : ∀ n : Nat, (List.replicate n [x]).flatten = List.replicate n x
  | 0 => rfl
  | n + 1 => by rw [List.replicate_succ, List.flatten_cons, flat_rep x n]; rfl
theorem mget_zero (n m a b : Nat) : mget (List.replicate m (List.replicate n 0)) a b = 0 := by
  unfold mget
  by_cases h1 : a < m
  · by_cases h2 : b < n
    · simp [List.getD, h1, h2]
    · simp [List.getD, h1, h2]
  · simp [List.getD, h1]
theorem sq_zero (n : Nat) : Sq n (List.replicate n (List.replicate n (0 : Int))) := by
  refine ⟨by simp, fun i hi => ?_⟩
  simp [List.getD, hi]
theorem getD_set (L : List Int) (x : Nat) (v : Int) (a : Nat) (hx : x < L.length) : (L.set x v).getD a 0 = if a = x then v else L.getD a 0 := by
  simp only [List.getD, List.getElem?_set]
  by_cases e : x = a
  · subst e; simp [hx]
  · have : ¬ a = x := fun h => e h.symm
    simp [e, this]
theorem sum_rows {n : Nat} {M : List (List Int)} (h : Sq n M) : (M.map List.sum).sum = EM.S n (fun a => EM.S n (fun b => mget M a b)) := by
  have e : ∀ l : List Int, l.sum = EM.sumI l := by
    intro l
    induction l with
    | nil => rfl
    | cons x l ih => rw [List.sum_cons, ih]; rfl
  rw [e, EM.sumI_getD, List.length_map, h.1]
  apply EM.S_congr
  intro a ha
  have h1 : (M.map List.sum).getD a 0 = (M.getD a []).sum := by
    have : a < M.length := by rw [h.1]; exact ha
    simp [List.getD, this]
  rw [h1, e, EM.sumI_getD, h.2 a ha]
  rfl
section
variable {P : Program} {w : World} {K : PySem.W.Frag} {mg : Str → Option Value} {base : Heap}
def spMove (T : List (Addr × Str)) : Sp := fun vs H Q _ => ∃ (mb ea : Addr) (rb : List Addr) (f : Kp218.Field) (E : List Int), vs = [.ref mb, .ref ea] ∧ EM.V f ∧ LamX.Tabs T H ∧ MatAt H mb rb (bes f.w f.h) ∧ H ea = some (.lst (E.map V.int)) ∧ E.length = f.w * f.h ∧ EM.S (f.w * f.h) (fun a => E.getD a 0) = 0 ∧
  ∀ (H' : Hp) (g : Nat → Nat → Int) (p : Nat → Int), LamX.ExtN H H' → LamX.Tabs T H' → EM.Pot f g p → (∀ a b, 0 ≤ g a b) → (∀ a b, a < f.w * f.h → b < f.w * f.h → 0 < g a b → b ∈ EM.near f.w f.h a) → (∀ a, a < f.w * f.h → EM.net (f.w * f.h) g a = E.getD a 0) →
    Q (.int (EM.S (f.w * f.h) (fun a => EM.S (f.w * f.h) (fun b => g a b)))) H'
theorem ok_move {f fC fS fW fT : Addr} {fd fdC fdS fdW fdT : FuncData} (F : Fun K "moving_cost" "moving_cost" sMove f fd) (ml : mg "len" = none) (mi : mg "list" = none) (mr : mg "range" = none) (ms : mg "sum" = none) (mn : mg "min" = none) (mz : mg "zip" = none)
    (FC : Fun K "cheapest_steps" "cheapest_steps" sCheap fC fdC) (bC : Binds K fdC ["beside", "moved", "source"] []) (gC : mg "cheapest_steps" = some (.ref fC))
    (FT : Fun K "step_cost" "step_cost" sStep fT fdT) (bT : Binds K fdT ["moved", "a", "b"] []) (gT : mg "step_cost" = some (.ref fT))
    (FS : Fun K "send" "send" sSend fS fdS) (bS : Binds K fdS ["moved", "left", "way"] []) (gS : mg "send" = some (.ref fS))
    (kW : PySem.W.keepIn K (.ref fW) = true) (bW : Binds K fdW ["steps", "left"] []) (gW : mg "way_to_nearest" = some (.ref fW)) {T : List (Addr × Str)} (GW : FnOk P w K mg base CX0 2 fW fdW ["steps", "left"] (spWay T)) :
    FnOk P w K mg base CX0 3 f fd ["beside", "excess"] (spMove T) := by
  have GC : FnOk P w K mg base CX0 2 fC fdC ["beside", "moved", "source"] spCheap := ok_cheap FC ml FT bT gT
  have GS : FnOk P w K mg base CX0 2 fS fdS ["moved", "left", "way"] spSend := ok_send FS mn mz
  refine F.ok scMove (fun vs H Q E h => ?_) (fun cdv A outer s H vs Q E hr h => ?_)
  · obtain ⟨mb, ea, rb, f, E, rfl, _⟩ := h
    rfl
  · obtain ⟨mb, ea, rb, f, E, rfl, hv, hT, hB, hE, hEn, hE0, q⟩ := h
    refine ⟨_, pss_cons (ps_set (i := 2) scMove.nd rfl (.inr rfl) (pe_callTy call_list_of (by rfl) mi (by decide +kernel) (pa_cons (pv 1) pa_nil)))
      (pss_cons (ps_setLc (i := 3) (own := [("s", 6)]) (g := gName 6) (tt := tYes) (te := tOp rRep (tLst (tCons (tC (.int 0)) tNil)) (tCB (rLen K) (tCons (tVar 2) tNil))) rfl scMove.nd rfl rfl (sw_true rfl rfl rfl (by decide +kernel)) (pi_list (pv 2)) (blkOk_by (N := ["beside", "excess", "left", "moved", "source", "steps", "s", "row"]) (sc := defScope sMove) (by decide +kernel))
          (fun _ _ _ _ _ => pg_name (i := 6) scMove.nd rfl (Or.inl rfl)) (fun _ _ _ _ _ => pts_nil) (fun _ _ _ _ _ => pe_op op_rep (pe_lst (pa_cons pe_int pa_nil)) (pe_callB (id := "len") (r := rLen K) call_len_seq (by rfl) ml PySem.boot_len (pa_cons (pv 2) pa_nil))))
      (pss_cons (ps_for PassesOwn.never rfl (pi_range1 rfl mr (pa_cons (pe_callB call_len_seq (by rfl) ml PySem.boot_len (pa_cons (pv 2) pa_nil)) pa_nil)) (pg_name (i := 4) scMove.nd rfl (.inl rfl))
        (pss_one (ps_while PassesOwn.never (pt_cmpR op_gt (pe_ix ix_list (pv 2) (pv 4) (fun _ _ => rfl)) pe_int (nomark _))
          (pss_cons (ps_set (i := 5) scMove.nd rfl (.inl rfl) (pe_call GC hr (by rfl) gC FC.kp bC .nil pass0 (pa_cons (pv 0) (pa_cons (pv 3) (pa_cons (pv 4) pa_nil)))))
          (pss_one (ps_expr (pe_call GS hr (by rfl) gS FS.kp bS .nil pass0 (pa_cons (pv 3) (pa_cons (pv 2) (pa_cons (pe_call GW hr (by rfl) gW kW bW .nil pass0 (pa_cons (pv 5) (pa_cons (pv 2) pa_nil))) pa_nil))))))))))
      (pss_one (ps_ret (pe_callB (cr_sum rfl) (by rfl) ms (by decide +kernel) (pa_cons (pe_lc (own := [("row", 7)]) (g := gName 7) (tt := tYes) (te := tCB (rSum K) (tCons (tVar 7) tNil)) rfl scMove.nd (pi_list (pv 3)) (blkOk_by (N := ["beside", "excess", "left", "moved", "source", "steps", "s", "row"]) (sc := defScope sMove) (by decide +kernel))
          (fun _ _ _ _ _ => pg_name (i := 7) scMove.nd rfl (Or.inl rfl)) (fun _ _ _ _ _ => pts_nil) (fun _ _ _ _ _ => pe_callB (id := "sum") (r := rSum K) (cr_sum rfl) (by rfl) ms (by decide +kernel) (pa_cons (pv 7) pa_nil))) pa_nil)))))), ?_⟩
    -- left = list(excess)
    refine ⟨_, rfl, ea, _, rfl, .inl (SqL.of hE), fun la nla => ?_⟩
    generalize hH1 : upd H la (.lst (E.map V.int)) = H1
    have s1 : Same H H1 := fun b o e => by rw [← hH1, upd_ne (ne_of_none e nla)]; exact e
    have l1 : H1 la = some (.lst (E.map V.int)) := by rw [← hH1]; exact upd_same
    have hT1 : LamX.Tabs T H1 := LamX.Tabs.ext hT s1
    have hn16 := EM.size16 hv
    -- moved = [[0] * len(left) for s in left]
    refine ⟨_, rfl, la, rfl, ⟨_, SqL.of l1⟩, fun mm nmm => ?_⟩
    have nmmH : H mm = none := Evl.fresh_back s1 nmm
    have hlm : la ≠ mm := fun e => by rw [← e, l1] at nmm; cases nmm
    refine lc_list (K := K) (a := la) (xs := E.map V.int) (fun i H' => ∃ rm, Same H H' ∧ H' la = some (.lst (E.map V.int)) ∧ MatAt H' mm rm (List.replicate i (List.replicate (f.w * f.h) 0)) ∧ (∀ a, a ∈ rm → H a = none) ∧ mm ∉ rm ∧ la ∉ rm) ?_ ?_ ?_ ?_
    · refine ⟨[], ?_, ?_, ⟨upd_same, rfl, fun i a r z => by simp at z, by simp⟩, fun a z => by simp at z, by simp, by simp⟩
      · exact fun b o e => by rw [upd_ne (ne_of_none e nmmH)]; exact s1 _ _ e
      · rw [upd_ne hlm]; exact l1
    · rintro i H' _ ⟨rm, _, hl, _⟩
      exact SqL.of hl
    · rintro i x H' hx ⟨rm, sm, hl, hM, hn, hm, hlr⟩
      refine ⟨rfl, Evl.sz_of (by simp), fun z nz => ?_⟩
      have hzl : la ≠ z := fun e => by rw [← e, hl] at nz; cases nz
      have hzm : mm ≠ z := fun e => by rw [← e, hM.top] at nz; cases nz
      refine ⟨_, rfl, la, _, rfl, .inl (SqL.of (by rw [upd_ne hzl]; exact hl)), z, _, [.int 0], rfl, rfl, upd_same, by rw [List.length_map]; omega, by rw [List.length_map]; omega, by rw [List.length_map, Int.toNat_natCast, List.length_singleton]; exact Evl.sz_of (by omega), fun r nr => ?_⟩
      have hrz : r ≠ z := fun e => by rw [e, upd_same] at nr; cases nr
      have hrl : la ≠ r := fun e => by rw [← e, upd_ne hzl, hl] at nr; cases nr
      have sz' : Same H' (upd H' z (.lst [.int 0])) := fun b o e => by rw [upd_ne (ne_of_none e nz)]; exact e
      have hM' := hM.same sz'
      have hrm : mm ≠ r := fun e => by rw [← e, hM'.top] at nr; cases nr
      have hpush := hM'.push (r := List.replicate (f.w * f.h) 0) nr hm
      rw [List.length_map, Int.toNat_natCast, hEn, flat_rep]
      rw [List.map_replicate, ← List.replicate_succ'] at hpush
      refine ⟨_, by rw [upd_ne hrm]; exact hM'.top, Evl.sz_lt (by
        have : i < (E.map V.int).length := (List.getElem?_eq_some_iff.1 hx).1
        rw [List.length_map] at this ⊢
        rw [hM.len, List.length_replicate]; omega), rm ++ [r], ?_, ?_, by rw [List.map_append] at hpush; exact hpush, ?_, ?_, ?_⟩
      · intro b o e
        rw [upd_ne (ne_of_none e nmmH), upd_ne (ne_of_none (sz' _ _ (sm _ _ e)) nr)]
        exact sz' _ _ (sm _ _ e)
      · rw [upd_ne hlm, upd_ne hrl, upd_ne hzl]; exact hl
      · intro a ha
        rcases List.mem_append.1 ha with h5 | h5
        · exact hn a h5
        · rw [List.mem_singleton] at h5; subst h5
          exact Evl.fresh_back sm (Evl.fresh_back sz' nr)
      · intro h5
        rcases List.mem_append.1 h5 with h6 | h6
        · exact hm h6
        · rw [List.mem_singleton] at h6; exact hrm h6
      · intro h5
        rcases List.mem_append.1 h5 with h6 | h6
        · exact hlr h6
        · rw [List.mem_singleton] at h6; exact hrl h6
    · -- for source in range(len(left))
      rintro H2 ⟨rm, s2, l2, hM2, hn2, hm2, hlr2⟩
      have hT2 : LamX.Tabs T H2 := LamX.Tabs.ext hT s2
      rw [List.length_map, hEn] at hM2
      refine ⟨_, rfl, la, _, rfl, .inl (SqL.of l2), _, rfl, by rw [List.length_map]; omega, by rw [List.length_map]; omega, ?_⟩
      rw [List.length_map, Int.toNat_natCast, hEn]
      refine for_range (lo := 0) (n := f.w * f.h) (fun i σ H' => ∃ (v4 v5 v6 v7 : Option V) (M : List (List Int)) (L : List Int) (p : Nat → Int),
        σ = [some (.ref mb), some (.ref ea), some (.ref la), some (.ref mm), v4, v5, v6, v7] ∧ (LamX.ExtN H H' ∧ LamX.Tabs T H') ∧ H' la = some (.lst (L.map V.int)) ∧ L.length = f.w * f.h ∧ MatAt H' mm rm M ∧ Sq (f.w * f.h) M ∧
        EM.Pot f (mget M) p ∧ (∀ a b, 0 ≤ mget M a b) ∧ (∀ a b, a < f.w * f.h → b < f.w * f.h → 0 < mget M a b → b ∈ EM.near f.w f.h a) ∧
        (∀ a, a < f.w * f.h → EM.net (f.w * f.h) (mget M) a + L.getD a 0 = E.getD a 0) ∧ ∀ a, a < i → L.getD a 0 ≤ 0) ?_ ?_ ?_
      · refine ⟨none, none, none, none, _, E, fun _ => 0, rfl, ⟨LamX.ExtN.of s2, hT2⟩, l2, hEn, hM2, sq_zero _, ?_, fun a b => by rw [mget_zero]; omega, fun a b _ _ h => by rw [mget_zero] at h; omega, ?_, fun a h => by omega⟩
        · intro a b _ _
          unfold EM.sc
          rw [mget_zero, if_neg (by omega)]; show (0 : Int) ≤ 0 + 1; omega
        · intro a _
          unfold EM.net
          rw [EM.S_congr (g := fun _ => 0) (fun b _ => mget_zero _ _ _ _), EM.S_congr (f := fun b => mget _ b a) (g := fun _ => 0) (fun b _ => mget_zero _ _ _ _), EM.S_zero]; omega
      · rintro i σ H' hi ⟨v4, v5, v6, v7, M, L, p, rfl, sm, hl, hLn, hM, hS, hp, hnn, hadj, hcons, hdone⟩
        have e0 : (0 + (i : Int)) = i := by omega
        rw [e0]
        -- while left[source] > 0
        refine ⟨fun m σ H' => ∃ (v5 v6 v7 : Option V) (M : List (List Int)) (L : List Int) (p : Nat → Int),
          σ = [some (.ref mb), some (.ref ea), some (.ref la), some (.ref mm), some (.int (i : Nat)), v5, v6, v7] ∧ (LamX.ExtN H H' ∧ LamX.Tabs T H') ∧ H' la = some (.lst (L.map V.int)) ∧ L.length = f.w * f.h ∧ MatAt H' mm rm M ∧ Sq (f.w * f.h) M ∧
          EM.Pot f (mget M) p ∧ (∀ a b, 0 ≤ mget M a b) ∧ (∀ a b, a < f.w * f.h → b < f.w * f.h → 0 < mget M a b → b ∈ EM.near f.w f.h a) ∧
          (∀ a, a < f.w * f.h → EM.net (f.w * f.h) (mget M) a + L.getD a 0 = E.getD a 0) ∧ (∀ a, a < i → L.getD a 0 ≤ 0) ∧ m = (L.getD i 0).toNat, ?_, ?_⟩
        · exact ⟨_, _, _, _, M, L, p, rfl, sm, hl, hLn, hM, hS, hp, hnn, hadj, hcons, hdone, rfl⟩
        · clear hl hLn hM hS hp hnn hadj hcons hdone sm
          rintro m σ H' ⟨v5, v6, v7, M, L, p, rfl, sm, hl, hLn, hM, hS, hp, hnn, hadj, hcons, hdone, rfl⟩
          have gi : (L.map V.int)[i]? = some (.int (L.getD i 0)) := get_int (by rw [hLn]; exact hi)
          refine ⟨_, rfl, _, rfl, la, _, _, _, rfl, rfl, SqL.of hl, atI_nat gi, _, _, rfl, rfl, _, rfl, ite2 (fun c => ?_) (fun c => ?_)⟩
          · have hpos := of_decide_eq_true c
            refine ⟨_, fun _ _ h => h, ?_⟩
            -- steps = cheapest_steps(beside, moved, source)
            refine ⟨_, rfl, _, rfl, _, rfl, mb, mm, rb, rm, f, M, p, i, rfl, hv, hB.ext sm.1, hM, hS, hp, hi, fun H3 sp t d tau us s3 nsp hst hfound => ?_⟩
            have hl3 := s3 _ _ hl
            have hM3 := hM.same s3
            have hT3 : LamX.Tabs T H3 := LamX.Tabs.ext sm.2 s3
            have hzex : ∃ z, z < f.w * f.h ∧ L.getD z 0 < 0 := by
              have hsum : EM.S (f.w * f.h) (fun a => L.getD a 0) = 0 := by
                have h5 : EM.S (f.w * f.h) (fun a => EM.net (f.w * f.h) (mget M) a) + EM.S (f.w * f.h) (fun a => L.getD a 0) = 0 := by rw [← EM.S_add]; exact (EM.S_congr hcons).trans hE0
                have h6 : EM.S (f.w * f.h) (fun a => EM.net (f.w * f.h) (mget M) a) = 0 := by
                  unfold EM.net
                  rw [EM.S_sub, EM.S_swap]; omega
                omega
              by_cases hall : ∃ z, z < f.w * f.h ∧ L.getD z 0 < 0
              · exact hall
              · have h7 : ∀ k, k < f.w * f.h → 0 ≤ L.getD k 0 := fun k hk => by
                  by_cases h8 : L.getD k 0 < 0
                  · exact absurd ⟨k, hk, h8⟩ hall
                  · omega
                have h9 := EM.S_term (f := fun a => L.getD a 0) h7 hi
                omega
            -- way_to_nearest(steps, left)
            refine ⟨_, rfl, _, rfl, _, rfl, _, rfl, sp, la, f, mget M, t, us, d, tau, i, L, rfl, hv, hT3, hst, hfound, hi, hl3, hLn, hzex, fun H4 wa r z s4 hT4 nwa hwa hlast hnd hrl hpath hz0 => ?_⟩
            have hmm4 := hM3.ext s4
            have hl4 : H4 la = some (.lst (L.map V.int)) := s4 _ _ hl3 (fun ps z => by cases z)
            have hwr : wa ∉ rm := fun e => by
              obtain ⟨j, hj, rfl⟩ := List.mem_iff_getElem.1 e
              have hjn : j < f.w * f.h := by rw [← hS.1, ← hM.len]; exact hj
              obtain ⟨q2, h1, h2⟩ := hM3.get hS hjn
              rw [List.getElem?_eq_getElem hj] at h1; cases h1
              exact nwa _ _ h2 (fun ps z => by cases z) rfl
            have hwl : wa ≠ la := fun e => nwa _ _ hl3 (fun ps z => by cases z) e.symm
            -- send(moved, left, ..)
            refine ⟨mm, la, wa, rm, f, M, L, i, z, r, d, rfl, hv, hmm4, hS, hm2, hl4, hLn, hlr2, hlm, hwa, hwr, hwl, hrl, hlast, hpath, hpos, hz0, fun H5 M' k k1 k2 k3 hsp hM5 hS5 hg hl5 hframe => ?_⟩
            have hzn : z < f.w * f.h := path_lt hv _ hpath z (List.mem_of_getLast? hlast)
            have hiz : i ≠ z := by intro e; subst e; omega
            have hsent := EM.send_path hv (by omega : (0 : Int) ≤ k) r i z (mget M) hlast hnd hpath hsp hnn
            have hgg : mget M' = (EM.pairs (i :: r)).foldl (EM.push k) (mget M) := by funext a b; exact hg a b
            rw [← hgg] at hsent
            have hgd : ∀ a, ((L.set i (L.getD i 0 - k)).set z (L.getD z 0 + k)).getD a 0 = L.getD a 0 - (if a = i then k else 0) + (if a = z then k else 0) := by
              intro a
              rw [getD_set _ _ _ _ (by rw [List.length_set, hLn]; exact hzn), getD_set _ _ _ _ (by rw [hLn]; exact hi)]
              by_cases c1 : a = z
              · subst c1; simp only [if_true, hiz.symm, if_false]; omega
              · by_cases c2 : a = i
                · subst c2; simp only [c1, if_true, if_false]; omega
                · simp only [c1, c2, if_false]; omega
            refine ⟨((L.getD i 0) - k).toNat, by omega, _, _, _, M', _, d, rfl, ?_, hl5, by simp [hLn], hM5, hS5, hsent.pot hv hfound.pot, hsent.nn, ?_, ?_, ?_, ?_⟩
            · have hkinds : ∀ b o, H4 b = some o → (∀ xs, o ≠ .lst xs) → H5 b = some o := fun b o e ho => by
                refine hframe b o e (fun h5 => ?_) (fun h5 => ?_)
                · obtain ⟨j, hj, rfl⟩ := List.mem_iff_getElem.1 h5
                  have hjn : j < f.w * f.h := by rw [← hS.1, ← hM.len]; exact hj
                  obtain ⟨q2, h1, h2⟩ := hmm4.get hS hjn
                  rw [List.getElem?_eq_getElem hj] at h1; cases h1
                  rw [h2] at e; cases e; exact ho _ rfl
                · subst h5; rw [hl4] at e; cases e; exact ho _ rfl
              refine ⟨?_, fun q hq => ?_⟩
              · intro b o e hb
                have hb4 := s4 _ _ (s3 _ _ (sm.1 _ _ e hb)) hb
                refine hframe b o hb4 ?_ ?_
                · intro h5; rw [hn2 b h5] at e; cases e
                · intro h5; subst h5; rw [nla] at e; cases e
              · obtain ⟨ps, h1, h2, h3⟩ := hT4 q hq
                refine ⟨ps, hkinds _ _ h1 (fun xs z => by cases z), h2, fun pos cv hc => ?_⟩
                obtain ⟨c, e1, e2⟩ := h3 pos cv hc
                exact ⟨c, e1, hkinds _ _ e2 (fun xs z => by cases z)⟩
            · intro a b ha hb h0
              rcases hsent.pos a b h0 with h5 | ⟨_, h5, _⟩
              · exact hadj a b ha hb h5
              · exact h5
            · intro a ha
              rw [hsent.nets a, hgd]
              have := hcons a ha
              omega
            · intro a ha
              rw [hgd, if_neg (by omega)]
              have := hdone a ha
              split
              · rename_i e; subst e; omega
              · omega
            · rw [hgd, if_pos rfl, if_neg hiz]; congr 1; omega
          · have hneg : ¬ 0 < L.getD i 0 := fun z => c (decide_eq_true z)
            refine ⟨_, _, _, _, M, L, p, rfl, sm, hl, hLn, hM, hS, hp, hnn, hadj, hcons, ?_⟩
            intro a ha
            by_cases e : a = i
            · subst e; omega
            · exact hdone a (by omega)
      · rintro σ H3 ⟨v4, v5, v6, v7, M, L, p, rfl, sm, hl, hLn, hM, hS, hp, hnn, hadj, hcons, hdone⟩
        have hL0 : ∀ a, a < f.w * f.h → L.getD a 0 = 0 := by
          have hsum : EM.S (f.w * f.h) (fun a => L.getD a 0) = 0 := by
            have h5 : EM.S (f.w * f.h) (fun a => EM.net (f.w * f.h) (mget M) a) + EM.S (f.w * f.h) (fun a => L.getD a 0) = 0 := by rw [← EM.S_add]; exact (EM.S_congr hcons).trans hE0
            have h6 : EM.S (f.w * f.h) (fun a => EM.net (f.w * f.h) (mget M) a) = 0 := by
              unfold EM.net
              rw [EM.S_sub, EM.S_swap]; omega
            omega
          exact EM.S_eq_of_le (f := fun a => L.getD a 0) (g := fun _ => 0) hdone (by rw [EM.S_zero, hsum]; exact Int.le_refl _)
        have hfin := fun H' (s' : LamX.ExtN H H') (t' : LamX.Tabs T H') => q H' (mget M) p s' t' hp hnn hadj (fun a ha => by have := hcons a ha; rw [hL0 a ha] at this; omega)
        -- return sum([sum(row) for row in moved])
        refine ⟨_, rfl, mm, rfl, ⟨_, SqL.of hM.top⟩, fun D nD => ?_⟩
        refine lc_list (K := K) (a := mm) (xs := rm.map V.ref) (fun i H' => Same H3 H' ∧ H' D = some (.lst (((M.map List.sum).take i).map V.int))) ?_ ?_ ?_ ?_
        · exact ⟨fun b o e => by rw [upd_ne (ne_of_none e nD)]; exact e, by rw [upd_same]; rfl⟩
        · rintro i H' _ ⟨h2, _⟩
          exact SqL.of (h2 _ _ hM.top)
        · rintro i x H' hx ⟨h2, h3⟩
          rw [List.getElem?_map] at hx
          have hil : i < rm.length := by
            by_cases e : i < rm.length
            · exact e
            · rw [List.getElem?_eq_none (by omega)] at hx; cases hx
          rw [List.getElem?_eq_getElem hil] at hx
          cases hx
          have hin : i < f.w * f.h := by rw [← hS.1, ← hM.len]; exact hil
          have hrow := hM.row i rm[i] (M.getD i []) (List.getElem?_eq_getElem hil) (by simp [List.getD, hS.1, hin])
          have hnt : (M.map List.sum)[i]? = some (M.getD i []).sum := by
            have : i < M.length := by rw [hS.1]; exact hin
            simp [List.getD, this]
          refine ⟨rfl, _, rfl, rm[i], _, rfl, SqL.of (h2 _ _ hrow), _, h3, Evl.sz_lt (by rw [List.length_map, List.length_take]; omega), ?_, ?_⟩
          · intro b o e; rw [upd_ne (ne_of_none e nD)]; exact h2 _ _ e
          · rw [upd_same, List.take_add_one, hnt, List.map_append]; rfl
        · rintro H4 ⟨h2, h3⟩
          rw [List.length_map, hM.len, List.take_of_length_le (by simp)] at h3
          refine ⟨D, M.map List.sum, rfl, SqL.of h3, ?_⟩
          rw [sum_rows hS]
          exact hfin H4 (fun b o e hb => h2 _ _ (sm.1 _ _ e hb)) (LamX.Tabs.ext sm.2 h2)
end
end Earth
set_option linter.all false
set_option maxRecDepth 100000
set_option maxHeartbeats 2000000
namespace Earth
open PySem PySem.Spec PyProof.Rows L2
abbrev sLeast : Stmt := top 5
theorem scLeast : FnScope ["w", "h", "bring_cost", "take_cost", "excess", "over", "within", "gate_cost"] ["w", "h", "bring_cost", "take_cost", "excess"] (defScope sLeast) := ⟨rfl, rfl, rfl, by decide +kernel, rfl, by decide +kernel, by decide +kernel⟩
theorem sum_getD (l : List Int) : l.sum = EM.S l.length (fun k => l.getD k 0) := by
  rw [← EM.sumI_getD]
  induction l with
  | nil => rfl
  | cons x l ih => rw [List.sum_cons, ih]; rfl
section
variable {P : Program} {w : World} {K : PySem.W.Frag} {mg : Str → Option Value} {base : Heap}
def spLeast (T : List (Addr × Str)) : Sp := fun vs H Q _ => ∃ (ea : Addr) (f : Kp218.Field) (E : List Int), vs = [.int (f.w : Nat), .int (f.h : Nat), .int (f.bring : Nat), .int (f.take_ : Nat), .ref ea] ∧ EM.V f ∧ LamX.Tabs T H ∧ H ea = some (.lst (E.map V.int)) ∧ E.length = f.w * f.h ∧
  (∀ a, a < f.w * f.h → E.getD a 0 = (Kp218.level f a : Int) - (Kp218.wanted f a : Int)) ∧ ∀ H' : Hp, LamX.ExtN H H' → LamX.Tabs T H' → Q (.int (Kp218.least f : Nat)) H'
theorem ok_least {f fM fB : Addr} {fd fdM fdB : FuncData} (F : Fun K "least_cost" "least_cost" sLeast f fd) (mi : mg "list" = none) (mr : mg "range" = none) (ms : mg "sum" = none)
    (FM : Fun K "moving_cost" "moving_cost" sMove fM fdM) (bM : Binds K fdM ["beside", "excess"] []) (gM : mg "moving_cost" = some (.ref fM)) {T : List (Addr × Str)} (GM : FnOk P w K mg base CX0 3 fM fdM ["beside", "excess"] (spMove T))
    (FB : Fun K "squares_beside" "squares_beside" sBes fB fdB) (bB : Binds K fdB ["w", "h"] []) (gB : mg "squares_beside" = some (.ref fB)) {tw : Tok} (gW : mg "WAYS" = some (.int 4 tw)) {fQ : Addr} {fdQ : FuncData}
    (FQ : Fun K "square_beside" "square_beside" sSq fQ fdQ) (bQ : Binds K fdQ ["w", "h", "s", "d"] []) (gQ : mg "square_beside" = some (.ref fQ)) :
    FnOk P w K mg base CX0 4 f fd ["w", "h", "bring_cost", "take_cost", "excess"] (spLeast T) := by
  have GB : FnOk P w K mg base CX0 3 fB fdB ["w", "h"] spBes := ok_bes (k := 1) FB mr gW FQ bQ gQ
  refine F.ok scLeast (fun vs H Q E h => ?_) (fun cdv A outer s H vs Q E hr h => ?_)
  · obtain ⟨ea, f, E, rfl, _⟩ := h
    rfl
  · obtain ⟨ea, f, E, rfl, hv, hT, hE, hEn, hEv, q⟩ := h
    refine ⟨_, pss_cons (ps_set (i := 5) scLeast.nd rfl (.inl rfl) (pe_callB (cr_sum rfl) (by rfl) ms (by decide +kernel) (pa_cons (pv 4) pa_nil)))
      (pss_cons (ps_set (i := 6) scLeast.nd rfl (.inl rfl) (pe_callTy call_list_of (by rfl) mi (by decide +kernel) (pa_cons (pv 4) pa_nil)))
      (pss_cons (ps_augS (pv 6) pe_int get_list (pv 5) ip_sub set_list)
      (pss_cons (ps_set (i := 7) scLeast.nd rfl (.inl rfl) (pe_ifExp (pt_cmpR op_gt (pv 5) pe_int (nomark _)) (pe_op op_mul (pv 5) (pv 3)) (pe_op op_mul (pe_un un_neg (pv 5)) (pv 2))))
      (pss_one (ps_ret (pe_op op_add (pv 7) (pe_call GM hr (by rfl) gM FM.kp bM .nil pass0 (pa_cons (pe_call GB hr (by rfl) gB FB.kp bB .nil pass0 (pa_cons (pv 0) (pa_cons (pv 1) pa_nil))) (pa_cons (pv 6) pa_nil))))))))), ?_⟩
    have hpos := hv.pos
    -- over = sum(excess)
    refine ⟨_, rfl, ea, E, rfl, SqL.of hE, ?_⟩
    -- within = list(excess)
    refine ⟨_, rfl, ea, _, rfl, .inl (SqL.of hE), fun wi nwi => ?_⟩
    have g0 : (E.map V.int)[0]? = some (.int (E.getD 0 0)) := get_int (by omega)
    -- within[0] -= over
    refine ⟨_, rfl, wi, _, 0, _, rfl, rfl, SqL.of upd_same, atI_nat (j := 0) g0, _, rfl, _, _, rfl, rfl, wi, _, 0, 0, rfl, rfl, upd_same, Evl.ixN_nat (j := 0) (by rw [List.length_map]; omega), ?_⟩
    rw [upd_upd]
    have hset : (E.map V.int).set 0 (.int (E.getD 0 0 - E.sum)) = (E.set 0 (E.getD 0 0 - E.sum)).map V.int := by rw [List.map_set]
    rw [hset]
    generalize hH1 : upd H wi (.lst ((E.set 0 (E.getD 0 0 - E.sum)).map V.int)) = H1
    have s1 : Same H H1 := fun b o e => by rw [← hH1, upd_ne (ne_of_none e nwi)]; exact e
    have hw1 : H1 wi = some (.lst ((E.set 0 (E.getD 0 0 - E.sum)).map V.int)) := by rw [← hH1]; exact upd_same
    have hgd : ∀ a, (E.set 0 (E.getD 0 0 - E.sum)).getD a 0 = E.getD a 0 - (if a = 0 then E.sum else 0) := by
      intro a
      rw [getD_set _ _ _ _ (by omega)]
      by_cases c : a = 0
      · subst c; simp
      · simp [c]
    have hsum0 : EM.S (f.w * f.h) (fun a => (E.set 0 (E.getD 0 0 - E.sum)).getD a 0) = 0 := by
      rw [EM.S_congr (fun a _ => hgd a), EM.S_sub, EM.S_single _ _ _ hpos, sum_getD, hEn]; omega
    have ho : E.sum = EM.S (f.w * f.h) (fun s => (Kp218.level f s : Int) - (Kp218.wanted f s : Int)) := by
      rw [sum_getD, hEn]; exact EM.S_congr hEv
    have t2 := hv.t2
    have b2 := hv.b2
    -- what is left to show, whatever passes the gate
    have fin : ∀ gate : Int, gate = (if 0 < E.sum then E.sum * (f.take_ : Int) else - E.sum * (f.bring : Int)) → ∀ (H' : Hp) (g : Nat → Nat → Int) (p : Nat → Int), LamX.ExtN H1 H' → LamX.Tabs T H' → EM.Pot f g p → (∀ a b, 0 ≤ g a b) → (∀ a b, a < f.w * f.h → b < f.w * f.h → 0 < g a b → b ∈ EM.near f.w f.h a) →
        (∀ a, a < f.w * f.h → EM.net (f.w * f.h) g a = (E.set 0 (E.getD 0 0 - E.sum)).getD a 0) → Q (.int (gate + EM.S (f.w * f.h) (fun a => EM.S (f.w * f.h) (fun b => g a b)))) H' := by
      intro gate hg H' g p s' t' hp hnn hadj hnet
      have := EM.haul_least hv hp hnn hadj ho (fun a ha => by rw [hnet a ha, hgd, hEv a ha])
      rw [hg, this]
      exact q H' (fun b o e hb => s' _ _ (s1 _ _ e) hb) t'
    -- the gate
    refine ⟨_, rfl, _, _, rfl, rfl, _, rfl, ite2 (fun c => ?_) (fun c => ?_)⟩
    · have c' := of_decide_eq_true c
      refine ⟨_, rfl, _, rfl, _, _, rfl, rfl, .inr ⟨by omega, by omega⟩, ?_⟩
      refine ⟨_, rfl, _, rfl, _, rfl, f.w, f.h, rfl, hv.w1, hv.w4, hv.h1, hv.h4, fun H2 mb rb hnew => ?_⟩
      refine ⟨_, rfl, mb, wi, rb, f, _, rfl, hv, LamX.Tabs.ext (LamX.Tabs.ext hT s1) hnew.1, hnew.2.1, hnew.1 _ _ hw1, by rw [List.length_set]; exact hEn, hsum0, fun H3 g p s3 t3 hp hnn hadj hnet => ?_⟩
      refine ⟨_, _, rfl, rfl, ?_⟩
      exact fin _ (by rw [if_pos c']) H3 g p (fun b o e hb => s3 _ _ (hnew.1 _ _ e) hb) t3 hp hnn hadj hnet
    · have c' : ¬ 0 < E.sum := fun z => c (decide_eq_true z)
      refine ⟨_, rfl, _, rfl, _, rfl, _, _, rfl, rfl, .inr ⟨by omega, by omega⟩, ?_⟩
      refine ⟨_, rfl, _, rfl, _, rfl, f.w, f.h, rfl, hv.w1, hv.w4, hv.h1, hv.h4, fun H2 mb rb hnew => ?_⟩
      refine ⟨_, rfl, mb, wi, rb, f, _, rfl, hv, LamX.Tabs.ext (LamX.Tabs.ext hT s1) hnew.1, hnew.2.1, hnew.1 _ _ hw1, by rw [List.length_set]; exact hEn, hsum0, fun H3 g p s3 t3 hp hnn hadj hnet => ?_⟩
      refine ⟨_, _, rfl, rfl, ?_⟩
      exact fin _ (by rw [if_neg c']) H3 g p (fun b o e hb => s3 _ _ (hnew.1 _ _ e) hb) t3 hp hnn hadj hnet
end
end Earth
set_option linter.all false
set_option maxRecDepth 100000
set_option maxHeartbeats 2000000
namespace Earth
open PySem PySem.Spec PyProof.Rows L2
/-! the object -/
structure Fd where
  begun : Bool
  w : Int
  h : Int
  b : Int
  t : Int
  la : Addr
  wa : Addr
  sp : Int
def fF (m : Fd) : List (Str × V) := [("begun", .bl m.begun), ("width", .int m.w), ("height", .int m.h), ("bring_cost", .int m.b), ("take_cost", .int m.t), ("levels", .ref m.la), ("wanted", .ref m.wa), ("spent", .int m.sp)]
theorem lk_here {k : Str} {v : V} {r : List (Str × V)} : List.lookup k ((k, v) :: r) = some v := by
  have e : (k == k) = true := beq_self_eq_true k
  simp only [List.lookup, e]
theorem lk_past {k g : Str} {v : V} {r : List (Str × V)} (h : (k == g) = false) : List.lookup k ((g, v) :: r) = List.lookup k r := by
  simp only [List.lookup, h]
theorem put_here {f : Str} {v x : V} {r : List (Str × V)} : putF f v ((f, x) :: r) = (f, v) :: r := if_pos rfl
theorem put_past {f g : Str} {v x : V} {r : List (Str × V)} (h : ¬ g = f) : putF f v ((g, x) :: r) = (g, x) :: putF f v r := if_neg h
theorem fF_begun (m : Fd) : (fF m).lookup ("begun" : Str) = some (.bl m.begun) := lk_here
theorem fF_w (m : Fd) : (fF m).lookup ("width" : Str) = some (.int m.w) := (lk_past (by decide +kernel)).trans lk_here
theorem fF_h (m : Fd) : (fF m).lookup ("height" : Str) = some (.int m.h) := (lk_past (by decide +kernel)).trans ((lk_past (by decide +kernel)).trans lk_here)
theorem fF_b (m : Fd) : (fF m).lookup ("bring_cost" : Str) = some (.int m.b) := (lk_past (by decide +kernel)).trans ((lk_past (by decide +kernel)).trans ((lk_past (by decide +kernel)).trans lk_here))
theorem fF_t (m : Fd) : (fF m).lookup ("take_cost" : Str) = some (.int m.t) := (lk_past (by decide +kernel)).trans ((lk_past (by decide +kernel)).trans ((lk_past (by decide +kernel)).trans ((lk_past (by decide +kernel)).trans lk_here)))
theorem fF_la (m : Fd) : (fF m).lookup ("levels" : Str) = some (.ref m.la) := (lk_past (by decide +kernel)).trans ((lk_past (by decide +kernel)).trans ((lk_past (by decide +kernel)).trans ((lk_past (by decide +kernel)).trans ((lk_past (by decide +kernel)).trans lk_here))))
theorem fF_wa (m : Fd) : (fF m).lookup ("wanted" : Str) = some (.ref m.wa) := (lk_past (by decide +kernel)).trans ((lk_past (by decide +kernel)).trans ((lk_past (by decide +kernel)).trans ((lk_past (by decide +kernel)).trans ((lk_past (by decide +kernel)).trans ((lk_past (by decide +kernel)).trans lk_here)))))
theorem fF_sp (m : Fd) : (fF m).lookup ("spent" : Str) = some (.int m.sp) := (lk_past (by decide +kernel)).trans ((lk_past (by decide +kernel)).trans ((lk_past (by decide +kernel)).trans ((lk_past (by decide +kernel)).trans ((lk_past (by decide +kernel)).trans ((lk_past (by decide +kernel)).trans ((lk_past (by decide +kernel)).trans lk_here))))))
/-- a name that is none of the attributes -/
theorem fF_no (m : Fd) {x : Str} (h : (["begun", "width", "height", "bring_cost", "take_cost", "levels", "wanted", "spent"] : List Str).all (fun y => !(x == y)) = true) : (fF m).lookup x = none := by
  simp only [List.all_cons, List.all_nil, Bool.and_true, Bool.and_eq_true, Bool.not_eq_true'] at h
  obtain ⟨h1, h2, h3, h4, h5, h6, h7, h8⟩ := h
  unfold fF
  rw [lk_past h1, lk_past h2, lk_past h3, lk_past h4, lk_past h5, lk_past h6, lk_past h7, lk_past h8]; rfl
structure Txt (K : PySem.W.Frag) (mg : Str → Option Value) (C : Addr) : Prop where
  cl : Cls K C
  a1 : NoAttr K C "begun"
  a2 : NoAttr K C "width"
  a3 : NoAttr K C "height"
  a4 : NoAttr K C "bring_cost"
  a5 : NoAttr K C "take_cost"
  a6 : NoAttr K C "levels"
  a7 : NoAttr K C "wanted"
  a8 : NoAttr K C "spent"
/-- a field that has begun, at a -/
structure FAt (C : Addr) (H : Hp) (a : Addr) (f : Kp218.Field) (m : Fd) : Prop where
  ob : ∃ dx, H a = some (.ins C dx (fF m))
  v : EM.V f
  be : m.begun = true
  ew : m.w = (f.w : Nat)
  eh : m.h = (f.h : Nat)
  eb : m.b = (f.bring : Nat)
  et : m.t = (f.take_ : Nat)
  es : m.sp = (f.spent : Nat)
  lev : H m.la = some (.lst (vN f.ground))
  wan : H m.wa = some (.lst (vN f.want))
  ne : m.la ≠ m.wa
theorem FAt.ext {C : Addr} {H H' : Hp} {a : Addr} {f : Kp218.Field} {m : Fd} (h : FAt C H a f m) (e : LamX.ExtN H H') : FAt C H' a f m := by
  obtain ⟨dx, h1⟩ := h.ob
  exact ⟨⟨dx, e _ _ h1 (fun ps z => by cases z)⟩, h.v, h.be, h.ew, h.eh, h.eb, h.et, h.es, e _ _ h.lev (fun ps z => by cases z), e _ _ h.wan (fun ps z => by cases z), h.ne⟩
theorem FAt.same {C : Addr} {H H' : Hp} {a : Addr} {f : Kp218.Field} {m : Fd} (h : FAt C H a f m) (e : Same H H') : FAt C H' a f m := h.ext (LamX.ExtN.of e)

abbrev sCls : Stmt := top 20
abbrev sHas : Stmt := inClass sCls 18
abbrev sBsd : Stmt := inClass sCls 19
abbrev sLeft : Stmt := inClass sCls 24
abbrev sCost : Stmt := inClass sCls 25
abbrev sExc : Stmt := top 21
abbrev sFrom : Stmt := top 22
theorem scHas : FnScope ["self", "s"] ["self", "s"] (defScope sHas) := ⟨rfl, rfl, rfl, by decide +kernel, rfl, by decide +kernel, by decide +kernel⟩
theorem scBsd : FnScope ["self", "s", "d"] ["self", "s", "d"] (defScope sBsd) := ⟨rfl, rfl, rfl, by decide +kernel, rfl, by decide +kernel, by decide +kernel⟩
theorem scFrom : FnScope ["number", "highest"] ["number", "highest"] (defScope sFrom) := ⟨rfl, rfl, rfl, by decide +kernel, rfl, by decide +kernel, by decide +kernel⟩
theorem scExc : FnScope ["levels", "goals", "level", "goal"] ["levels", "goals"] (defScope sExc) := ⟨rfl, rfl, rfl, by decide +kernel, rfl, by decide +kernel, by decide +kernel⟩
theorem scLeft : FnScope ["self"] ["self"] (defScope sLeft) := ⟨rfl, rfl, rfl, by decide +kernel, rfl, by decide +kernel, by decide +kernel⟩
theorem scCost : FnScope ["self", "levels", "goals", "excess"] ["self", "levels", "goals"] (defScope sCost) := ⟨rfl, rfl, rfl, by decide +kernel, rfl, by decide +kernel, by decide +kernel⟩
/-- a comprehension over two lists side by side, of one length -/
theorem lc_two {K : PySem.W.Frag} {a b : Addr} {xs ys : List V} {g : TG} {te : TE} {vs : List Nat} {σ : L2.St} {H1 : Hp} {D : Addr} {Qd : Hp → Prop} (hl : xs.length = ys.length) (Pv : Nat → Hp → Prop) (start : Pv 0 (upd H1 D (.lst [])))
    (stand : ∀ i H, Pv i H → SqL K H a xs ∧ SqL K H b ys)
    (turn : ∀ (i : Nat) (x y : V) (T : Addr) (H : Hp), xs[i]? = some x → ys[i]? = some y → Pv i H → H T = none → g (.ref T) (wipe σ vs) (upd H T (.tup [x, y])) fun σ2 H2 => wipe σ2 vs = wipe σ vs ∧ tYes σ2 H2 fun b H3 =>
      if b = true then te σ2 H3 fun y H4 => ∃ acc, H4 D = some (.lst acc) ∧ acc.length < sizeLine ∧ Pv (i + 1) (upd H4 D (.lst (acc ++ [y]))) else Pv (i + 1) H3)
    (behind : ∀ H, Pv xs.length H → Qd H) :
    ∃ W : Nat → Nat → Hp → Prop, (∃ m, W 0 m (upd H1 D (.lst []))) ∧ ∀ i m H, W i m H → ((Itz K a b).stop i H ∧ Qd H) ∨
      ((Itz K a b).go i H ∧ ∃ Nx : Hp → Prop, (∀ H', Nx H' → ∃ m', m' < m ∧ W (i + 1) m' H') ∧ ∀ x H', (Itz K a b).yld i H x H' → g x (wipe σ vs) H' fun σ2 H2 => wipe σ2 vs = wipe σ vs ∧ tYes σ2 H2 fun b H3 =>
        if b = true then te σ2 H3 fun y H4 => ∃ acc, H4 D = some (.lst acc) ∧ acc.length < sizeLine ∧ Nx (upd H4 D (.lst (acc ++ [y]))) else Nx H3) := by
  refine ⟨fun i m H => m + i = xs.length ∧ Pv i H, ⟨xs.length, by omega, start⟩, ?_⟩
  rintro i m H ⟨hm, hP⟩
  obtain ⟨s1, s2⟩ := stand i H hP
  by_cases hi : i < xs.length
  · have hi2 : i < ys.length := by omega
    refine .inr ⟨⟨xs, ys, xs[i], ys[i], s1, s2, List.getElem?_eq_getElem hi, List.getElem?_eq_getElem hi2⟩, Pv (i + 1), fun H' h => ⟨m - 1, by omega, by omega, h⟩, ?_⟩
    rintro x H' ⟨T, x', y', rfl, hT, rfl, g1, g2⟩
    exact turn i x' y' T H (g1 xs s1) (g2 ys s2) hP hT
  · have e : i = xs.length := by omega
    rw [e] at hP ⊢
    exact .inl ⟨⟨xs, ys, s1, s2, by omega⟩, behind H hP⟩
section
variable {P : Program} {w : World} {K : PySem.W.Frag} {mg : Str → Option Value} {base : Heap} {C : Addr}
/-! is_from_1_to, has_square -/
def spFrom : Sp := fun vs H Q _ => ∃ (n m : Nat), vs = [.int (n : Nat), .int (m : Nat)] ∧ Q (.bl (decide (1 ≤ n) && decide (n ≤ m))) H
theorem ok_from {f : Addr} {fd : FuncData} {k : Nat} (F : Fun K "is_from_1_to" "is_from_1_to" sFrom f fd) : FnOk P w K mg base CX0 (k + 1) f fd ["number", "highest"] spFrom := by
  refine F.ok scFrom (fun vs H Q E h => ?_) (fun cdv A outer s H vs Q E hr h => ?_)
  · obtain ⟨n, m, rfl, _⟩ := h
    rfl
  · obtain ⟨n, m, rfl, q⟩ := h
    refine ⟨_, pss_one (ps_ret (pe_and (pe_cmpR op_ge (pv 0) pe_int (nomark _)) (pe_one (pe_cmpR op_le (pv 0) (pv 1) (nomark _))))), ?_⟩
    refine ⟨_, rfl, _, _, rfl, rfl, _, rfl, ite2 (fun c => ?_) (fun c => ?_)⟩
    · have c' : 1 ≤ n := by have := of_decide_eq_true c; omega
      refine ⟨_, rfl, _, rfl, _, _, rfl, rfl, ?_⟩
      have e : decide ((n : Int) ≤ (m : Int)) = (decide (1 ≤ n) && decide (n ≤ m)) := by
        rw [decide_eq_true c', Bool.true_and]
        exact decide_eq_decide.2 (by omega)
      show Q (.bl (decide ((n : Int) ≤ (m : Int)))) H
      rw [e]; exact q
    · have c' : ¬ 1 ≤ n := fun z => c (decide_eq_true (by omega))
      show Q (.bl false) H
      rw [decide_eq_false c', Bool.false_and] at q
      exact q
def spHas : Sp := fun vs H Q _ => ∃ (a : Addr) (f : Kp218.Field) (m : Fd) (s : Nat), vs = [.ref a, .int (s : Nat)] ∧ FAt C H a f m ∧ Q (.bl (decide (s < f.w * f.h))) H
theorem ok_has {f : Addr} {fd : FuncData} {k : Nat} (F : Fun K "has_square" "Field.has_square" sHas f fd) (T : Txt K mg C) (ml : mg "len" = none) : FnOk P w K mg base CX0 (k + 1) f fd ["self", "s"] (spHas (C := C)) := by
  refine F.ok scHas (fun vs H Q E h => ?_) (fun cdv A outer s H vs Q E hr h => ?_)
  · obtain ⟨a, f, m, s, rfl, _⟩ := h
    rfl
  · obtain ⟨a, f, m, s, rfl, hf, q⟩ := h
    refine ⟨_, pss_one (ps_ret (pe_cmpR op_lt (pv 1) (pe_callB call_len_seq (by rfl) ml PySem.boot_len (pa_cons (pe_fld (pv 0) rfl) pa_nil)) (nomark _))), ?_⟩
    obtain ⟨dx, ho⟩ := hf.ob
    refine ⟨_, rfl, _, rfl, a, C, dx, _, _, rfl, ho, T.cl, T.a6, fF_la m, m.la, _, rfl, .inl (SqL.of hf.lev), _, _, rfl, rfl, ?_⟩
    have e : decide ((s : Int) < ((vN f.ground).length : Nat)) = decide (s < f.w * f.h) := by
      unfold vN
      rw [List.length_map, hf.v.g]
      exact decide_eq_decide.2 (by omega)
    show Q (.bl (decide ((s : Int) < ((vN f.ground).length : Nat)))) H
    rw [e]; exact q
/-! beside -/
def spBsd (C : Addr) : Sp := fun vs H Q _ => ∃ (a : Addr) (f : Kp218.Field) (m : Fd) (s d : Nat), vs = [.ref a, .int (s : Nat), .int (d : Nat)] ∧ FAt C H a f m ∧ s < f.w * f.h ∧ Q (vO (Kp218.beside f s d)) H
theorem ok_bsd {f fQ : Addr} {fd fdQ : FuncData} {k : Nat} (F : Fun K "beside" "Field.beside" sBsd f fd) (T : Txt K mg C)
    (FQ : Fun K "square_beside" "square_beside" sSq fQ fdQ) (bQ : Binds K fdQ ["w", "h", "s", "d"] []) (gQ : mg "square_beside" = some (.ref fQ)) : FnOk P w K mg base CX0 (k + 2) f fd ["self", "s", "d"] (spBsd C) := by
  have GQ : FnOk P w K mg base CX0 (k + 1) fQ fdQ ["w", "h", "s", "d"] spSq := ok_sq FQ
  refine F.ok scBsd (fun vs H Q E h => ?_) (fun cdv A outer s H vs Q E hr h => ?_)
  · obtain ⟨a, f, m, s, d, rfl, _⟩ := h
    rfl
  · obtain ⟨a, f, m, s, d, rfl, hf, hs, q⟩ := h
    refine ⟨_, pss_one (ps_ret (pe_call GQ hr (by rfl) gQ FQ.kp bQ .nil pass0 (pa_cons (pe_fld (pv 0) rfl) (pa_cons (pe_fld (pv 0) rfl) (pa_cons (pv 1) (pa_cons (pv 2) pa_nil)))))), ?_⟩
    obtain ⟨dx, ho⟩ := hf.ob
    refine ⟨_, rfl, a, C, dx, _, _, rfl, ho, T.cl, T.a2, fF_w m, _, rfl, a, C, dx, _, _, rfl, ho, T.cl, T.a3, fF_h m, _, rfl, _, rfl, ?_⟩
    refine ⟨f.w, f.h, s, d, ?_, hf.v.w1, hf.v.w4, hf.v.h4, ?_⟩
    · rw [hf.ew, hf.eh]; rfl
    · rw [EM.sqB_beside hf.v hs]; exact q
/-! excess_of, cost_between, cost_left -/
def exc (L G : List Nat) : List Int := (List.range L.length).map fun s => (L.getD s 0 : Int) - (G.getD s 0 : Nat)
theorem exc_get {L G : List Nat} {s : Nat} (h : s < L.length) : (exc L G).getD s 0 = (L.getD s 0 : Int) - (G.getD s 0 : Nat) := by
  unfold exc; rw [List.getD_eq_getElem?_getD, List.getElem?_map, List.getElem?_range h]; rfl
def spExc : Sp := fun vs H Q _ => ∃ (la ga : Addr) (L G : List Nat), vs = [.ref la, .ref ga] ∧ H la = some (.lst (vN L)) ∧ H ga = some (.lst (vN G)) ∧ L.length = G.length ∧ L.length ≤ 16 ∧
  ∀ (H' : Hp) (p : Addr), Same H H' → H p = none → H' p = some (.lst ((exc L G).map V.int)) → Q (.ref p) H'
theorem ok_exc {f : Addr} {fd : FuncData} {k : Nat} (F : Fun K "excess_of" "excess_of" sExc f fd) (mz : mg "zip" = none) : FnOk P w K mg base CX0 (k + 1) f fd ["levels", "goals"] spExc := by
  refine F.ok scExc (fun vs H Q E h => ?_) (fun cdv A outer s H vs Q E hr h => ?_)
  · obtain ⟨la, ga, L, G, rfl, _⟩ := h
    rfl
  · obtain ⟨la, ga, L, G, rfl, hL, hG, hLG, hn16, q⟩ := h
    refine ⟨_, pss_one (ps_ret (pe_lc (own := [("level", 2), ("goal", 3)]) (g := gTup K 2 (gCons (gName 2) (gCons (gName 3) gNil))) (tt := tYes) (te := tOp (rI0 fun i j => .int (i - j)) (tVar 2) (tVar 3)) rfl scExc.nd (pi_zip (by rfl) mz (pa_cons (pv 0) (pa_cons (pv 1) pa_nil)))
      (blkOk_by (N := ["levels", "goals", "level", "goal"]) (sc := defScope sExc) (by decide +kernel))
      (fun _ _ _ _ _ => pg_tup rfl (pgs_cons (pg_name (i := 2) scExc.nd rfl (Or.inl rfl)) (pgs_cons (pg_name (i := 3) scExc.nd rfl (Or.inl rfl)) pgs_nil))) (fun _ _ _ _ _ => pts_nil) (fun _ _ _ _ _ => pe_op op_sub (pv 2) (pv 3)))), ?_⟩
    refine ⟨_, rfl, _, rfl, la, ga, vN L, vN G, rfl, SqL.of hL, SqL.of hG, fun D nD => ?_⟩
    refine lc_two (xs := vN L) (ys := vN G) (by unfold vN; rw [List.length_map, List.length_map, hLG]) (fun i H' => Same H H' ∧ H' D = some (.lst (((exc L G).take i).map V.int))) ?_ ?_ ?_ ?_
    · exact ⟨fun b o e => by rw [upd_ne (ne_of_none e nD)]; exact e, upd_same⟩
    · rintro i H' ⟨sm, _⟩
      exact ⟨SqL.of (sm _ _ hL), SqL.of (sm _ _ hG)⟩
    · rintro i x y T' H' hx hy ⟨sm, hD⟩ nT
      obtain ⟨g1, hg1, rfl⟩ := vN_get hx
      obtain ⟨g2, hg2, rfl⟩ := vN_get hy
      have hDT : D ≠ T' := ne_of_none hD nT
      have hi : i < L.length := (List.getElem?_eq_some_iff.1 hg1).1
      refine ⟨T', _, rfl, SqT.of upd_same, rfl, _, _, rfl, _, _, rfl, rfl, rfl, _, rfl, _, rfl, _, _, rfl, rfl, _, by rw [upd_ne hDT]; exact hD, Evl.sz_lt ?_, ?_, ?_⟩
      · rw [List.length_map, List.length_take]; omega
      · intro b o e
        rw [upd_ne (ne_of_none e nD), upd_ne (ne_of_none (sm _ _ e) nT)]
        exact sm _ _ e
      · have : (exc L G)[i]? = some ((g1 : Int) - (g2 : Nat)) := by
          unfold exc
          rw [List.getElem?_map, List.getElem?_range hi]
          simp [List.getD, hg1, hg2]
        rw [upd_same, List.take_add_one, this, List.map_append]; rfl
    · rintro H' ⟨sm, hD⟩
      rw [List.take_of_length_le (by unfold exc vN; rw [List.length_map, List.length_map, List.length_range]; omega)] at hD
      exact q H' D sm nD hD
def spCost (C : Addr) (T : List (Addr × Str)) : Sp := fun vs H Q _ => ∃ (a la ga : Addr) (f : Kp218.Field) (m : Fd) (L G : List Nat), vs = [.ref a, .ref la, .ref ga] ∧ FAt C H a f m ∧ LamX.Tabs T H ∧ H la = some (.lst (vN L)) ∧ L.length = f.w * f.h ∧ H ga = some (.lst (vN G)) ∧ G.length = f.w * f.h ∧
  ∀ H' : Hp, LamX.ExtN H H' → LamX.Tabs T H' → Q (.int (Kp218.least { f with ground := L, want := G } : Nat)) H'
theorem ok_cost {f fL fE : Addr} {fd fdL fdE : FuncData} (F : Fun K "cost_between" "Field.cost_between" sCost f fd) (T : Txt K mg C) (mz : mg "zip" = none)
    (FE : Fun K "excess_of" "excess_of" sExc fE fdE) (bE : Binds K fdE ["levels", "goals"] []) (gE : mg "excess_of" = some (.ref fE))
    (FL : Fun K "least_cost" "least_cost" sLeast fL fdL) (bL : Binds K fdL ["w", "h", "bring_cost", "take_cost", "excess"] []) (gL : mg "least_cost" = some (.ref fL)) {Tb : List (Addr × Str)} (GL : FnOk P w K mg base CX0 4 fL fdL ["w", "h", "bring_cost", "take_cost", "excess"] (spLeast Tb)) :
    FnOk P w K mg base CX0 5 f fd ["self", "levels", "goals"] (spCost C Tb) := by
  have GE : FnOk P w K mg base CX0 4 fE fdE ["levels", "goals"] spExc := ok_exc FE mz
  refine F.ok scCost (fun vs H Q E h => ?_) (fun cdv A outer s H vs Q E hr h => ?_)
  · obtain ⟨a, la, ga, f, m, L, G, rfl, _⟩ := h
    rfl
  · obtain ⟨a, la, ga, f, m, L, G, rfl, hf, hT, hL, hLn, hG, hGn, q⟩ := h
    refine ⟨_, pss_cons (ps_set (i := 3) scCost.nd rfl (.inl rfl) (pe_call GE hr (by rfl) gE FE.kp bE .nil pass0 (pa_cons (pv 1) (pa_cons (pv 2) pa_nil))))
      (pss_one (ps_ret (pe_call GL hr (by rfl) gL FL.kp bL .nil pass0 (pa_cons (pe_fld (pv 0) rfl) (pa_cons (pe_fld (pv 0) rfl) (pa_cons (pe_fld (pv 0) rfl) (pa_cons (pe_fld (pv 0) rfl) (pa_cons (pv 3) pa_nil)))))))), ?_⟩
    obtain ⟨dx, ho⟩ := hf.ob
    have hn16 := EM.size16 hf.v
    refine ⟨_, rfl, _, rfl, la, ga, L, G, rfl, hL, hG, by rw [hLn, hGn], by omega, fun H1 p s1 np hp => ?_⟩
    have ho1 := s1 _ _ ho
    refine ⟨_, rfl, a, C, dx, _, _, rfl, ho1, T.cl, T.a2, fF_w m, _, rfl, a, C, dx, _, _, rfl, ho1, T.cl, T.a3, fF_h m, _, rfl, a, C, dx, _, _, rfl, ho1, T.cl, T.a4, fF_b m, _, rfl, a, C, dx, _, _, rfl, ho1, T.cl, T.a5, fF_t m, _, rfl, ?_⟩
    refine ⟨p, { f with ground := L, want := G }, exc L G, ?_, ⟨hf.v.w1, hf.v.w4, hf.v.h1, hf.v.h4, hLn, hGn, hf.v.b1, hf.v.b2, hf.v.t1, hf.v.t2⟩, LamX.Tabs.ext hT s1, hp, by unfold exc; simp [hLn], fun s hs => ?_, fun H2 e2 t2 => q H2 (fun b o h1 h2 => e2 _ _ (s1 _ _ h1) h2) t2⟩
    · rw [hf.ew, hf.eh, hf.eb, hf.et]; rfl
    · have hs' : s < L.length := by rw [hLn]; exact hs
      exact exc_get hs'
def spLeft (C : Addr) (T : List (Addr × Str)) : Sp := fun vs H Q _ => ∃ (a : Addr) (f : Kp218.Field) (m : Fd), vs = [.ref a] ∧ FAt C H a f m ∧ LamX.Tabs T H ∧
  ∀ H' : Hp, LamX.ExtN H H' → LamX.Tabs T H' → Q (.int (Kp218.least f : Nat)) H'
theorem ok_left {f fC : Addr} {fd fdC : FuncData} (F : Fun K "cost_left" "Field.cost_left" sLeft f fd) (T : Txt K mg C) {Tb : List (Addr × Str)} (bC : Binds K fdC ["self", "levels", "goals"] []) (mC : Meth K C "cost_between" fC) (GC : FnOk P w K mg base CX0 5 fC fdC ["self", "levels", "goals"] (spCost C Tb)) :
    FnOk P w K mg base CX0 6 f fd ["self"] (spLeft C Tb) := by
  refine F.ok scLeft (fun vs H Q E h => ?_) (fun cdv A outer s H vs Q E hr h => ?_)
  · obtain ⟨a, f, m, rfl, _⟩ := h
    rfl
  · obtain ⟨a, f, m, rfl, hf, hT, q⟩ := h
    refine ⟨_, pss_one (ps_ret (pe_meth (pv 0) T.cl mC GC hr bC .nil pass0 (pa_cons (pe_fld (pv 0) rfl) (pa_cons (pe_fld (pv 0) rfl) pa_nil)))), ?_⟩
    obtain ⟨dx, ho⟩ := hf.ob
    exact ⟨_, rfl, a, dx, _, rfl, ho, fF_no m (by decide +kernel), _, rfl, a, C, dx, _, _, rfl, ho, T.cl, T.a6, fF_la m, _, rfl, a, C, dx, _, _, rfl, ho, T.cl, T.a7, fF_wa m, a, m.la, m.wa, f, m, f.ground, f.want, rfl, hf, hT, hf.lev, hf.v.g, hf.wan, hf.v.q, q⟩
end
end Earth
set_option linter.all false
set_option maxRecDepth 100000
set_option maxHeartbeats 2000000
namespace Earth
open PySem PySem.Spec PyProof.Rows L2
/-- a new list of whole numbers is handed back; all else stands, but the tables, which are told as before -/
def Told (T : List (Addr × Str)) (H : Hp) (Q : VK) (ns : List Int) : Prop := ∀ (H' : Hp) (p : Addr), LamX.ExtN H H' → LamX.Tabs T H' → New H p → H' p = some (.lst (ns.map V.int)) → Q (.ref p) H'
/-- the end of such a def: a list is displayed -/
theorem Told.lst {T : List (Addr × Str)} {H H1 : Hp} {Q : VK} {ns : List Int} {xs : List V} (h : Told T H Q ns) (e : LamX.ExtN H H1) (t : LamX.Tabs T H1) (hx : xs = ns.map V.int) : ∀ p, H1 p = none → Q (.ref p) (upd H1 p (.lst xs)) := fun p np => by
  subst hx
  exact h _ p (ExtN.upd' e (ExtN.new e np)) (Tabs.upd t (.inl np)) (ExtN.new e np) upd_same
theorem ExtN.trans' {H H1 H2 : Hp} (a : LamX.ExtN H H1) (b : LamX.ExtN H1 H2) : LamX.ExtN H H2 := fun x o h n => b _ _ (a _ _ h n) n
abbrev sLook : Stmt := inClass sCls 5
abbrev sLst : Stmt := inClass sCls 7
abbrev sWorth : Stmt := inClass sCls 8
theorem scLook : FnScope ["self", "s"] ["self", "s"] (defScope sLook) := ⟨rfl, rfl, rfl, by decide +kernel, rfl, by decide +kernel, by decide +kernel⟩
theorem scLst : FnScope ["self"] ["self"] (defScope sLst) := ⟨rfl, rfl, rfl, by decide +kernel, rfl, by decide +kernel, by decide +kernel⟩
theorem scWorth : FnScope ["self", "s", "raised"] ["self", "s"] (defScope sWorth) := ⟨rfl, rfl, rfl, by decide +kernel, rfl, by decide +kernel, by decide +kernel⟩
theorem vN_at {l : List Nat} {i : Nat} (h : i < l.length) : (vN l)[i]? = some (.int (l.getD i 0 : Nat)) := by
  unfold vN; simp [List.getD, h]
section
variable {P : Program} {w : World} {K : PySem.W.Frag} {mg : Str → Option Value} {base : Heap} {C : Addr}
/-! least -/
def spLst (C : Addr) (T : List (Addr × Str)) : Sp := fun vs H Q _ => ∃ (a : Addr) (f : Kp218.Field) (m : Fd), vs = [.ref a] ∧ FAt C H a f m ∧ LamX.Tabs T H ∧ Told T H Q [(Kp218.least f : Int)]
theorem ok_lst {f fC : Addr} {fd fdC : FuncData} (F : Fun K "least" "Field.least" sLst f fd) (T : Txt K mg C) {Tb : List (Addr × Str)} (bC : Binds K fdC ["self"] []) (mC : Meth K C "cost_left" fC) (GC : FnOk P w K mg base CX0 6 fC fdC ["self"] (spLeft C Tb)) :
    FnOk P w K mg base CX0 7 f fd ["self"] (spLst C Tb) := by
  refine F.ok scLst (fun vs H Q E h => ?_) (fun cdv A outer s H vs Q E hr h => ?_)
  · obtain ⟨a, f, m, rfl, _⟩ := h
    rfl
  · obtain ⟨a, f, m, rfl, hf, hT, q⟩ := h
    refine ⟨_, pss_one (ps_ret (pe_lst (pa_cons (pe_meth0 (pv 0) T.cl mC GC hr bC .nil pass0) pa_nil))), ?_⟩
    obtain ⟨dx, ho⟩ := hf.ob
    refine ⟨_, rfl, a, dx, _, rfl, ho, fF_no m (by decide +kernel), a, f, m, rfl, hf, hT, fun H1 e1 t1 => ?_⟩
    exact ⟨Evl.sz_of (by simp), q.lst e1 t1 rfl⟩
/-! look -/
def look (f : Kp218.Field) (s : Nat) : List Int := if f.w * f.h ≤ s then [-2] else [0, (Kp218.level f s : Int), (Kp218.wanted f s : Int)]
def spLook (C : Addr) (T : List (Addr × Str)) : Sp := fun vs H Q _ => ∃ (a : Addr) (f : Kp218.Field) (m : Fd) (s : Nat), vs = [.ref a, .int (s : Nat)] ∧ FAt C H a f m ∧ LamX.Tabs T H ∧ Told T H Q (look f s)
theorem ok_look {f fH : Addr} {fd fdH : FuncData} (F : Fun K "look" "Field.look" sLook f fd) (T : Txt K mg C) {Tb : List (Addr × Str)} (bH : Binds K fdH ["self", "s"] []) (mH : Meth K C "has_square" fH) (GH : FnOk P w K mg base CX0 1 fH fdH ["self", "s"] (spHas (C := C))) :
    FnOk P w K mg base CX0 2 f fd ["self", "s"] (spLook C Tb) := by
  refine F.ok scLook (fun vs H Q E h => ?_) (fun cdv A outer s H vs Q E hr h => ?_)
  · obtain ⟨a, f, m, s, rfl, _⟩ := h
    rfl
  · obtain ⟨a, f, m, s, rfl, hf, hT, q⟩ := h
    refine ⟨_, pss_cons (ps_if (pt_not (pt_val (pe_meth (pv 0) T.cl mH GH hr bH .nil pass0 (pa_cons (pv 1) pa_nil)))) (pss_one (ps_ret (pe_lst (pa_cons (pe_un un_neg pe_int) pa_nil)))) pss_nil)
      (pss_one (ps_ret (pe_lst (pa_cons pe_int (pa_cons (pe_ix ix_list (pe_fld (pv 0) rfl) (pv 1) (fun _ _ => rfl)) (pa_cons (pe_ix ix_list (pe_fld (pv 0) rfl) (pv 1) (fun _ _ => rfl)) pa_nil)))))), ?_⟩
    obtain ⟨dx, ho⟩ := hf.ob
    refine ⟨_, rfl, a, dx, _, rfl, ho, fF_no m (by decide +kernel), _, rfl, a, f, m, s, rfl, hf, _, rfl, ?_⟩
    unfold look at q
    by_cases c : s < f.w * f.h
    · rw [decide_eq_true c]
      rw [if_neg (by omega)] at q
      refine iteF ?_
      refine ⟨_, rfl, a, C, dx, _, _, rfl, ho, T.cl, T.a6, fF_la m, _, rfl, m.la, _, _, _, rfl, rfl, SqL.of hf.lev, atI_nat (vN_at (by rw [hf.v.g]; exact c)), _, rfl, a, C, dx, _, _, rfl, ho, T.cl, T.a7, fF_wa m, _, rfl, m.wa, _, _, _, rfl, rfl, SqL.of hf.wan, atI_nat (vN_at (by rw [hf.v.q]; exact c)), Evl.sz_of (by simp), ?_⟩
      exact q.lst (LamX.ExtN.refl H) hT rfl
    · rw [decide_eq_false c]
      rw [if_pos (by omega)] at q
      refine iteT ?_
      exact ⟨2, rfl, Evl.sz_of (by simp), q.lst (LamX.ExtN.refl H) hT rfl⟩
/-! worth -/
def worth (f : Kp218.Field) (s : Nat) : List Int := if f.w * f.h ≤ s then [-2] else if 50 ≤ Kp218.wanted f s then [-28] else [0, (Kp218.least { f with want := f.want.set s (Kp218.wanted f s + 1) } : Int) - (Kp218.least f : Int)]
def spWorth (C : Addr) (T : List (Addr × Str)) : Sp := fun vs H Q _ => ∃ (a : Addr) (f : Kp218.Field) (m : Fd) (s : Nat), vs = [.ref a, .int (s : Nat)] ∧ FAt C H a f m ∧ LamX.Tabs T H ∧ Told T H Q (worth f s)
theorem ok_worth {f fH fC fV : Addr} {fd fdH fdC fdV : FuncData} (F : Fun K "worth" "Field.worth" sWorth f fd) (T : Txt K mg C) {tl : Tok} (gl : mg "HIGHEST_LEVEL" = some (.int 50 tl)) (mi : mg "list" = none) {Tb : List (Addr × Str)} (bH : Binds K fdH ["self", "s"] []) (mH : Meth K C "has_square" fH) (GH : FnOk P w K mg base CX0 5 fH fdH ["self", "s"] (spHas (C := C)))
    (bC : Binds K fdC ["self", "levels", "goals"] []) (mC : Meth K C "cost_between" fC) (GC : FnOk P w K mg base CX0 5 fC fdC ["self", "levels", "goals"] (spCost C Tb)) (bV : Binds K fdV ["self"] []) (mV : Meth K C "cost_left" fV) (GV : FnOk P w K mg base CX0 6 fV fdV ["self"] (spLeft C Tb)) : FnOk P w K mg base CX0 7 f fd ["self", "s"] (spWorth C Tb) := by
  refine F.ok scWorth (fun vs H Q E h => ?_) (fun cdv A outer s H vs Q E hr h => ?_)
  · obtain ⟨a, f, m, s, rfl, _⟩ := h
    rfl
  · obtain ⟨a, f, m, s, rfl, hf, hT, q⟩ := h
    refine ⟨_, pss_cons (ps_if (pt_not (pt_val (pe_meth (pv 0) T.cl mH GH (hr.mono (by decide)) bH .nil pass0 (pa_cons (pv 1) pa_nil)))) (pss_one (ps_ret (pe_lst (pa_cons (pe_un un_neg pe_int) pa_nil)))) pss_nil)
      (pss_cons (ps_if (pt_cmpR op_ge (pe_ix ix_list (pe_fld (pv 0) rfl) (pv 1) (fun _ _ => rfl)) (pe_glob (v := .int 50) rfl gl ⟨_, rfl⟩) (nomark _)) (pss_one (ps_ret (pe_lst (pa_cons (pe_un un_neg pe_int) pa_nil)))) pss_nil)
      (pss_cons (ps_set (i := 2) scWorth.nd rfl (.inl rfl) (pe_callTy call_list_of (by rfl) mi (by decide +kernel) (pa_cons (pe_fld (pv 0) rfl) pa_nil)))
      (pss_cons (ps_augS (pv 2) (pv 1) get_list pe_int ip_add set_list)
      (pss_one (ps_ret (pe_lst (pa_cons pe_int (pa_cons (pe_op op_sub (pe_meth (pv 0) T.cl mC GC (hr.mono (by decide)) bC .nil pass0 (pa_cons (pe_fld (pv 0) rfl) (pa_cons (pv 2) pa_nil))) (pe_meth0 (pv 0) T.cl mV GV hr bV .nil pass0)) pa_nil)))))))), ?_⟩
    obtain ⟨dx, ho⟩ := hf.ob
    refine ⟨_, rfl, a, dx, _, rfl, ho, fF_no m (by decide +kernel), _, rfl, a, f, m, s, rfl, hf, _, rfl, ?_⟩
    unfold worth at q
    by_cases c : s < f.w * f.h
    · rw [decide_eq_true c]
      rw [if_neg (by omega)] at q
      have gw : (vN f.want)[s]? = some (.int (Kp218.wanted f s : Nat)) := vN_at (by rw [hf.v.q]; exact c)
      refine iteF ?_
      refine ⟨_, rfl, a, C, dx, _, _, rfl, ho, T.cl, T.a7, fF_wa m, _, rfl, m.wa, _, _, _, rfl, rfl, SqL.of hf.wan, atI_nat gw, _, _, rfl, rfl, _, rfl, ite2 (fun c2 => ?_) (fun c2 => ?_)⟩
      · have c2' := of_decide_eq_true c2
        rw [if_pos (by omega)] at q
        exact ⟨28, rfl, Evl.sz_of (by simp), q.lst (LamX.ExtN.refl H) hT rfl⟩
      · have c2' : ¬ ((50 : Int) ≤ (Kp218.wanted f s : Nat)) := fun z => c2 (decide_eq_true z)
        rw [if_neg (by omega)] at q
        -- raised = list(self.wanted); raised[s] += 1
        refine ⟨_, rfl, a, C, dx, _, _, rfl, ho, T.cl, T.a7, fF_wa m, m.wa, _, rfl, .inl (SqL.of hf.wan), fun ra nra => ?_⟩
        refine ⟨_, rfl, _, rfl, ra, _, _, _, rfl, rfl, SqL.of upd_same, atI_nat gw, _, _, rfl, rfl, ra, _, _, s, rfl, rfl, upd_same, Evl.ixN_nat (by unfold vN; rw [List.length_map, hf.v.q]; exact c), ?_⟩
        rw [upd_upd]
        have hset : (vN f.want).set s (.int ((Kp218.wanted f s : Nat) + 1)) = vN (f.want.set s (Kp218.wanted f s + 1)) := by unfold vN; rw [List.map_set]; rfl
        rw [hset]
        generalize hH1 : upd H ra (.lst (vN (f.want.set s (Kp218.wanted f s + 1)))) = H1
        have s1 : Same H H1 := fun b o e => by rw [← hH1, upd_ne (ne_of_none e nra)]; exact e
        have hr1 : H1 ra = some (.lst (vN (f.want.set s (Kp218.wanted f s + 1)))) := by rw [← hH1]; exact upd_same
        refine ⟨_, rfl, a, dx, _, rfl, s1 _ _ ho, fF_no m (by decide +kernel), _, rfl, a, C, dx, _, _, rfl, s1 _ _ ho, T.cl, T.a6, fF_la m, _, rfl, a, m.la, ra, f, m, f.ground, _, rfl, hf.same s1, LamX.Tabs.ext hT s1, s1 _ _ hf.lev, hf.v.g, hr1, by rw [List.length_set]; exact hf.v.q, fun H2 e2 t2 => ?_⟩
        have e02 : LamX.ExtN H H2 := ExtN.trans' (LamX.ExtN.of s1) e2
        have hf2 := hf.ext e02
        have ho2 : H2 a = some (.ins C dx (fF m)) := e02 _ _ ho (fun ps z => by cases z)
        refine ⟨_, rfl, a, dx, _, rfl, ho2, fF_no m (by decide +kernel), a, f, m, rfl, hf2, t2, fun H3 e3 t3 => ?_⟩
        exact ⟨_, _, rfl, rfl, Evl.sz_of (by simp), q.lst (ExtN.trans' e02 e3) t3 rfl⟩
    · rw [decide_eq_false c]
      rw [if_pos (by omega)] at q
      refine iteT ?_
      exact ⟨2, rfl, Evl.sz_of (by simp), q.lst (LamX.ExtN.refl H) hT rfl⟩
end
end Earth
set_option linter.all false
set_option maxRecDepth 100000
set_option maxHeartbeats 2000000
namespace Earth
open PySem PySem.Spec PyProof.Rows L2
abbrev sSums : Stmt := inClass sCls 6
abbrev sFlat : Stmt := inClass sCls 9
theorem scSums : FnScope ["self", "excess", "too_high", "too_low", "e"] ["self"] (defScope sSums) := ⟨rfl, rfl, rfl, by decide +kernel, rfl, by decide +kernel, by decide +kernel⟩
theorem scFlat : FnScope ["self", "squares", "costs", "cheapest", "level"] ["self"] (defScope sFlat) := ⟨rfl, rfl, rfl, by decide +kernel, rfl, by decide +kernel, by decide +kernel⟩
theorem exc_self {f : Kp218.Field} (hv : EM.V f) : exc f.ground f.want = (List.range (f.w * f.h)).map fun s => (Kp218.level f s : Int) - (f.want.getD s 0 : Nat) := by unfold exc; rw [hv.g]; rfl
theorem filter_more (p : Int → Bool) (l : List Int) (i : Nat) (z : Int) (h : l[i]? = some z) : (l.take (i + 1)).filter p = (l.take i).filter p ++ (if p z = true then [z] else []) := by
  rw [List.take_add_one, h, List.filter_append]
  congr 1
  show List.filter p [z] = _
  rw [List.filter_cons]
  rfl
section
variable {P : Program} {w : World} {K : PySem.W.Frag} {mg : Str → Option Value} {base : Heap} {C : Addr}
/-! sums -/
def spSums (C : Addr) (T : List (Addr × Str)) : Sp := fun vs H Q _ => ∃ (a : Addr) (f : Kp218.Field) (m : Fd), vs = [.ref a] ∧ FAt C H a f m ∧ LamX.Tabs T H ∧ Told T H Q [0, (Kp218.cut f : Int), (Kp218.fill f : Int)]
theorem ok_sums {f fE : Addr} {fd fdE : FuncData} (F : Fun K "sums" "Field.sums" sSums f fd) (T : Txt K mg C) (ms : mg "sum" = none) {Tb : List (Addr × Str)} (mz : mg "zip" = none) (FE : Fun K "excess_of" "excess_of" sExc fE fdE) (bE : Binds K fdE ["levels", "goals"] []) (gE : mg "excess_of" = some (.ref fE)) :
    FnOk P w K mg base CX0 2 f fd ["self"] (spSums C Tb) := by
  have GE : FnOk P w K mg base CX0 1 fE fdE ["levels", "goals"] spExc := ok_exc FE mz
  refine F.ok scSums (fun vs H Q E h => ?_) (fun cdv A outer s H vs Q E hr h => ?_)
  · obtain ⟨a, f, m, rfl, _⟩ := h
    rfl
  · obtain ⟨a, f, m, rfl, hf, hT, q⟩ := h
    refine ⟨_, pss_cons (ps_set (i := 1) scSums.nd rfl (.inl rfl) (pe_call GE hr (by rfl) gE FE.kp bE .nil pass0 (pa_cons (pe_fld (pv 0) rfl) (pa_cons (pe_fld (pv 0) rfl) pa_nil))))
      (pss_cons (ps_set (i := 2) scSums.nd rfl (.inl rfl) (pe_callB (cr_sum rfl) (by rfl) ms (by decide +kernel) (pa_cons (pe_lc (own := [("e", 4)]) (g := gName 4) (tt := tTest (tOp (rI0 fun i j => .bl (decide (j < i))) (tVar 4) (tC (.int 0)))) (te := tVar 4) rfl scSums.nd (pi_list (pv 1)) (blkOk_by (N := ["self", "excess", "too_high", "too_low", "e"]) (sc := defScope sSums) (by decide +kernel))
          (fun _ _ _ _ _ => pg_name (i := 4) scSums.nd rfl (Or.inl rfl)) (fun _ _ _ _ _ => pts_one (pt_cmpR op_gt (pv 4) pe_int (nomark _))) (fun _ _ _ _ _ => pv 4)) pa_nil)))
      (pss_cons (ps_set (i := 3) scSums.nd rfl (.inl rfl) (pe_callB (cr_sum rfl) (by rfl) ms (by decide +kernel) (pa_cons (pe_lc (own := [("e", 4)]) (g := gName 4) (tt := tTest (tOp (rI0 fun i j => .bl (decide (i < j))) (tVar 4) (tC (.int 0)))) (te := tUn (rU fun i => .int (-i)) (tVar 4)) rfl scSums.nd (pi_list (pv 1)) (blkOk_by (N := ["self", "excess", "too_high", "too_low", "e"]) (sc := defScope sSums) (by decide +kernel))
          (fun _ _ _ _ _ => pg_name (i := 4) scSums.nd rfl (Or.inl rfl)) (fun _ _ _ _ _ => pts_one (pt_cmpR op_lt (pv 4) pe_int (nomark _))) (fun _ _ _ _ _ => pe_un un_neg (pv 4))) pa_nil)))
      (pss_one (ps_ret (pe_lst (pa_cons pe_int (pa_cons (pv 2) (pa_cons (pv 3) pa_nil)))))))), ?_⟩
    obtain ⟨dx, ho⟩ := hf.ob
    have hn16 := EM.size16 hf.v
    refine ⟨_, rfl, a, C, dx, _, _, rfl, ho, T.cl, T.a6, fF_la m, _, rfl, a, C, dx, _, _, rfl, ho, T.cl, T.a7, fF_wa m, m.la, m.wa, f.ground, f.want, rfl, hf.lev, hf.wan, by rw [hf.v.g, hf.v.q], by rw [hf.v.g]; exact hn16, fun H1 xa s1 nxa hxa => ?_⟩
    have hT1 : LamX.Tabs Tb H1 := LamX.Tabs.ext hT s1
    have hlen : (exc f.ground f.want).length = f.w * f.h := by unfold exc; simp [hf.v.g]
    have item : ∀ {i : Nat} {x : V}, ((exc f.ground f.want).map V.int)[i]? = some x → ∃ z, (exc f.ground f.want)[i]? = some z ∧ x = .int z := fun {i x} hx => by
      rw [List.getElem?_map] at hx
      cases e : (exc f.ground f.want)[i]? with
      | none => rw [e] at hx; cases hx
      | some z => rw [e] at hx; exact ⟨z, rfl, (Option.some.inj hx).symm⟩
    -- too_high
    refine ⟨_, rfl, xa, rfl, ⟨_, SqL.of hxa⟩, fun D nD => ?_⟩
    refine lc_list (K := K) (a := xa) (xs := (exc f.ground f.want).map V.int) (fun i H' => Same H1 H' ∧ LamX.Tabs Tb H' ∧ H' D = some (.lst ((((exc f.ground f.want).take i).filter fun e => decide (0 < e)).map V.int))) ?_ ?_ ?_ ?_
    · exact ⟨fun b o e => by rw [upd_ne (ne_of_none e nD)]; exact e, Tabs.upd hT1 (.inl nD), upd_same⟩
    · rintro i H' _ ⟨sm, _⟩
      exact SqL.of (sm _ _ hxa)
    · rintro i x H' hx ⟨sm, hT', hD⟩
      obtain ⟨z, hz, rfl⟩ := item hx
      have hmore := filter_more (fun e => decide (0 < e)) _ i z hz
      refine ⟨rfl, _, rfl, _, _, rfl, rfl, _, rfl, ite2 (fun c => ?_) (fun c => ?_)⟩
      · rw [if_pos c] at hmore
        refine ⟨_, rfl, _, hD, Evl.sz_lt ?_, fun b o e => by rw [upd_ne (ne_of_none e nD)]; exact sm _ _ e, Tabs.upd hT' (.inr ⟨_, hD⟩), ?_⟩
        · rw [List.length_map]
          have := List.length_filter_le (fun e => decide (0 < e)) ((exc f.ground f.want).take i)
          rw [List.length_take, hlen] at this; omega
        · rw [upd_same, hmore, List.map_append]; rfl
      · rw [if_neg c, List.append_nil] at hmore
        rw [hmore]
        exact ⟨sm, hT', hD⟩
    · rintro H2 ⟨s2, hT2, hD2⟩
      rw [List.length_map, List.take_of_length_le (Nat.le_refl _)] at hD2
      refine ⟨D, _, rfl, SqL.of hD2, ?_⟩
      -- too_low
      refine ⟨_, rfl, xa, rfl, ⟨_, SqL.of (s2 _ _ hxa)⟩, fun D' nD' => ?_⟩
      refine lc_list (K := K) (a := xa) (xs := (exc f.ground f.want).map V.int) (fun i H' => Same H2 H' ∧ LamX.Tabs Tb H' ∧ H' D' = some (.lst (((((exc f.ground f.want).take i).filter fun e => decide (e < 0)).map fun e => -e).map V.int))) ?_ ?_ ?_ ?_
      · exact ⟨fun b o e => by rw [upd_ne (ne_of_none e nD')]; exact e, Tabs.upd hT2 (.inl nD'), upd_same⟩
      · rintro i H' _ ⟨sm, _⟩
        exact SqL.of (sm _ _ (s2 _ _ hxa))
      · rintro i x H' hx ⟨sm, hT', hD⟩
        obtain ⟨z, hz, rfl⟩ := item hx
        have hmore := filter_more (fun e => decide (e < 0)) _ i z hz
        refine ⟨rfl, _, rfl, _, _, rfl, rfl, _, rfl, ite2 (fun c => ?_) (fun c => ?_)⟩
        · rw [if_pos c] at hmore
          refine ⟨_, rfl, _, rfl, _, hD, Evl.sz_lt ?_, fun b o e => by rw [upd_ne (ne_of_none e nD')]; exact sm _ _ e, Tabs.upd hT' (.inr ⟨_, hD⟩), ?_⟩
          · rw [List.length_map, List.length_map]
            have := List.length_filter_le (fun e => decide (e < 0)) ((exc f.ground f.want).take i)
            rw [List.length_take, hlen] at this; omega
          · rw [upd_same, hmore, List.map_append, List.map_append]; rfl
        · rw [if_neg c, List.append_nil] at hmore
          rw [hmore]
          exact ⟨sm, hT', hD⟩
      · rintro H3 ⟨s3, hT3, hD3⟩
        rw [List.length_map, List.take_of_length_le (Nat.le_refl _)] at hD3
        refine ⟨D', _, rfl, SqL.of hD3, ?_⟩
        refine ⟨_, rfl, _, rfl, Evl.sz_of (by simp), q.lst (LamX.ExtN.of (fun b o e => s3 _ _ (s2 _ _ (s1 _ _ e)))) hT3 ?_⟩
        have h1 := EM.high_sum f
        have h2 := EM.low_sum f
        rw [List.map_id'] at h1
        have e1 : ((exc f.ground f.want).filter fun e => decide (0 < e)).sum = (Kp218.cut f : Int) := by rw [exc_self hf.v]; exact h1
        have e2 : (((exc f.ground f.want).filter fun e => decide (e < 0)).map fun e => -e).sum = (Kp218.fill f : Int) := by rw [exc_self hf.v]; exact h2
        rw [e1, e2]; rfl
end
end Earth
set_option linter.all false
set_option maxRecDepth 100000
set_option maxHeartbeats 2000000
namespace Earth
open PySem PySem.Spec PyProof.Rows L2
theorem first_of {x : Int} : ∀ {l : List Int}, x ∈ l → ∃ j : Nat, l[j]? = some x ∧ ∀ i : Nat, i < j → l[i]? ≠ some x
  | [], h => by cases h
  | y :: l, h => by
    by_cases e : y = x
    · exact ⟨0, by rw [e]; rfl, fun i hi => by omega⟩
    · rcases List.mem_cons.1 h with h1 | h1
      · exact absurd h1.symm e
      · obtain ⟨j, h2, h3⟩ := first_of h1
        refine ⟨j + 1, h2, fun i hi => ?_⟩
        cases i with
        | zero => intro z; exact e (Option.some.inj z)
        | succ i => exact h3 i (by omega)
def costs (f : Kp218.Field) : List Int := (List.range 51).map fun l => (Kp218.flatAt f l : Int)
theorem costs_len (f : Kp218.Field) : (costs f).length = 51 := by unfold costs; simp
theorem costs_get {f : Kp218.Field} {i : Nat} (h : i < 51) : (costs f)[i]? = some (Kp218.flatAt f i : Int) := by unfold costs; rw [List.getElem?_map, List.getElem?_range h]; rfl
section
variable {P : Program} {w : World} {K : PySem.W.Frag} {mg : Str → Option Value} {base : Heap} {C : Addr}
/-! flat -/
def flat (f : Kp218.Field) : List Int := if 9 < f.w * f.h then [-28] else [((Kp218.flat f).1 : Int), ((Kp218.flat f).2 : Int)]
def spFlat (C : Addr) (T : List (Addr × Str)) : Sp := fun vs H Q _ => ∃ (a : Addr) (f : Kp218.Field) (m : Fd), vs = [.ref a] ∧ FAt C H a f m ∧ LamX.Tabs T H ∧ Told T H Q (flat f)
theorem ok_flat {f fC : Addr} {fd fdC : FuncData} (F : Fun K "flat" "Field.flat" sFlat f fd) (T : Txt K mg C) {tl tm : Tok} (gl : mg "HIGHEST_LEVEL" = some (.int 50 tl)) (gm : mg "MOST_SQUARES_FOR_FLAT" = some (.int 9 tm)) (ml : mg "len" = none) (mr : mg "range" = none) (mn : mg "min" = none) {Tb : List (Addr × Str)}
    (bC : Binds K fdC ["self", "levels", "goals"] []) (mC : Meth K C "cost_between" fC) (GC : FnOk P w K mg base CX0 5 fC fdC ["self", "levels", "goals"] (spCost C Tb)) : FnOk P w K mg base CX0 6 f fd ["self"] (spFlat C Tb) := by
  refine F.ok scFlat (fun vs H Q E h => ?_) (fun cdv A outer s H vs Q E hr h => ?_)
  · obtain ⟨a, f, m, rfl, _⟩ := h
    rfl
  · obtain ⟨a, f, m, rfl, hf, hT, q⟩ := h
    refine ⟨_, pss_cons (ps_set (i := 1) scFlat.nd rfl (.inr rfl) (pe_callB call_len_seq (by rfl) ml PySem.boot_len (pa_cons (pe_fld (pv 0) rfl) pa_nil)))
      (pss_cons (ps_if (pt_cmpR op_gt (pv 1) (pe_glob (v := .int 9) rfl gm ⟨_, rfl⟩) (nomark _)) (pss_one (ps_ret (pe_lst (pa_cons (pe_un un_neg pe_int) pa_nil)))) pss_nil)
      (pss_cons (ps_setLc (i := 2) (own := [("level", 4)]) (g := gName 4) (tt := tYes) (te := tMeth C "cost_between" (spCost C Tb) [] E0 (tVar 0) (tCons (tFld K (tVar 0) "levels") (tCons (tOp rRep (tLst (tCons (tVar 4) tNil)) (tVar 1)) tNil))) rfl scFlat.nd rfl rfl (sw_true rfl rfl rfl (by decide +kernel))
          (pi_range1 rfl mr (pa_cons (pe_op op_add (pe_glob (v := .int 50) rfl gl ⟨_, rfl⟩) pe_int) pa_nil)) (blkOk_by (N := ["self", "squares", "costs", "cheapest", "level"]) (sc := defScope sFlat) (by decide +kernel))
          (fun _ _ _ _ _ => pg_name (i := 4) scFlat.nd rfl (Or.inl rfl)) (fun _ _ _ _ _ => pts_nil) (fun _ _ _ _ _ => pe_meth (pv 0) T.cl mC GC hr bC .nil pass0 (pa_cons (pe_fld (pv 0) rfl) (pa_cons (pe_op op_rep (pe_lst (pa_cons (pv 4) pa_nil)) (pv 1)) pa_nil))))
      (pss_cons (ps_set (i := 3) scFlat.nd rfl (.inl rfl) (pe_callB (cr_min rfl) (by rfl) mn (by decide +kernel) (pa_cons (pv 2) pa_nil)))
      (pss_one (ps_ret (pe_lst (pa_cons (pe_bm PySem.F.plainAttrs_list PySem.F.slot_list_index PySem.F.type_list_index mt_index (pv 2) (pa_cons (pv 3) pa_nil)) (pa_cons (pv 3) pa_nil)))))))), ?_⟩
    obtain ⟨dx, ho⟩ := hf.ob
    have hn16 := EM.size16 hf.v
    have hgl : (vN f.ground).length = f.w * f.h := by unfold vN; rw [List.length_map, hf.v.g]
    refine ⟨_, rfl, a, C, dx, _, _, rfl, ho, T.cl, T.a6, fF_la m, m.la, _, rfl, .inl (SqL.of hf.lev), ?_⟩
    rw [hgl]
    refine ⟨_, rfl, _, _, rfl, rfl, _, rfl, ite2 (fun c => ?_) (fun c => ?_)⟩
    · have c' := of_decide_eq_true c
      unfold flat at q
      rw [if_pos (by omega)] at q
      exact ⟨28, rfl, Evl.sz_of (by simp), q.lst (LamX.ExtN.refl H) hT rfl⟩
    · have c' : ¬ ((9 : Int) < ((f.w * f.h : Nat) : Int)) := fun z => c (decide_eq_true z)
      unfold flat at q
      rw [if_neg (by omega)] at q
      -- costs
      refine ⟨_, _, rfl, rfl, _, rfl, by decide, by decide, ?_⟩
      intro D nD
      refine lc_range (lo := 0) (n := 51) (fun i H' => LamX.ExtN H H' ∧ LamX.Tabs Tb H' ∧ H' D = some (.lst (((costs f).take i).map V.int))) ?_ ?_ ?_
      · exact ⟨ExtN.upd (LamX.ExtN.refl H) nD, Tabs.upd hT (.inl nD), upd_same⟩
      · rintro i H' hi ⟨e1, t1, hD⟩
        have e0 : (0 + (i : Int)) = i := by omega
        rw [e0]
        have hf1 := hf.ext e1
        have ho1 : H' a = some (.ins C dx (fF m)) := e1 _ _ ho (fun ps z => by cases z)
        refine ⟨rfl, _, rfl, a, dx, _, rfl, ho1, fF_no m (by decide +kernel), _, rfl, a, C, dx, _, _, rfl, ho1, T.cl, T.a6, fF_la m, _, rfl, Evl.sz_of (by simp), fun z nz => ?_⟩
        refine ⟨_, rfl, z, _, _, rfl, rfl, upd_same, by omega, by omega, by rw [Int.toNat_natCast, List.length_singleton]; exact Evl.sz_of (by omega), fun r nr => ?_⟩
        rw [Int.toNat_natCast, flat_rep]
        have hrz : r ≠ z := fun e => by rw [e, upd_same] at nr; cases nr
        have hrv : List.replicate (f.w * f.h) (V.int (i : Int)) = vN (List.replicate (f.w * f.h) i) := by unfold vN; rw [List.map_replicate]
        rw [hrv]
        generalize hH2 : upd (upd H' z (.lst [.int (i : Int)])) r (.lst (vN (List.replicate (f.w * f.h) i))) = H2
        have s2 : Same H' H2 := fun b o e => by
          have hbz := ne_of_none e nz
          rw [← hH2, upd_ne (fun e' => by rw [← e', upd_ne hbz, e] at nr; cases nr), upd_ne hbz]; exact e
        have hr2 : H2 r = some (.lst (vN (List.replicate (f.w * f.h) i))) := by rw [← hH2]; exact upd_same
        refine ⟨a, m.la, r, f, m, f.ground, _, rfl, hf1.same s2, LamX.Tabs.ext t1 s2, s2 _ _ hf1.lev, hf.v.g, hr2, by simp, fun H3 e3 t3 => ?_⟩
        have hD3 : H3 D = some (.lst (((costs f).take i).map V.int)) := e3 _ _ (s2 _ _ hD) (fun ps z => by cases z)
        have e13 : LamX.ExtN H H3 := fun b o h1 h2 => e3 _ _ (s2 _ _ (e1 _ _ h1 h2)) h2
        refine ⟨_, hD3, Evl.sz_lt (by rw [List.length_map, List.length_take]; omega), ExtN.upd e13 nD, Tabs.upd t3 (.inr ⟨_, hD3⟩), ?_⟩
        rw [upd_same, List.take_add_one, costs_get hi, List.map_append]; rfl
      · rintro H1 ⟨e1, t1, hD⟩
        rw [List.take_of_length_le (by rw [costs_len]; omega)] at hD
        -- cheapest = min(costs)
        refine ⟨_, rfl, D, costs f, rfl, SqL.of hD, by rw [costs_len]; omega, fun c hc hle => ?_⟩
        obtain ⟨j, hj, hfirst⟩ := first_of hc
        have hj51 : j < 51 := by rw [← costs_len f]; exact (List.getElem?_eq_some_iff.1 hj).1
        have hcj : (Kp218.flatAt f j : Int) = c := by rw [costs_get hj51] at hj; exact Option.some.inj hj
        have hfl : Kp218.flat f = (j, Kp218.flatAt f j) := by
          refine EM.flat_is f j _ hj51 rfl (fun i hi => ?_) (fun i hi => ?_)
          · have := hle _ (List.mem_of_getElem? (costs_get (f := f) hi))
            omega
          · intro e
            refine hfirst i hi ?_
            rw [costs_get (by omega), e, hcj]
        refine ⟨_, rfl, .inl ⟨rfl, _, SqL.of hD⟩, _, rfl, D, _, _, j, .int c, rfl, rfl, SqL.of hD, rfl, ?_, by rw [List.getElem?_map, hj]; rfl, ?_, ?_, ?_⟩
        · rw [List.all_eq_true]
          intro v hv
          obtain ⟨z, _, rfl⟩ := List.mem_map.1 hv
          rfl
        · show (c == c) = true
          exact beq_self_eq_true c
        · intro i z hi hz
          rw [List.getElem?_map] at hz
          cases e : (costs f)[i]? with
          | none => rw [e] at hz; cases hz
          | some y =>
            rw [e] at hz
            cases hz
            have : y ≠ c := fun e2 => hfirst i hi (by rw [e, e2])
            show (y == c) = false
            exact beq_eq_false_iff_ne.2 this
        · refine ⟨_, rfl, Evl.sz_of (by simp), q.lst e1 t1 ?_⟩
          rw [hfl, ← hcj]; rfl
end
end Earth
set_option linter.all false
set_option maxRecDepth 100000
set_option maxHeartbeats 2000000
namespace Earth
open PySem PySem.Spec PyProof.Rows L2
/-- the object, begun or not -/
def SAt (C : Addr) (H : Hp) (a : Addr) (st : Kp218.State) (m : Fd) : Prop := match st with
  | none => (∃ dx, H a = some (.ins C dx (fF m))) ∧ m.begun = false
  | some f => FAt C H a f m
/-- what a call may do: the object is in its next state, a new list is handed back, all else stands -/
def Acts (C : Addr) (T : List (Addr × Str)) (H : Hp) (a : Addr) (m : Fd) (Q : VK) (st' : Kp218.State) (ns : List Int) : Prop := ∀ (H' : Hp) (p : Addr) (m' : Fd), SAt C H' a st' m' → (∀ b o, H b = some o → (∀ ps, o ≠ .tbl ps) → b ≠ a → b ≠ m.la → b ≠ m.wa → H' b = some o) →
  LamX.Tabs T H' → New H p → (m'.la = m.la ∨ New H m'.la) → (m'.wa = m.wa ∨ New H m'.wa) → H' p = some (.lst (ns.map V.int)) → Q (.ref p) H'
theorem SAt.ext {C : Addr} {H H' : Hp} {a : Addr} {st : Kp218.State} {m : Fd} (h : SAt C H a st m) (e : LamX.ExtN H H') : SAt C H' a st m := by
  cases st with
  | none =>
    obtain ⟨⟨dx, h1⟩, h2⟩ := h
    exact ⟨⟨dx, e _ _ h1 (fun ps z => by cases z)⟩, h2⟩
  | some f => exact FAt.ext h e
theorem Acts.told {C : Addr} {T : List (Addr × Str)} {H : Hp} {a : Addr} {m : Fd} {Q : VK} {st : Kp218.State} {ns : List Int} (h : Acts C T H a m Q st ns) (hs : SAt C H a st m) : Told T H Q ns := fun H' p e t n hp =>
  h H' p m (hs.ext e) (fun b o h1 h2 _ _ _ => e b o h1 h2) t n (.inl rfl) (.inl rfl) hp
abbrev sSet : Stmt := inClass sCls 4
abbrev sGround : Stmt := inClass sCls 2
abbrev sWant : Stmt := inClass sCls 3
abbrev sBegin : Stmt := inClass sCls 1
abbrev sInit : Stmt := inClass sCls 0
theorem scSet : FnScope ["self", "heights", "s", "l", "was"] ["self", "heights", "s", "l"] (defScope sSet) := ⟨rfl, rfl, rfl, by decide +kernel, rfl, by decide +kernel, by decide +kernel⟩
theorem scGround : FnScope ["self", "s", "l"] ["self", "s", "l"] (defScope sGround) := ⟨rfl, rfl, rfl, by decide +kernel, rfl, by decide +kernel, by decide +kernel⟩
theorem scWant : FnScope ["self", "s", "l"] ["self", "s", "l"] (defScope sWant) := ⟨rfl, rfl, rfl, by decide +kernel, rfl, by decide +kernel, by decide +kernel⟩
theorem scBegin : FnScope ["self", "w", "h", "bring_cost", "take_cost"] ["self", "w", "h", "bring_cost", "take_cost"] (defScope sBegin) := ⟨rfl, rfl, rfl, by decide +kernel, rfl, by decide +kernel, by decide +kernel⟩
section
variable {P : Program} {w : World} {K : PySem.W.Frag} {mg : Str → Option Value} {base : Heap} {C : Addr}
/-! set_height, ground, want -/
def spSet (C : Addr) (T : List (Addr × Str)) : Sp := fun vs H Q _ => ∃ (a ha : Addr) (f : Kp218.Field) (m : Fd) (G : List Nat) (s l : Nat), vs = [.ref a, .ref ha, .int (s : Nat), .int (l : Nat)] ∧ FAt C H a f m ∧ LamX.Tabs T H ∧ H ha = some (.lst (vN G)) ∧ G.length = f.w * f.h ∧
  (f.w * f.h ≤ s → Told T H Q [-2]) ∧ (s < f.w * f.h → 50 < l → Told T H Q [-22]) ∧
  (s < f.w * f.h → l ≤ 50 → ∀ p, H p = none → Q (.ref p) (upd (upd H ha (.lst (vN (G.set s l)))) p (.lst [.int (G.getD s 0 : Nat)])))
theorem ok_set {f fH : Addr} {fd fdH : FuncData} (F : Fun K "set_height" "Field.set_height" sSet f fd) (T : Txt K mg C) {tl : Tok} (gl : mg "HIGHEST_LEVEL" = some (.int 50 tl)) {Tb : List (Addr × Str)} (bH : Binds K fdH ["self", "s"] []) (mH : Meth K C "has_square" fH) (GH : FnOk P w K mg base CX0 1 fH fdH ["self", "s"] (spHas (C := C))) :
    FnOk P w K mg base CX0 2 f fd ["self", "heights", "s", "l"] (spSet C Tb) := by
  refine F.ok scSet (fun vs H Q E h => ?_) (fun cdv A outer s H vs Q E hr h => ?_)
  · obtain ⟨a, ha, f, m, G, s, l, rfl, _⟩ := h
    rfl
  · obtain ⟨a, ha, f, m, G, s, l, rfl, hf, hT, hG, hGn, q1, q2, q3⟩ := h
    refine ⟨_, pss_cons (ps_if (pt_not (pt_val (pe_meth (pv 0) T.cl mH GH hr bH .nil pass0 (pa_cons (pv 2) pa_nil)))) (pss_one (ps_ret (pe_lst (pa_cons (pe_un un_neg pe_int) pa_nil)))) pss_nil)
      (pss_cons (ps_if (pt_cmpR op_gt (pv 3) (pe_glob (v := .int 50) rfl gl ⟨_, rfl⟩) (nomark _)) (pss_one (ps_ret (pe_lst (pa_cons (pe_un un_neg pe_int) pa_nil)))) pss_nil)
      (pss_cons (ps_set (i := 4) scSet.nd rfl (.inl rfl) (pe_ix ix_list (pv 1) (pv 2) (fun _ _ => rfl)))
      (pss_cons (ps_asg (pv 3) (pg_sub (pv 1) (pv 2) set_list))
      (pss_one (ps_ret (pe_lst (pa_cons (pv 4) pa_nil))))))), ?_⟩
    obtain ⟨dx, ho⟩ := hf.ob
    refine ⟨_, rfl, a, dx, _, rfl, ho, fF_no m (by decide +kernel), _, rfl, a, f, m, s, rfl, hf, _, rfl, ?_⟩
    by_cases c : s < f.w * f.h
    · rw [decide_eq_true c]
      refine iteF ?_
      refine ⟨_, rfl, _, _, rfl, rfl, _, rfl, ite2 (fun c2 => ?_) (fun c2 => ?_)⟩
      · have c2' := of_decide_eq_true c2
        exact ⟨22, rfl, Evl.sz_of (by simp), (q2 c (by omega)).lst (LamX.ExtN.refl H) hT rfl⟩
      · have c2' : ¬ ((50 : Int) < (l : Nat)) := fun z => c2 (decide_eq_true z)
        refine ⟨_, rfl, _, rfl, ha, _, _, _, rfl, rfl, SqL.of hG, atI_nat (vN_at (by rw [hGn]; exact c)), ?_⟩
        refine ⟨_, rfl, _, rfl, _, rfl, ha, _, _, s, rfl, rfl, hG, Evl.ixN_nat (by unfold vN; rw [List.length_map, hGn]; exact c), ?_⟩
        have hset : (vN G).set s (.int (l : Nat)) = vN (G.set s l) := by unfold vN; rw [List.map_set]
        rw [hset]
        refine ⟨_, rfl, Evl.sz_of (by simp), fun p np => ?_⟩
        have hpa : p ≠ ha := fun e => by rw [e, upd_same] at np; cases np
        rw [upd_ne hpa] at np
        exact q3 c (by omega) p np
    · rw [decide_eq_false c]
      refine iteT ?_
      exact ⟨2, rfl, Evl.sz_of (by simp), (q1 (by omega)).lst (LamX.ExtN.refl H) hT rfl⟩
def spGround (C : Addr) (T : List (Addr × Str)) : Sp := fun vs H Q _ => ∃ (a : Addr) (f : Kp218.Field) (m : Fd) (s l : Nat), vs = [.ref a, .int (s : Nat), .int (l : Nat)] ∧ FAt C H a f m ∧ LamX.Tabs T H ∧ Acts C T H a m Q (EM.said (Kp218.step (some f) (.ground s l))).1 (EM.said (Kp218.step (some f) (.ground s l))).2
theorem ok_ground {f fS : Addr} {fd fdS : FuncData} (F : Fun K "ground" "Field.ground" sGround f fd) (T : Txt K mg C) {Tb : List (Addr × Str)} (bS : Binds K fdS ["self", "heights", "s", "l"] []) (mS : Meth K C "set_height" fS) (GS : FnOk P w K mg base CX0 2 fS fdS ["self", "heights", "s", "l"] (spSet C Tb)) :
    FnOk P w K mg base CX0 3 f fd ["self", "s", "l"] (spGround C Tb) := by
  refine F.ok scGround (fun vs H Q E h => ?_) (fun cdv A outer s H vs Q E hr h => ?_)
  · obtain ⟨a, f, m, s, l, rfl, _⟩ := h
    rfl
  · obtain ⟨a, f, m, s, l, rfl, hf, hT, q⟩ := h
    refine ⟨_, pss_one (ps_ret (pe_meth (pv 0) T.cl mS GS hr bS .nil pass0 (pa_cons (pe_fld (pv 0) rfl) (pa_cons (pv 1) (pa_cons (pv 2) pa_nil))))), ?_⟩
    obtain ⟨dx, ho⟩ := hf.ob
    refine ⟨_, rfl, a, dx, _, rfl, ho, fF_no m (by decide +kernel), _, rfl, a, C, dx, _, _, rfl, ho, T.cl, T.a6, fF_la m, _, rfl, _, rfl, ?_⟩
    refine ⟨a, m.la, f, m, f.ground, s, l, rfl, hf, hT, hf.lev, hf.v.g, fun c => ?_, fun c c2 => ?_, fun c c2 p np => ?_⟩
    · have e : Kp218.step (some f) (.ground s l) = (some f, Kp218.say (-2)) := by simp only [Kp218.step]; rw [if_pos c]
      rw [e] at q
      exact q.told hf
    · have e : Kp218.step (some f) (.ground s l) = (some f, Kp218.say (-22)) := by simp only [Kp218.step]; rw [if_neg (by omega), if_pos (show Kp218.LEVEL < l from c2)]
      rw [e] at q
      exact q.told hf
    · have e : Kp218.step (some f) (.ground s l) = (some (Kp218.setLevel f s l), Kp218.say (Kp218.level f s : Int)) := by simp only [Kp218.step]; rw [if_neg (by omega), if_neg (show ¬ Kp218.LEVEL < l from by unfold Kp218.LEVEL; omega)]
      rw [e] at q
      have hal : a ≠ m.la := fun e => by rw [e, hf.lev] at ho; cases ho
      have hpa : a ≠ p := ne_of_none ho np
      have hpl : m.la ≠ p := ne_of_none hf.lev np
      have hpw : m.wa ≠ p := ne_of_none hf.wan np
      refine q _ p m ?_ ?_ ?_ (fun b o h1 _ z => ne_of_none h1 np z) (.inl rfl) (.inl rfl) upd_same
      · refine ⟨⟨dx, by rw [upd_ne hpa, upd_ne hal]; exact ho⟩, hf.v.setLevel s l, hf.be, hf.ew, hf.eh, hf.eb, hf.et, hf.es, ?_, ?_, hf.ne⟩
        · rw [upd_ne hpl, upd_same]; rfl
        · rw [upd_ne hpw, upd_ne hf.ne.symm]; exact hf.wan
      · intro b o h1 _ _ h3 _
        rw [upd_ne (ne_of_none h1 np), upd_ne h3]; exact h1
      · exact Tabs.upd (Tabs.upd hT (.inr ⟨_, hf.lev⟩)) (.inl (by rw [upd_ne hpl.symm]; exact np))
def spWant (C : Addr) (T : List (Addr × Str)) : Sp := fun vs H Q _ => ∃ (a : Addr) (f : Kp218.Field) (m : Fd) (s l : Nat), vs = [.ref a, .int (s : Nat), .int (l : Nat)] ∧ FAt C H a f m ∧ LamX.Tabs T H ∧ Acts C T H a m Q (EM.said (Kp218.step (some f) (.want s l))).1 (EM.said (Kp218.step (some f) (.want s l))).2
theorem ok_want {f fS : Addr} {fd fdS : FuncData} (F : Fun K "want" "Field.want" sWant f fd) (T : Txt K mg C) {Tb : List (Addr × Str)} (bS : Binds K fdS ["self", "heights", "s", "l"] []) (mS : Meth K C "set_height" fS) (GS : FnOk P w K mg base CX0 2 fS fdS ["self", "heights", "s", "l"] (spSet C Tb)) :
    FnOk P w K mg base CX0 3 f fd ["self", "s", "l"] (spWant C Tb) := by
  refine F.ok scWant (fun vs H Q E h => ?_) (fun cdv A outer s H vs Q E hr h => ?_)
  · obtain ⟨a, f, m, s, l, rfl, _⟩ := h
    rfl
  · obtain ⟨a, f, m, s, l, rfl, hf, hT, q⟩ := h
    refine ⟨_, pss_one (ps_ret (pe_meth (pv 0) T.cl mS GS hr bS .nil pass0 (pa_cons (pe_fld (pv 0) rfl) (pa_cons (pv 1) (pa_cons (pv 2) pa_nil))))), ?_⟩
    obtain ⟨dx, ho⟩ := hf.ob
    refine ⟨_, rfl, a, dx, _, rfl, ho, fF_no m (by decide +kernel), _, rfl, a, C, dx, _, _, rfl, ho, T.cl, T.a7, fF_wa m, _, rfl, _, rfl, ?_⟩
    refine ⟨a, m.wa, f, m, f.want, s, l, rfl, hf, hT, hf.wan, hf.v.q, fun c => ?_, fun c c2 => ?_, fun c c2 p np => ?_⟩
    · have e : Kp218.step (some f) (.want s l) = (some f, Kp218.say (-2)) := by simp only [Kp218.step]; rw [if_pos c]
      rw [e] at q
      exact q.told hf
    · have e : Kp218.step (some f) (.want s l) = (some f, Kp218.say (-22)) := by simp only [Kp218.step]; rw [if_neg (by omega), if_pos (show Kp218.LEVEL < l from c2)]
      rw [e] at q
      exact q.told hf
    · have e : Kp218.step (some f) (.want s l) = (some { f with want := f.want.set s l }, Kp218.say (Kp218.wanted f s : Int)) := by simp only [Kp218.step]; rw [if_neg (by omega), if_neg (show ¬ Kp218.LEVEL < l from by unfold Kp218.LEVEL; omega)]
      rw [e] at q
      have haw : a ≠ m.wa := fun e => by rw [e, hf.wan] at ho; cases ho
      have hpa : a ≠ p := ne_of_none ho np
      have hpl : m.la ≠ p := ne_of_none hf.lev np
      have hpw : m.wa ≠ p := ne_of_none hf.wan np
      refine q _ p m ?_ ?_ ?_ (fun b o h1 _ z => ne_of_none h1 np z) (.inl rfl) (.inl rfl) upd_same
      · refine ⟨⟨dx, by rw [upd_ne hpa, upd_ne haw]; exact ho⟩, hf.v.setWant s l, hf.be, hf.ew, hf.eh, hf.eb, hf.et, hf.es, ?_, ?_, hf.ne⟩
        · rw [upd_ne hpl, upd_ne hf.ne]; exact hf.lev
        · rw [upd_ne hpw, upd_same]
      · intro b o h1 _ _ _ h3
        rw [upd_ne (ne_of_none h1 np), upd_ne h3]; exact h1
      · exact Tabs.upd (Tabs.upd hT (.inr ⟨_, hf.wan⟩)) (.inl (by rw [upd_ne hpw.symm]; exact np))
end
end Earth
set_option linter.all false
set_option maxRecDepth 100000
set_option maxHeartbeats 2000000
namespace Earth
open PySem PySem.Spec PyProof.Rows L2
theorem pF_begun (m : Fd) (x : Bool) : putF "begun" (.bl x) (fF m) = fF { m with begun := x } := put_here
theorem pF_w (m : Fd) (x : Int) : putF "width" (.int x) (fF m) = fF { m with w := x } := (put_past (by decide +kernel)).trans (congrArg _ put_here)
theorem pF_h (m : Fd) (x : Int) : putF "height" (.int x) (fF m) = fF { m with h := x } := (put_past (by decide +kernel)).trans (congrArg _ ((put_past (by decide +kernel)).trans (congrArg _ put_here)))
theorem pF_b (m : Fd) (x : Int) : putF "bring_cost" (.int x) (fF m) = fF { m with b := x } := (put_past (by decide +kernel)).trans (congrArg _ ((put_past (by decide +kernel)).trans (congrArg _ ((put_past (by decide +kernel)).trans (congrArg _ put_here)))))
theorem pF_t (m : Fd) (x : Int) : putF "take_cost" (.int x) (fF m) = fF { m with t := x } := (put_past (by decide +kernel)).trans (congrArg _ ((put_past (by decide +kernel)).trans (congrArg _ ((put_past (by decide +kernel)).trans (congrArg _ ((put_past (by decide +kernel)).trans (congrArg _ put_here)))))))
theorem pF_la (m : Fd) (x : Addr) : putF "levels" (.ref x) (fF m) = fF { m with la := x } := (put_past (by decide +kernel)).trans (congrArg _ ((put_past (by decide +kernel)).trans (congrArg _ ((put_past (by decide +kernel)).trans (congrArg _ ((put_past (by decide +kernel)).trans (congrArg _ ((put_past (by decide +kernel)).trans (congrArg _ put_here)))))))))
theorem pF_wa (m : Fd) (x : Addr) : putF "wanted" (.ref x) (fF m) = fF { m with wa := x } := (put_past (by decide +kernel)).trans (congrArg _ ((put_past (by decide +kernel)).trans (congrArg _ ((put_past (by decide +kernel)).trans (congrArg _ ((put_past (by decide +kernel)).trans (congrArg _ ((put_past (by decide +kernel)).trans (congrArg _ ((put_past (by decide +kernel)).trans (congrArg _ put_here)))))))))))
theorem pF_sp (m : Fd) (x : Int) : putF "spent" (.int x) (fF m) = fF { m with sp := x } := (put_past (by decide +kernel)).trans (congrArg _ ((put_past (by decide +kernel)).trans (congrArg _ ((put_past (by decide +kernel)).trans (congrArg _ ((put_past (by decide +kernel)).trans (congrArg _ ((put_past (by decide +kernel)).trans (congrArg _ ((put_past (by decide +kernel)).trans (congrArg _ ((put_past (by decide +kernel)).trans (congrArg _ put_here)))))))))))))
theorem SAt.ob {C : Addr} {H : Hp} {a : Addr} {st : Kp218.State} {m : Fd} (h : SAt C H a st m) : ∃ dx, H a = some (.ins C dx (fF m)) := by
  cases st with
  | none => exact h.1
  | some f => exact FAt.ob h
theorem step_begin (st : Kp218.State) (w h b t : Nat) : Kp218.step st (.begin_ w h b t) = if Kp218.good w h b t then (some ⟨w, h, List.replicate (w * h) 0, List.replicate (w * h) 0, b, t, 0⟩, Kp218.say 0) else (st, Kp218.say (-22)) := rfl
theorem two_true {p q : Prop} [Decidable p] [Decidable q] (h : p ∧ q) : (decide p && decide q) = true := by rw [decide_eq_true h.1, decide_eq_true h.2]; rfl
theorem two_false {p q : Prop} [Decidable p] [Decidable q] (h : ¬ (p ∧ q)) : (decide p && decide q) = false := by
  by_cases hp : p
  · rw [decide_eq_false (fun hq => h ⟨hp, hq⟩), Bool.and_false]
  · rw [decide_eq_false hp, Bool.false_and]
def isIns : HO → Bool
  | .ins _ _ _ => true
  | _ => false
theorem Tabs.updI {T : List (Addr × Str)} {H : Hp} {a : Addr} {o : HO} (hq : (H a).any isIns = true) (ht : LamX.Tabs T H) : LamX.Tabs T (L2.upd H a o) := fun x hx => by
  obtain ⟨ps, h1, h2, h3⟩ := ht x hx
  refine ⟨ps, by rw [upd_ne (fun z => by rw [z] at h1; rw [h1] at hq; cases hq)]; exact h1, h2, fun pos cv hcv => ?_⟩
  obtain ⟨c, e1, e2⟩ := h3 pos cv hcv
  exact ⟨c, e1, by rw [upd_ne (fun z => by rw [z] at e2; rw [e2] at hq; cases hq)]; exact e2⟩
section
variable {P : Program} {w : World} {K : PySem.W.Frag} {mg : Str → Option Value} {base : Heap} {C : Addr}
def spBegin (C : Addr) (T : List (Addr × Str)) : Sp := fun vs H Q _ => ∃ (a : Addr) (st : Kp218.State) (m : Fd) (w h b t : Nat), vs = [.ref a, .int (w : Nat), .int (h : Nat), .int (b : Nat), .int (t : Nat)] ∧ SAt C H a st m ∧ LamX.Tabs T H ∧ Acts C T H a m Q (EM.said (Kp218.step st (.begin_ w h b t))).1 (EM.said (Kp218.step st (.begin_ w h b t))).2
theorem ok_begin {f fR : Addr} {fd fdR : FuncData} (F : Fun K "begin" "Field.begin" sBegin f fd) (T : Txt K mg C) {ts tc : Tok} (gs : mg "LONGEST_SIDE" = some (.int 4 ts)) (gc : mg "HIGHEST_COST" = some (.int 100 tc)) {Tb : List (Addr × Str)}
    (FR : Fun K "is_from_1_to" "is_from_1_to" sFrom fR fdR) (bR : Binds K fdR ["number", "highest"] []) (gR : mg "is_from_1_to" = some (.ref fR)) : FnOk P w K mg base CX0 2 f fd ["self", "w", "h", "bring_cost", "take_cost"] (spBegin C Tb) := by
  have GR : FnOk P w K mg base CX0 1 fR fdR ["number", "highest"] spFrom := ok_from FR
  refine F.ok scBegin (fun vs H Q E h => ?_) (fun cdv A outer s H vs Q E hr h => ?_)
  · obtain ⟨a, st, m, w, h, b, t, rfl, _⟩ := h
    rfl
  · obtain ⟨a, st, m, w, h, b, t, rfl, hs, hT, q⟩ := h
    refine ⟨_, pss_cons (ps_if (pt_not (PW.pt (pw_and (pt_val (pe_call GR hr (by rfl) gR FR.kp bR .nil pass0 (pa_cons (pv 1) (pa_cons (pe_glob (v := .int 4) rfl gs ⟨_, rfl⟩) pa_nil)))) (pw_and1 (pt_val (pe_call GR hr (by rfl) gR FR.kp bR .nil pass0 (pa_cons (pv 2) (pa_cons (pe_glob (v := .int 4) rfl gs ⟨_, rfl⟩) pa_nil)))))))) (pss_one (ps_ret (pe_lst (pa_cons (pe_un un_neg pe_int) pa_nil)))) pss_nil)
      (pss_cons (ps_if (pt_not (PW.pt (pw_and (pt_val (pe_call GR hr (by rfl) gR FR.kp bR .nil pass0 (pa_cons (pv 3) (pa_cons (pe_glob (v := .int 100) rfl gc ⟨_, rfl⟩) pa_nil)))) (pw_and1 (pt_val (pe_call GR hr (by rfl) gR FR.kp bR .nil pass0 (pa_cons (pv 4) (pa_cons (pe_glob (v := .int 100) rfl gc ⟨_, rfl⟩) pa_nil)))))))) (pss_one (ps_ret (pe_lst (pa_cons (pe_un un_neg pe_int) pa_nil)))) pss_nil)
      (pss_cons (ps_fld (pv 0) pe_bl rfl) (pss_cons (ps_fld (pv 0) (pv 1) rfl) (pss_cons (ps_fld (pv 0) (pv 2) rfl) (pss_cons (ps_fld (pv 0) (pv 3) rfl) (pss_cons (ps_fld (pv 0) (pv 4) rfl)
      (pss_cons (ps_fld (pv 0) (pe_op op_rep (pe_lst (pa_cons pe_int pa_nil)) (pe_op op_mul (pv 1) (pv 2))) rfl) (pss_cons (ps_fld (pv 0) (pe_op op_rep (pe_lst (pa_cons pe_int pa_nil)) (pe_op op_mul (pv 1) (pv 2))) rfl)
      (pss_cons (ps_fld (pv 0) pe_int rfl) (pss_one (ps_ret (pe_lst (pa_cons pe_int pa_nil))))))))))))), ?_⟩
    obtain ⟨dx, ho⟩ := hs.ob
    have bad : Kp218.good w h b t = false → Told Tb H Q [-22] := fun hg => by
      have e : Kp218.step st (.begin_ w h b t) = (st, Kp218.say (-22)) := by rw [step_begin, if_neg (by rw [hg]; exact Bool.false_ne_true)]
      rw [e] at q
      exact q.told hs
    have ret22 : Told Tb H Q [-22] → ∀ p, H p = none → Q (.ref p) (upd H p (.lst [.int (-22)])) := fun hq => hq.lst (LamX.ExtN.refl H) hT rfl
    have hgd : Kp218.good w h b t = (decide (1 ≤ w) && decide (w ≤ 4) && decide (1 ≤ h) && decide (h ≤ 4) && decide (1 ≤ b) && decide (b ≤ 100) && decide (1 ≤ t) && decide (t ≤ 100)) := rfl
    have ng : ¬ (1 ≤ w ∧ w ≤ 4 ∧ 1 ≤ h ∧ h ≤ 4 ∧ 1 ≤ b ∧ b ≤ 100 ∧ 1 ≤ t ∧ t ≤ 100) → Kp218.good w h b t = false := fun hn => by
      rw [hgd, Bool.eq_false_iff]
      intro z
      simp only [Bool.and_eq_true, decide_eq_true_eq] at z
      exact hn (by omega)
    -- the sides
    refine ⟨_, rfl, w, 4, rfl, _, rfl, ?_⟩
    by_cases c1 : 1 ≤ w ∧ w ≤ 4
    rotate_left
    · rw [two_false c1]
      exact iteF (iteT ⟨22, rfl, Evl.sz_of (by simp), ret22 (bad (ng (by omega)))⟩)
    rw [two_true c1]
    refine iteT ⟨_, rfl, h, 4, rfl, _, rfl, ?_⟩
    by_cases c2 : 1 ≤ h ∧ h ≤ 4
    rotate_left
    · rw [two_false c2]
      exact iteT ⟨22, rfl, Evl.sz_of (by simp), ret22 (bad (ng (by omega)))⟩
    rw [two_true c2]
    -- the costs
    refine iteF ⟨_, rfl, b, 100, rfl, _, rfl, ?_⟩
    by_cases c3 : 1 ≤ b ∧ b ≤ 100
    rotate_left
    · rw [two_false c3]
      exact iteF (iteT ⟨22, rfl, Evl.sz_of (by simp), ret22 (bad (ng (by omega)))⟩)
    rw [two_true c3]
    refine iteT ⟨_, rfl, t, 100, rfl, _, rfl, ?_⟩
    by_cases c4 : 1 ≤ t ∧ t ≤ 100
    rotate_left
    · rw [two_false c4]
      exact iteT ⟨22, rfl, Evl.sz_of (by simp), ret22 (bad (ng (by omega)))⟩
    rw [two_true c4]
    have hg : Kp218.good w h b t = true := by
      rw [hgd]; simp only [Bool.and_eq_true, decide_eq_true_eq]; omega
    have e : Kp218.step st (.begin_ w h b t) = (some ⟨w, h, List.replicate (w * h) 0, List.replicate (w * h) 0, b, t, 0⟩, Kp218.say 0) := by rw [step_begin, if_pos hg]
    rw [e] at q
    have hwh : w * h ≤ 16 := Nat.mul_le_mul c1.2 c2.2
    have hc : ((w : Int) * (h : Int)) = ((w * h : Nat) : Int) := (Int.natCast_mul w h).symm
    have few : ∀ m : Fd, (fF m).length < 1000 := fun m => by show 8 < 1000; decide
    refine iteF ?_
    refine ⟨_, rfl, a, C, dx, _, rfl, ho, T.cl, T.a1, few m, ?_⟩
    rw [pF_begun]
    refine ⟨_, rfl, _, rfl, a, C, dx, _, rfl, upd_same, T.cl, T.a2, few _, ?_⟩
    rw [pF_w, upd_upd]
    refine ⟨_, rfl, _, rfl, a, C, dx, _, rfl, upd_same, T.cl, T.a3, few _, ?_⟩
    rw [pF_h, upd_upd]
    refine ⟨_, rfl, _, rfl, a, C, dx, _, rfl, upd_same, T.cl, T.a4, few _, ?_⟩
    rw [pF_b, upd_upd]
    refine ⟨_, rfl, _, rfl, a, C, dx, _, rfl, upd_same, T.cl, T.a5, few _, ?_⟩
    rw [pF_t, upd_upd]
    -- self.levels
    refine ⟨Evl.sz_of (by simp), fun z1 nz1 => ?_⟩
    have hz1a : a ≠ z1 := fun e => by rw [← e, upd_same] at nz1; cases nz1
    have nz1H : H z1 = none := by rw [upd_ne hz1a.symm] at nz1; exact nz1
    refine ⟨_, rfl, _, rfl, _, _, rfl, rfl, .inl ⟨by omega, by omega⟩, z1, _, _, rfl, rfl, upd_same, by rw [hc]; omega, by rw [hc]; omega, by rw [hc, Int.toNat_natCast, List.length_singleton]; exact Evl.sz_of (by omega), fun la nla => ?_⟩
    have hlz : la ≠ z1 := fun e => by rw [e, upd_same] at nla; cases nla
    have hla : a ≠ la := fun e => by rw [← e, upd_ne hz1a, upd_same] at nla; cases nla
    have nlaH : H la = none := by rw [upd_ne hlz, upd_ne hla.symm] at nla; exact nla
    refine ⟨_, rfl, a, C, dx, _, rfl, by rw [upd_ne hla, upd_ne hz1a]; exact upd_same, T.cl, T.a6, few _, ?_⟩
    rw [pF_la]
    -- self.wanted
    refine ⟨Evl.sz_of (by simp), fun z2 nz2 => ?_⟩
    have hz2a : a ≠ z2 := fun e => by rw [← e, upd_same] at nz2; cases nz2
    have hz2l : la ≠ z2 := fun e => by rw [← e, upd_ne hla.symm, upd_same] at nz2; cases nz2
    have hz2z : z1 ≠ z2 := fun e => by rw [← e, upd_ne hz1a.symm, upd_ne hlz.symm, upd_same] at nz2; cases nz2
    have nz2H : H z2 = none := by rw [upd_ne hz2a.symm, upd_ne hz2l.symm, upd_ne hz2z.symm, upd_ne hz2a.symm] at nz2; exact nz2
    refine ⟨_, rfl, _, rfl, _, _, rfl, rfl, .inl ⟨by omega, by omega⟩, z2, _, _, rfl, rfl, upd_same, by rw [hc]; omega, by rw [hc]; omega, by rw [hc, Int.toNat_natCast, List.length_singleton]; exact Evl.sz_of (by omega), fun wa nwa => ?_⟩
    have hwz : wa ≠ z2 := fun e => by rw [e, upd_same] at nwa; cases nwa
    have hwa : a ≠ wa := fun e => by rw [← e, upd_ne hz2a, upd_same] at nwa; cases nwa
    have hwl : la ≠ wa := fun e => by rw [← e, upd_ne hz2l, upd_ne hla.symm, upd_same] at nwa; cases nwa
    have hwz1 : wa ≠ z1 := fun e => by rw [e, upd_ne hz2z, upd_ne hz1a.symm, upd_ne hlz.symm, upd_same] at nwa; cases nwa
    have nwaH : H wa = none := by rw [upd_ne hwz, upd_ne hwa.symm, upd_ne hwl.symm, upd_ne hwz1, upd_ne hwa.symm] at nwa; exact nwa
    refine ⟨_, rfl, a, C, dx, _, rfl, by rw [upd_ne hwa, upd_ne hz2a]; exact upd_same, T.cl, T.a7, few _, ?_⟩
    rw [pF_wa]
    -- self.spent = 0
    refine ⟨_, rfl, a, C, dx, _, rfl, upd_same, T.cl, T.a8, few _, ?_⟩
    rw [pF_sp, upd_upd]
    -- return [0]
    refine ⟨Evl.sz_of (by simp), fun p np => ?_⟩
    have hpa : a ≠ p := fun e => by rw [← e, upd_same] at np; cases np
    have hpw : wa ≠ p := fun e => by rw [← e, upd_ne hwa.symm, upd_same] at np; cases np
    have hpz2 : z2 ≠ p := fun e => by rw [← e, upd_ne hz2a.symm, upd_ne hwz.symm, upd_same] at np; cases np
    have hpl : la ≠ p := fun e => by rw [← e, upd_ne hla.symm, upd_ne hwl, upd_ne hz2l, upd_ne hla.symm, upd_same] at np; cases np
    have hpz1 : z1 ≠ p := fun e => by rw [← e, upd_ne hz1a.symm, upd_ne hwz1.symm, upd_ne hz2z, upd_ne hz1a.symm, upd_ne hlz.symm, upd_same] at np; cases np
    have npH : H p = none := by rw [upd_ne hpa.symm, upd_ne hpw.symm, upd_ne hpz2.symm, upd_ne hpa.symm, upd_ne hpl.symm, upd_ne hpz1.symm, upd_ne hpa.symm] at np; exact np
    have hrep : (List.replicate ((w : Int) * (h : Int)).toNat [V.int 0]).flatten = vN (List.replicate (w * h) 0) := by
      rw [hc, Int.toNat_natCast, flat_rep]; unfold vN; rw [List.map_replicate]; rfl
    rw [hrep] at nz2 nwa np ⊢
    have newOf : ∀ {x : Addr}, H x = none → New H x := fun {x} hx b o h1 _ z => by rw [z, hx] at h1; cases h1
    refine q _ p ⟨true, w, h, b, t, la, wa, 0⟩ ⟨⟨dx, ?_⟩, EM.V.begin hg, rfl, rfl, rfl, rfl, rfl, rfl, ?_, ?_, hwl⟩ ?_ ?_ (newOf npH) (.inr (newOf nlaH)) (.inr (newOf nwaH)) upd_same
    · rw [upd_ne hpa]; exact upd_same
    · rw [upd_ne hpl, upd_ne hla.symm, upd_ne hwl, upd_ne hz2l, upd_ne hla.symm]; exact upd_same
    · rw [upd_ne hpw, upd_ne hwa.symm]; exact upd_same
    · intro b' o h1 _ h3 _ _
      rw [upd_ne (ne_of_none h1 npH), upd_ne h3, upd_ne (ne_of_none h1 nwaH), upd_ne (ne_of_none h1 nz2H), upd_ne h3, upd_ne (ne_of_none h1 nlaH), upd_ne (ne_of_none h1 nz1H), upd_ne h3]
      exact h1
    · refine Tabs.upd (Tabs.updI ?_ (Tabs.upd (Tabs.upd (Tabs.updI ?_ (Tabs.upd (Tabs.upd (Tabs.updI ?_ hT) (.inl nz1)) (.inl nla))) (.inl nz2)) (.inl nwa))) (.inl np)
      · rw [upd_ne hwa, upd_ne hz2a, upd_same]; rfl
      · rw [upd_ne hla, upd_ne hz1a, upd_same]; rfl
      · rw [ho]; rfl
end
end Earth
set_option linter.all false
set_option maxRecDepth 100000
set_option maxHeartbeats 2000000
namespace Earth
open PySem PySem.Spec PyProof.Rows L2
abbrev sTo : Stmt := top 23
abbrev sAns : Stmt := top 24
theorem scInit : FnScope ["self"] ["self"] (defScope sInit) := ⟨rfl, rfl, rfl, by decide +kernel, rfl, by decide +kernel, by decide +kernel⟩
theorem scAns : FnScope ["calls", "field", "told", "at", "behind", "answer"] ["calls"] (defScope sAns) := ⟨rfl, rfl, rfl, by decide +kernel, rfl, by decide +kernel, by decide +kernel⟩
theorem cut_mid (xs : List V) (i j : Nat) (hij : i ≤ j) (hj : j ≤ xs.length) : cutV xs (some (i : Int)) (some (j : Int)) = (xs.drop i).take (j - i) := by
  unfold cutV
  rw [HT.sIx_nat, HT.sIx_nat, Nat.min_eq_left hj, Nat.min_eq_left (by omega)]
theorem put_new {f : Str} {v : V} : ∀ {fs : List (Str × V)}, fs.all (fun y => !(y.1 == f)) = true → putF f v fs = fs ++ [(f, v)]
  | [], _ => rfl
  | (g, x) :: r, h => by
    simp only [List.all_cons, Bool.and_eq_true, Bool.not_eq_true'] at h
    rw [put_past (fun z => by rw [z, beq_self_eq_true] at h; cases h.1), put_new h.2]; rfl
section
variable {P : Program} {w : World} {K : PySem.W.Frag} {mg : Str → Option Value} {base : Heap} {C : Addr}
def spInit (C : Addr) : Sp := fun vs H Q _ => ∃ (x dx : Addr), vs = [.ref x] ∧ H x = some (.ins C dx []) ∧
  ∀ (H' : Hp) (m : Fd), H' x = some (.ins C dx (fF m)) → m.begun = false → H m.la = none → H m.wa = none → H' m.la = some (.lst []) → H' m.wa = some (.lst []) → (∀ b o, H b = some o → b ≠ x → H' b = some o) → Q .non H'
theorem ok_init {f : Addr} {fd : FuncData} {k : Nat} (F : Fun K "__init__" "Field.__init__" sInit f fd) (T : Txt K mg C) : FnOk P w K mg base CX0 (k + 1) f fd ["self"] (spInit C) := by
  refine F.ok scInit (fun vs H Q E h => ?_) (fun cdv A outer s H vs Q E hr h => ?_)
  · obtain ⟨x, dx, rfl, _⟩ := h
    rfl
  · obtain ⟨x, dx, rfl, hx, q⟩ := h
    refine ⟨_, pss_cons (ps_fld (pv 0) pe_bl rfl) (pss_cons (ps_fld (pv 0) pe_int rfl) (pss_cons (ps_fld (pv 0) pe_int rfl) (pss_cons (ps_fld (pv 0) pe_int rfl) (pss_cons (ps_fld (pv 0) pe_int rfl) (pss_cons (ps_fld (pv 0) (pe_lst pa_nil) rfl) (pss_cons (ps_fld (pv 0) (pe_lst pa_nil) rfl) (pss_one (ps_fld (pv 0) pe_int rfl)))))))), ?_⟩
    refine ⟨_, rfl, x, C, dx, _, rfl, hx, T.cl, T.a1, by decide, ?_⟩
    rw [put_new (fs := []) rfl]
    refine ⟨_, rfl, x, C, dx, _, rfl, upd_same, T.cl, T.a2, by show 1 < 1000; decide, ?_⟩
    rw [put_new (by rfl), upd_upd]
    refine ⟨_, rfl, x, C, dx, _, rfl, upd_same, T.cl, T.a3, by show 2 < 1000; decide, ?_⟩
    rw [put_new (by rfl), upd_upd]
    refine ⟨_, rfl, x, C, dx, _, rfl, upd_same, T.cl, T.a4, by show 3 < 1000; decide, ?_⟩
    rw [put_new (by rfl), upd_upd]
    refine ⟨_, rfl, x, C, dx, _, rfl, upd_same, T.cl, T.a5, by show 4 < 1000; decide, ?_⟩
    rw [put_new (by rfl), upd_upd]
    refine ⟨Nat.zero_le _, fun l1 n1 => ?_⟩
    have h1 : x ≠ l1 := fun e => by rw [← e, upd_same] at n1; cases n1
    have n1H : H l1 = none := by rw [upd_ne h1.symm] at n1; exact n1
    refine ⟨_, rfl, x, C, dx, _, rfl, by rw [upd_ne h1]; exact upd_same, T.cl, T.a6, by show 5 < 1000; decide, ?_⟩
    rw [put_new (by rfl)]
    refine ⟨Nat.zero_le _, fun l2 n2 => ?_⟩
    have h2 : x ≠ l2 := fun e => by rw [← e, upd_same] at n2; cases n2
    have h3 : l1 ≠ l2 := fun e => by rw [← e, upd_ne h1.symm, upd_same] at n2; cases n2
    have n2H : H l2 = none := by rw [upd_ne h2.symm, upd_ne h3.symm, upd_ne h2.symm] at n2; exact n2
    refine ⟨_, rfl, x, C, dx, _, rfl, by rw [upd_ne h2]; exact upd_same, T.cl, T.a7, by show 6 < 1000; decide, ?_⟩
    rw [put_new (by rfl)]
    refine ⟨_, rfl, x, C, dx, _, rfl, upd_same, T.cl, T.a8, by show 7 < 1000; decide, ?_⟩
    rw [put_new (by rfl), upd_upd]
    refine q _ ⟨false, 0, 0, 0, 0, l1, l2, 0⟩ upd_same rfl n1H n2H ?_ ?_ fun b o e hb => ?_
    · rw [upd_ne h1.symm, upd_ne h3, upd_ne h1.symm]; exact upd_same
    · rw [upd_ne h2.symm]; exact upd_same
    rw [upd_ne hb, upd_ne (ne_of_none e n2H), upd_ne hb, upd_ne (ne_of_none e n1H), upd_ne hb]
    exact e
/-! answers -/
/-- what answer_to is to do: the call k with its numbers, as the document's machine takes it -/
def spTo (C : Addr) (T : List (Addr × Str)) : Sp := fun vs H Q _ => ∃ (a ga : Addr) (st : Kp218.State) (m : Fd) (k : Nat) (args : List Int), vs = [.ref a, .int (k : Nat), .ref ga] ∧ SAt C H a st m ∧ EM.Vs st ∧ LamX.Tabs T H ∧ H ga = some (.lst (args.map V.int)) ∧ k < 16 ∧ args.length = EM.argc.getD k 0 ∧ (∀ x, x ∈ args → 0 ≤ x) ∧
  Acts C T H a m Q (EM.act st [(k : Int) :: args]).1 (EM.act st [(k : Int) :: args]).2
def spAns (C : Addr) (T : List (Addr × Str)) (K : PySem.W.Frag) : Sp := fun vs H Q _ => ∃ (b : Addr) (ns : List Int), vs = [.ref b] ∧ SqL K H b (ns.map V.int) ∧ LamX.Tabs T H ∧ (∀ x, x ∈ ns → 0 ≤ x) ∧ ns.length ≤ 2000 ∧ PyKp218.answers_asked ns = true ∧
  ∀ (H' : Hp) (p : Addr), H' p = some (.lst ((PyKp218.answers ns).map V.int)) → Q (.ref p) H'
theorem act_V {st : Kp218.State} (h : EM.Vs st) {k : Nat} {args : List Int} (hk : k < 16) (hl : args.length = EM.argc.getD k 0) : EM.Vs (EM.act st [(k : Int) :: args]).1 := by
  unfold EM.act Kp218Neutral.step
  split
  · exact h
  · exact EM.step_V h _
theorem SAt.upd {C : Addr} {H : Hp} {a t : Addr} {st : Kp218.State} {m : Fd} {o : HO} (h : SAt C H a st m) (h1 : t ≠ a) (h2 : t ≠ m.la) (h3 : t ≠ m.wa) : SAt C (L2.upd H t o) a st m := by
  cases st with
  | none =>
    obtain ⟨⟨dx, h4⟩, h5⟩ := h
    exact ⟨⟨dx, by rw [upd_ne h1.symm]; exact h4⟩, h5⟩
  | some f =>
    have h : FAt C H a f m := h
    obtain ⟨dx, h4⟩ := h.ob
    exact ⟨⟨dx, by rw [upd_ne h1.symm]; exact h4⟩, h.v, h.be, h.ew, h.eh, h.eb, h.et, h.es, by rw [upd_ne h2.symm]; exact h.lev, by rw [upd_ne h3.symm]; exact h.wan, h.ne⟩
/-- the list that was handed in stands -/
def Bk (K : PySem.W.Frag) (H : Hp) (b : Addr) (xs : List V) (x t : Addr) (m : Fd) : Prop := (∀ H', SqL K H' b xs) ∨ (Rd H b (.lst xs) ∧ b ≠ x ∧ b ≠ t ∧ b ≠ m.la ∧ b ≠ m.wa)
theorem Bk.sq {K : PySem.W.Frag} {H : Hp} {b : Addr} {xs : List V} {x t : Addr} {m : Fd} (h : Bk K H b xs x t m) : SqL K H b xs := by
  rcases h with h | h
  · exact h H
  · exact .inl h.1
theorem ok_ans {f fI fT : Addr} {fd fdI fdT : FuncData} (F : Fun K "answers" "answers" sAns f fd) (T : Txt K mg C) (ml : mg "len" = none) {aT : Addr} (gA : mg "ARGUMENTS" = some (.ref aT)) (hA : ∀ H, SqT K H aT (EM.argc.map fun (n : Nat) => V.int (n : Int))) {Tb : List (Addr × Str)}
    (M : Mk K C fI) (FI : Fun K "__init__" "Field.__init__" sInit fI fdI) (bI : Binds K fdI ["self"] []) (gC : mg "Field" = some (.ref C)) (kT : PySem.W.keepIn K (.ref fT) = true) (bT : Binds K fdT ["field", "call", "given"] []) (gT : mg "answer_to" = some (.ref fT)) {kk : Nat} (GT : FnOk P w K mg base CX0 (kk + 2) fT fdT ["field", "call", "given"] (spTo C Tb)) :
    FnOk P w K mg base CX0 (kk + 3) f fd ["calls"] (spAns C Tb K) := by
  have GI : FnOk P w K mg base CX0 (kk + 1) fI fdI ["self"] (spInit C) := ok_init FI T
  refine F.ok scAns (fun vs H Q E h => ?_) (fun cdv A outer s H vs Q E hr h => ?_)
  · obtain ⟨b, ns, rfl, _⟩ := h
    rfl
  · obtain ⟨b, ns, rfl, hb, hT, hnn, hlen, hask, q⟩ := h
    refine ⟨_, pss_cons (ps_set (i := 1) scAns.nd rfl (.inl rfl) (pe_make0 M GI hr rfl gC bI .nil pass0))
      (pss_cons (ps_set (i := 2) scAns.nd rfl (.inl rfl) (pe_lst pa_nil))
      (pss_cons (ps_set (i := 3) scAns.nd rfl (.inl rfl) pe_int)
      (pss_cons (ps_while PassesOwn.never (pt_cmpR op_lt (pv 3) (pe_callB call_len_seq (by rfl) ml PySem.boot_len (pa_cons (pv 0) pa_nil)) (nomark _))
        (pss_cons (ps_set (i := 4) scAns.nd rfl (.inl rfl) (pe_op op_add (pe_op op_add (pv 3) pe_int) (pe_ix ix_tup (pe_glob (v := .ref aT) rfl gA rfl) (pe_ix ix_list (pv 0) (pv 3) (fun _ _ => rfl)) (fun _ _ => rfl))))
        (pss_cons (ps_set (i := 5) scAns.nd rfl (.inl rfl) (pe_call GT hr (by rfl) gT kT bT .nil pass0 (pa_cons (pv 1) (pa_cons (pe_ix ix_list (pv 0) (pv 3) (fun _ _ => rfl)) (pa_cons (pe_slice sl_list (pv 0) (po_some (pe_op op_add (pv 3) pe_int)) (po_some (pv 4))) pa_nil)))))
        (pss_cons (ps_expr (pe_bm PySem.F.plainAttrs_list PySem.F.slot_list_append PySem.F.type_list_append mt_append (pv 2) (pa_cons (pe_callB call_len_seq (by rfl) ml PySem.boot_len (pa_cons (pv 5) pa_nil)) pa_nil)))
        (pss_cons (ps_expr (pe_bm PySem.F.plainAttrs_list PySem.F.slot_list_extend PySem.F.type_list_extend mt_extend (pv 2) (pa_cons (pv 5) pa_nil)))
        (pss_one (ps_set (i := 3) scAns.nd rfl (.inl rfl) (pv 4))))))))
      (pss_one (ps_ret (pv 2)))))), ?_⟩
    obtain ⟨cs0, hcs0, hans, h80, hbig⟩ := EM.answers_rest hask
    -- field = Field()
    intro x dx nx nd ne
    refine ⟨x, dx, rfl, upd_same, fun H1 m0 hm0 hbe0 nla0 nwa0 hla0 hwa0 kp => ⟨rfl, ?_⟩⟩
    have s1 : Same H H1 := Same.made nx nd kp
    have back : ∀ {y : Addr}, (upd (upd H dx (.own x)) x (.ins C dx [])) y = none → H y = none := fun {y} hy => by
      have h1 : y ≠ x := fun e => by rw [e, upd_same] at hy; cases hy
      rw [upd_ne h1] at hy
      have h2 : y ≠ dx := fun e => by rw [e, upd_same] at hy; cases hy
      rw [upd_ne h2] at hy; exact hy
    have nlaH : H m0.la = none := by
      first
        | exact back nla0
        | (refine Evl.fresh_back ?_ nla0; intro bb oo ee; first | (rw [upd_ne (ne_of_none ee nx), upd_ne (ne_of_none ee nd)]; exact ee) | (rw [upd_ne (ne_of_none ee nd), upd_ne (ne_of_none ee nx)]; exact ee))
    have nwaH : H m0.wa = none := by
      first
        | exact back nwa0
        | (refine Evl.fresh_back ?_ nwa0; intro bb oo ee; first | (rw [upd_ne (ne_of_none ee nx), upd_ne (ne_of_none ee nd)]; exact ee) | (rw [upd_ne (ne_of_none ee nd), upd_ne (ne_of_none ee nx)]; exact ee))
    -- told = []
    refine ⟨Nat.zero_le _, fun t nt => ?_⟩
    have htx : t ≠ x := fun e => by rw [e, hm0] at nt; cases nt
    have htl : t ≠ m0.la := fun e => by rw [e, hla0] at nt; cases nt
    have htw : t ≠ m0.wa := fun e => by rw [e, hwa0] at nt; cases nt
    have hbk : Bk K (upd H1 t (.lst [])) b (ns.map V.int) x t m0 := by
      rcases hb with hR | hK
      · right
        have hbs : ∃ o, H b = some o := by
          rcases hR with h | ⟨o, h⟩
          · exact ⟨_, h⟩
          · exact ⟨_, h⟩
        obtain ⟨o, hbo⟩ := hbs
        have hbt : b ≠ t := ne_of_none (s1 _ _ hbo) nt
        refine ⟨?_, ne_of_none hbo nx, hbt, ne_of_none hbo nlaH, ne_of_none hbo nwaH⟩
        rcases hR with h | ⟨o', h⟩
        · exact .inl (by rw [upd_ne hbt]; exact s1 _ _ h)
        · exact .inr ⟨o', by rw [upd_ne hbt]; exact s1 _ _ h⟩
      · exact .inl fun H' => .inr hK
    have hT1 : LamX.Tabs Tb (upd H1 t (.lst [])) := Tabs.upd (LamX.Tabs.ext hT s1) (.inl nt)
    -- the loop
    refine ⟨fun mm σ H' => ∃ (i fuel : Nat) (st : Kp218.State) (m : Fd) (ts : List Int) (cs : List (List (List Int))) (v4 v5 : Option V), σ = [some (.ref b), some (.ref x), some (.ref t), some (.int (i : Nat)), v4, v5] ∧ Bk K H' b (ns.map V.int) x t m ∧ SAt C H' x st m ∧ EM.Vs st ∧ LamX.Tabs Tb H' ∧
      H' t = some (.lst (ts.map V.int)) ∧ t ≠ x ∧ t ≠ m.la ∧ t ≠ m.wa ∧ i ≤ ns.length ∧ (ns.drop i).length ≤ fuel ∧ PyFlat.calls PyKp218.shape fuel (ns.drop i) = some cs ∧ ts ++ EM.rest st cs = PyKp218.answers ns ∧ mm = ns.length - i, ?_, ?_⟩
    · exact ⟨_, 0, ns.length, none, m0, [], cs0, none, none, rfl, hbk, ⟨⟨dx, by rw [upd_ne htx.symm]; exact hm0⟩, hbe0⟩, trivial, hT1, upd_same, htx, htl, htw, Nat.zero_le _, by simp, by rw [List.drop_zero]; exact hcs0, by rw [hans]; rfl, rfl⟩
    · rintro mm σ H' ⟨i, fuel, st, m, ts, cs, v4, v5, rfl, hB, hs, hV, hT', ht, htx, htl, htw, hi, hfu, hcs, heq, rfl⟩
      refine ⟨_, rfl, _, rfl, b, _, rfl, .inl hB.sq, _, _, rfl, rfl, _, rfl, ite2 (fun c => ?_) (fun c => ?_)⟩
      · have c' := of_decide_eq_true c
        rw [List.length_map] at c'
        have hil : i < ns.length := by omega
        have hdr : ns.drop i = ns[i] :: ns.drop (i + 1) := List.drop_eq_getElem_cons hil
        obtain ⟨fuel', rfl⟩ : ∃ n, fuel = n + 1 := ⟨fuel - 1, by rw [List.length_drop] at hfu; omega⟩
        rw [hdr] at hcs
        obtain ⟨k, hk, hpk, har, cs', rfl, hcs'⟩ := EM.calls_cons hcs
        generalize hn : EM.argc.getD k 0 = n at har hcs' heq
        have gi : (ns.map V.int)[i]? = some (.int (k : Nat)) := by rw [List.getElem?_map, List.getElem?_eq_getElem hil, hpk]; rfl
        have ga : (EM.argc.map fun (n : Nat) => V.int (n : Int))[k]? = some (.int (n : Nat)) := by
          rw [← hn]
          have : k < EM.argc.length := hk
          simp [List.getD, this]
        have hin : i + 1 + n ≤ ns.length := by rw [List.length_drop] at har; omega
        -- behind
        refine ⟨_, fun _ _ h => h, ?_⟩
        refine ⟨_, rfl, _, _, rfl, rfl, _, rfl, _, rfl, b, _, _, _, rfl, rfl, hB.sq, atI_nat gi, aT, _, _, _, rfl, rfl, hA _, atI_nat ga, _, _, rfl, rfl, ?_⟩
        -- answer
        refine ⟨_, rfl, _, rfl, _, rfl, b, _, _, _, rfl, rfl, hB.sq, atI_nat gi, _, rfl, _, rfl, _, _, rfl, rfl, _, rfl, _, rfl, _, rfl, b, _, rfl, hB.sq, fun g ng => ?_⟩
        have hcut : cutV (ns.map V.int) (some ((i : Int) + 1)) (some ((i : Int) + 1 + (n : Nat))) = ((ns.drop (i + 1)).take n).map V.int := by
          have e1 : ((i : Int) + 1) = ((i + 1 : Nat) : Int) := by omega
          have e2 : ((i : Int) + 1 + (n : Nat)) = ((i + 1 + n : Nat) : Int) := by omega
          rw [e2, e1, cut_mid _ _ _ (by omega) (by rw [List.length_map]; exact hin), ← List.map_drop, ← List.map_take, show i + 1 + n - (i + 1) = n by omega]
        have hgt : t ≠ g := ne_of_none ht ng
        have hgx : x ≠ g := by obtain ⟨dx2, h2⟩ := hs.ob; exact ne_of_none h2 ng
        rw [hcut]
        generalize hH2 : upd H' g (.lst (((ns.drop (i + 1)).take n).map V.int)) = H2
        have s2 : Same H' H2 := fun bb o e => by rw [← hH2, upd_ne (ne_of_none e ng)]; exact e
        have hT2 : LamX.Tabs Tb H2 := LamX.Tabs.ext hT' s2
        have ht2 := s2 _ _ ht
        refine ⟨x, g, st, m, k, (ns.drop (i + 1)).take n, rfl, hs.ext (LamX.ExtN.of s2), hV, hT2, by rw [← hH2]; exact upd_same, hk, by rw [hn, List.length_take, Nat.min_eq_left har], fun y hy => hnn y (List.mem_of_mem_drop (List.mem_of_mem_take hy)), fun H3 p m' hs3 fr hT3 np hla hwa hp => ?_⟩
        have hcall : [((k : Int)) :: (ns.drop (i + 1)).take n] = [ns[i] :: (ns.drop (i + 1)).take n] := by rw [hpk]
        rw [EM.rest_cons, ← hcall] at heq
        have hV' : EM.Vs (EM.act st [(k : Int) :: (ns.drop (i + 1)).take n]).1 := act_V hV hk (by rw [hn, List.length_take, Nat.min_eq_left har])
        generalize EM.act st [(k : Int) :: (ns.drop (i + 1)).take n] = y at hs3 hp heq hV'
        have ht3 : H3 t = some (.lst (ts.map V.int)) := fr t _ ht2 (fun ps z => by cases z) htx htl htw
        have hpt : t ≠ p := np t _ ht2 (fun ps z => by cases z)
        have htl' : t ≠ m'.la := by
          rcases hla with e | e
          · rw [e]; exact htl
          · exact e t _ ht2 (fun ps z => by cases z)
        have htw' : t ≠ m'.wa := by
          rcases hwa with e | e
          · rw [e]; exact htw
          · exact e t _ ht2 (fun ps z => by cases z)
        have hlens : ts.length + (1 + y.2.length) ≤ 10000000 := by
          rw [← heq] at hbig
          rw [List.length_append, List.length_cons, List.length_append] at hbig
          omega
        -- told.append(len(answer))
        refine ⟨_, rfl, .inl ⟨rfl, _, SqL.of ht3⟩, _, rfl, p, _, rfl, .inl (SqL.of hp), t, _, _, rfl, rfl, ht3, by rw [List.length_map]; show _ < 2 ^ 24; omega, ?_⟩
        -- told.extend(answer)
        refine ⟨_, rfl, .inl ⟨rfl, _, SqL.of upd_same⟩, _, rfl, t, p, _, _, rfl, rfl, upd_same, by rw [upd_ne hpt.symm]; exact hp, by rw [List.length_append, List.length_map, List.length_map, List.length_singleton]; show _ ≤ 2 ^ 24; omega, ?_⟩
        rw [upd_upd]
        -- at = behind
        refine ⟨_, rfl, ns.length - (i + 1 + n), by omega, i + 1 + n, fuel', y.1, m', ts ++ ((y.2.length : Int) :: y.2), cs', _, _, rfl, ?_, hs3.upd htx htl' htw', hV', Tabs.upd hT3 (.inr ⟨_, ht3⟩), ?_, htx, htl', htw', hin, ?_, ?_, ?_, rfl⟩
        · rcases hB with hB | ⟨hR, hbx, hbt, hbl, hbw⟩
          · exact .inl hB
          · right
            have hob : ∃ o, H' b = some o ∧ (∀ ps, o ≠ .tbl ps) := by
              rcases hR with h | ⟨o, h⟩
              · exact ⟨_, h, fun ps z => by cases z⟩
              · exact ⟨_, h, fun ps z => by cases z⟩
            obtain ⟨o, hbo, hnt⟩ := hob
            refine ⟨?_, hbx, hbt, ?_, ?_⟩
            · rcases hR with h | ⟨o', h⟩
              · exact .inl (by rw [upd_ne hbt]; exact fr b _ (s2 _ _ h) (fun ps z => by cases z) hbx hbl hbw)
              · exact .inr ⟨o', by rw [upd_ne hbt]; exact fr b _ (s2 _ _ h) (fun ps z => by cases z) hbx hbl hbw⟩
            · rcases hla with e | e
              · rw [e]; exact hbl
              · exact e b o (s2 _ _ hbo) hnt
            · rcases hwa with e | e
              · rw [e]; exact hbw
              · exact e b o (s2 _ _ hbo) hnt
        · rw [upd_same]
          congr 2
          rw [List.map_append, List.append_assoc, List.length_map]; rfl
        · rw [List.length_drop] at hfu ⊢; omega
        · rw [← List.drop_drop]
          exact hcs'
        · rw [← heq, List.append_assoc]; rfl
      · have c' : ¬ ((i : Int) < ((ns.map V.int).length : Nat)) := fun z => c (decide_eq_true z)
        rw [List.length_map] at c'
        have hie : ns.drop i = [] := List.drop_of_length_le (by omega)
        rw [hie, EM.calls_nil] at hcs
        cases hcs
        rw [EM.rest_nil, List.append_nil] at heq
        refine ⟨_, rfl, q H' t ?_⟩
        rw [← heq]; exact ht
end
end Earth
set_option linter.all false
set_option maxRecDepth 100000
set_option maxHeartbeats 2000000
namespace Earth
open PySem PySem.Spec PyProof.Rows L2
abbrev sSpend : Stmt := inClass sCls 20
abbrev sIsD : Stmt := inClass sCls 21
abbrev sIsM : Stmt := inClass sCls 22
abbrev sIsB : Stmt := inClass sCls 23
theorem scSpend : FnScope ["self", "cost"] ["self", "cost"] (defScope sSpend) := ⟨rfl, rfl, rfl, by decide +kernel, rfl, by decide +kernel, by decide +kernel⟩
theorem scIsD : FnScope ["self"] ["self"] (defScope sIsD) := ⟨rfl, rfl, rfl, by decide +kernel, rfl, by decide +kernel, by decide +kernel⟩
theorem scIsM : FnScope ["self", "s", "d", "left", "there", "behind"] ["self", "s", "d", "left"] (defScope sIsM) := ⟨rfl, rfl, rfl, by decide +kernel, rfl, by decide +kernel, by decide +kernel⟩
theorem scIsB : FnScope ["self", "left", "behind"] ["self", "left"] (defScope sIsB) := ⟨rfl, rfl, rfl, by decide +kernel, rfl, by decide +kernel, by decide +kernel⟩
/-! two lists of numbers, alike or not -/
def dN (l : List Nat) : List PyData := l.map fun (n : Nat) => PyData.int (n : Int)
theorem eqv_nats : ∀ L G : List Nat, PyData.eqvAll (dN L) (dN G) = decide (L = G)
  | [], [] => by unfold dN; simp [PyData.eqvAll]
  | [], y :: G => by unfold dN; simp [PyData.eqvAll]
  | x :: L, [] => by unfold dN; simp [PyData.eqvAll]
  | x :: L, y :: G => by
    have h := eqv_nats L G
    show (PyData.eqv (.int x) (.int y) && PyData.eqvAll (dN L) (dN G)) = _
    rw [h]
    have : PyData.eqv (.int (x : Int)) (.int (y : Int)) = decide (x = y) := by
      rw [PyData.eqv]
      by_cases c : x = y
      · subst c; simp
      · have : ¬ (x : Int) = y := by omega
        simp [c, this]
    rw [this]
    by_cases c : x = y <;> by_cases c2 : L = G <;> simp [c, c2]
theorem lay_nats : ∀ L : List Nat, PyData.canLayAll0 (dN L) = true
  | [] => rfl
  | x :: L => by
    show (PyData.canLay0 (.int x) && PyData.canLayAll0 (dN L)) = true
    rw [lay_nats L]; rfl
theorem depth_nats : ∀ L : List Nat, PyData.depthAll (dN L) ≤ 1
  | [] => by unfold dN; simp [PyData.depthAll]
  | x :: L => by
    have h := depth_nats L
    show PyData.depthAll (.int x :: dN L) ≤ 1
    simp only [PyData.depthAll, PyData.depth]
    omega
theorem shaped_nats (L : List Nat) : SeqAt.shaped (.list (dN L)) = true := by
  unfold SeqAt.shaped
  have h := depth_nats L
  rw [Bool.and_eq_true]
  refine ⟨?_, decide_eq_true ?_⟩
  · rw [PyData.canLay0]; exact lay_nats L
  · rw [PyData.depth]; omega
theorem dp_nats {K : PySem.W.Frag} {H : Hp} : ∀ L : List Nat, DpAll K H (vN L) (dN L)
  | [] => .nil
  | x :: L => .cons (.int _) (dp_nats L)
theorem eq_less (n b l : Nat) : decide (V.int (n : Int) = V.int ((l : Int) - (b : Int))) = (n + b == l) := by
  by_cases c : n + b = l
  · rw [beq_iff_eq.2 c]
    exact decide_eq_true (congrArg V.int (by omega))
  · rw [beq_eq_false_iff_ne.2 c]
    exact decide_eq_false (fun z => c (by injection z with e; omega))
section
variable {P : Program} {w : World} {K : PySem.W.Frag} {mg : Str → Option Value} {base : Heap} {C : Addr}
/-! is_done -/
def spIsD (C : Addr) : Sp := fun vs H Q _ => ∃ (a : Addr) (f : Kp218.Field) (m : Fd), vs = [.ref a] ∧ FAt C H a f m ∧ Q (.bl (Kp218.done f)) H
theorem ok_isD {f : Addr} {fd : FuncData} {k : Nat} (F : Fun K "is_done" "Field.is_done" sIsD f fd) (T : Txt K mg C) : FnOk P w K mg base CX0 (k + 1) f fd ["self"] (spIsD C) := by
  refine F.ok scIsD (fun vs H Q E h => ?_) (fun cdv A outer s H vs Q E hr h => ?_)
  · obtain ⟨a, f, m, rfl, _⟩ := h
    rfl
  · obtain ⟨a, f, m, rfl, hf, q⟩ := h
    refine ⟨_, pss_one (ps_ret (pe_cmpR (op_eqD hr.units) (pe_fld (pv 0) rfl) (pe_fld (pv 0) rfl) (nomark _))), ?_⟩
    obtain ⟨dx, ho⟩ := hf.ob
    refine ⟨_, rfl, a, C, dx, _, _, rfl, ho, T.cl, T.a6, fF_la m, _, rfl, a, C, dx, _, _, rfl, ho, T.cl, T.a7, fF_wa m, .list (dN f.ground), .list (dN f.want), .lst (SqL.of hf.lev) (dp_nats _), .lst (SqL.of hf.wan) (dp_nats _), shaped_nats _, shaped_nats _, ?_⟩
    have e : PyData.eqv (.list (dN f.ground)) (.list (dN f.want)) = Kp218.done f := by
      rw [PyData.eqv, eqv_nats]
      have := EM.done_iff hf.v
      by_cases c : f.ground = f.want
      · rw [decide_eq_true c, this.2 c]
      · rw [decide_eq_false c]
        cases e2 : Kp218.done f with
        | false => rfl
        | true => exact absurd (this.1 e2) c
    show Q (.bl (PyData.eqv (.list (dN f.ground)) (.list (dN f.want)))) H
    rw [e]; exact q
/-! spend -/
def spSpend (C : Addr) : Sp := fun vs H Q _ => ∃ (a dx : Addr) (m : Fd) (c : Int), vs = [.ref a, .int c] ∧ H a = some (.ins C dx (fF m)) ∧
  ∀ p, H p = none → Q (.ref p) (upd (upd H a (.ins C dx (fF { m with sp := m.sp + c }))) p (.lst [.int (m.sp + c)]))
theorem ok_spend {f : Addr} {fd : FuncData} {k : Nat} (F : Fun K "spend" "Field.spend" sSpend f fd) (T : Txt K mg C) : FnOk P w K mg base CX0 (k + 1) f fd ["self", "cost"] (spSpend C) := by
  refine F.ok scSpend (fun vs H Q E h => ?_) (fun cdv A outer s H vs Q E hr h => ?_)
  · obtain ⟨a, dx, m, c, rfl, _⟩ := h
    rfl
  · obtain ⟨a, dx, m, c, rfl, ho, q⟩ := h
    refine ⟨_, pss_cons (ps_fldaug (pv 0) (pv 1) in_add) (pss_one (ps_ret (pe_lst (pa_cons (pe_fld (pv 0) rfl) pa_nil)))), ?_⟩
    refine ⟨_, rfl, a, C, dx, _, _, rfl, ho, T.cl, T.a8, fF_sp m, _, rfl, _, _, rfl, rfl, dx, _, ho, by show 8 < 1000; decide, ?_⟩
    rw [pF_sp]
    refine ⟨_, rfl, a, C, dx, _, _, rfl, upd_same, T.cl, T.a8, fF_sp _, Evl.sz_of (by simp), fun p np => ?_⟩
    have hpa : p ≠ a := fun e => by rw [e, upd_same] at np; cases np
    rw [upd_ne hpa] at np
    exact q p np
/-! is_move_wise, is_bringing_wise -/
def spIsM (C : Addr) (T : List (Addr × Str)) : Sp := fun vs H Q _ => ∃ (a : Addr) (f : Kp218.Field) (m : Fd) (s d l : Nat), vs = [.ref a, .int (s : Nat), .int (d : Nat), .int (l : Nat)] ∧ FAt C H a f m ∧ LamX.Tabs T H ∧ s < f.w * f.h ∧
  ∀ H' : Hp, LamX.ExtN H H' → LamX.Tabs T H' → Q (.bl (Kp218.wiseBy f l s d)) H'
theorem ok_isM {f fB fC : Addr} {fd fdB fdC : FuncData} (F : Fun K "is_move_wise" "Field.is_move_wise" sIsM f fd) (T : Txt K mg C) (mi : mg "list" = none) {Tb : List (Addr × Str)}
    (bB : Binds K fdB ["self", "s", "d"] []) (mB : Meth K C "beside" fB) (GB : FnOk P w K mg base CX0 2 fB fdB ["self", "s", "d"] (spBsd C))
    (bC : Binds K fdC ["self", "levels", "goals"] []) (mC : Meth K C "cost_between" fC) (GC : FnOk P w K mg base CX0 5 fC fdC ["self", "levels", "goals"] (spCost C Tb)) : FnOk P w K mg base CX0 6 f fd ["self", "s", "d", "left"] (spIsM C Tb) := by
  refine F.ok scIsM (fun vs H Q E h => ?_) (fun cdv A outer s H vs Q E hr h => ?_)
  · obtain ⟨a, f, m, s, d, l, rfl, _⟩ := h
    rfl
  · obtain ⟨a, f, m, s, d, l, rfl, hf, hT, hs, q⟩ := h
    refine ⟨_, pss_cons (ps_set (i := 4) scIsM.nd rfl (.inl rfl) (pe_meth (pv 0) T.cl mB GB (hr.mono (by decide)) bB .nil pass0 (pa_cons (pv 1) (pa_cons (pv 2) pa_nil))))
      (pss_cons (ps_if (PW.pt (pw_or (pt_cmpR op_isN1 (pv 4) pe_non (nomark _)) (pw_or1 (pt_cmpR op_eq (pe_ix ix_list (pe_fld (pv 0) rfl) (pv 1) (fun _ _ => rfl)) pe_int (nomark _))))) (pss_one (ps_ret pe_bl)) pss_nil)
      (pss_cons (ps_set (i := 5) scIsM.nd rfl (.inl rfl) (pe_callTy call_list_of (by rfl) mi (by decide +kernel) (pa_cons (pe_fld (pv 0) rfl) pa_nil)))
      (pss_cons (ps_augS (pv 5) (pv 1) get_list pe_int ip_sub set_list)
      (pss_cons (ps_augS (pv 5) (pv 4) get_list pe_int ip_add set_list)
      (pss_one (ps_ret (pe_cmpR op_eq (pe_meth (pv 0) T.cl mC GC hr bC .nil pass0 (pa_cons (pv 5) (pa_cons (pe_fld (pv 0) rfl) pa_nil))) (pe_op op_sub (pv 3) pe_int) (nomark _)))))))), ?_⟩
    obtain ⟨dx, ho⟩ := hf.ob
    refine ⟨_, rfl, a, dx, _, rfl, ho, fF_no m (by decide +kernel), _, rfl, _, rfl, a, f, m, s, d, rfl, hf, hs, ?_⟩
    unfold Kp218.wiseBy at q
    cases hb : Kp218.beside f s d with
    | none =>
      rw [hb] at q
      refine ⟨_, rfl, rfl, _, rfl, iteT (iteT ?_)⟩
      exact q H (LamX.ExtN.refl H) hT
    | some t =>
      rw [hb] at q
      obtain ⟨htn, hts, _, _⟩ := EM.beside_sq hf.v hs hb
      have gl : (vN f.ground)[s]? = some (.int (Kp218.level f s : Nat)) := vN_at (by rw [hf.v.g]; exact hs)
      refine ⟨_, rfl, rfl, _, rfl, iteF ?_⟩
      refine ⟨_, rfl, a, C, dx, _, _, rfl, ho, T.cl, T.a6, fF_la m, _, rfl, m.la, _, _, _, rfl, rfl, SqL.of hf.lev, atI_nat gl, rfl, _, rfl, ite2 (fun c => ?_) (fun c => ?_)⟩
      · have c' : Kp218.level f s = 0 := by have := of_decide_eq_true c; injection this with e; omega
        have hq := q H (LamX.ExtN.refl H) hT
        simp only [c'] at hq
        exact hq
      · have c' : ¬ Kp218.level f s = 0 := fun z => c (decide_eq_true (by rw [z]; rfl))
        -- behind = list(self.levels)
        refine ⟨_, rfl, a, C, dx, _, _, rfl, ho, T.cl, T.a6, fF_la m, m.la, _, rfl, .inl (SqL.of hf.lev), fun ra nra => ?_⟩
        -- behind[s] -= 1
        refine ⟨_, rfl, _, rfl, ra, _, _, _, rfl, rfl, SqL.of upd_same, atI_nat gl, _, _, rfl, rfl, ra, _, _, s, rfl, rfl, upd_same, Evl.ixN_nat (by unfold vN; rw [List.length_map, hf.v.g]; exact hs), ?_⟩
        rw [upd_upd]
        have hset : (vN f.ground).set s (.int ((Kp218.level f s : Nat) - 1)) = vN (f.ground.set s (Kp218.level f s - 1)) := by
          have e : ((Kp218.level f s : Nat) : Int) - 1 = ((Kp218.level f s - 1 : Nat) : Int) := by omega
          unfold vN; rw [List.map_set, e]
        rw [hset]
        generalize hG1 : f.ground.set s (Kp218.level f s - 1) = G1
        have l1 : G1.length = f.w * f.h := by rw [← hG1, List.length_set]; exact hf.v.g
        have gt : (vN G1)[t]? = some (.int (G1.getD t 0 : Nat)) := vN_at (by rw [l1]; exact htn)
        -- behind[there] += 1
        refine ⟨_, rfl, _, rfl, ra, _, _, _, rfl, rfl, SqL.of upd_same, atI_nat gt, _, _, rfl, rfl, ra, _, _, t, rfl, rfl, upd_same, Evl.ixN_nat (by unfold vN; rw [List.length_map, l1]; exact htn), ?_⟩
        rw [upd_upd]
        have hset2 : (vN G1).set t (.int ((G1.getD t 0 : Nat) + 1)) = vN (G1.set t (G1.getD t 0 + 1)) := by unfold vN; rw [List.map_set]; rfl
        rw [hset2]
        have hmv : (Kp218.moved f s t 1).ground = G1.set t (G1.getD t 0 + 1) := by rw [← hG1]; rfl
        generalize hH1 : upd H ra (.lst (vN (G1.set t (G1.getD t 0 + 1)))) = H1
        have s1 : Same H H1 := fun b o e => by rw [← hH1, upd_ne (ne_of_none e nra)]; exact e
        have hr1 : H1 ra = some (.lst (vN (G1.set t (G1.getD t 0 + 1)))) := by rw [← hH1]; exact upd_same
        refine ⟨_, rfl, a, dx, _, rfl, s1 _ _ ho, fF_no m (by decide +kernel), _, rfl, _, rfl, a, C, dx, _, _, rfl, s1 _ _ ho, T.cl, T.a7, fF_wa m, a, ra, m.wa, f, m, _, f.want, rfl, hf.same s1, LamX.Tabs.ext hT s1, hr1, by rw [List.length_set]; exact l1, s1 _ _ hf.wan, hf.v.q, fun H2 e2 t2 => ?_⟩
        have e02 : LamX.ExtN H H2 := ExtN.trans' (LamX.ExtN.of s1) e2
        refine ⟨_, rfl, _, _, rfl, rfl, rfl, ?_⟩
        have hq : Q (.bl (Kp218.level f s != 0 && Kp218.least (Kp218.moved f s t 1) + 1 == l)) H2 := q H2 e02 t2
        rw [EM.least_moved, hmv, bne_iff_ne.2 c', Bool.true_and, ← eq_less] at hq
        exact hq
def spIsB (C : Addr) (T : List (Addr × Str)) : Sp := fun vs H Q _ => ∃ (a : Addr) (f : Kp218.Field) (m : Fd), vs = [.ref a, .int (Kp218.least f : Nat)] ∧ FAt C H a f m ∧ LamX.Tabs T H ∧
  ∀ H' : Hp, LamX.ExtN H H' → LamX.Tabs T H' → Q (.bl (Kp218.wiseBring f)) H'
theorem ok_isB {f fC : Addr} {fd fdC : FuncData} (F : Fun K "is_bringing_wise" "Field.is_bringing_wise" sIsB f fd) (T : Txt K mg C) (mi : mg "list" = none) {Tb : List (Addr × Str)}
    (bC : Binds K fdC ["self", "levels", "goals"] []) (mC : Meth K C "cost_between" fC) (GC : FnOk P w K mg base CX0 5 fC fdC ["self", "levels", "goals"] (spCost C Tb)) : FnOk P w K mg base CX0 6 f fd ["self", "left"] (spIsB C Tb) := by
  refine F.ok scIsB (fun vs H Q E h => ?_) (fun cdv A outer s H vs Q E hr h => ?_)
  · obtain ⟨a, f, m, rfl, _⟩ := h
    rfl
  · obtain ⟨a, f, m, rfl, hf, hT, q⟩ := h
    refine ⟨_, pss_cons (ps_set (i := 2) scIsB.nd rfl (.inl rfl) (pe_callTy call_list_of (by rfl) mi (by decide +kernel) (pa_cons (pe_fld (pv 0) rfl) pa_nil)))
      (pss_cons (ps_augS (pv 2) pe_int get_list pe_int ip_add set_list)
      (pss_one (ps_ret (pe_cmpR op_eq (pe_meth (pv 0) T.cl mC GC hr bC .nil pass0 (pa_cons (pv 2) (pa_cons (pe_fld (pv 0) rfl) pa_nil))) (pe_op op_sub (pv 1) (pe_fld (pv 0) rfl)) (nomark _))))), ?_⟩
    obtain ⟨dx, ho⟩ := hf.ob
    have hpos := hf.v.pos
    have gl : (vN f.ground)[0]? = some (.int (Kp218.level f 0 : Nat)) := vN_at (by rw [hf.v.g]; exact hpos)
    refine ⟨_, rfl, a, C, dx, _, _, rfl, ho, T.cl, T.a6, fF_la m, m.la, _, rfl, .inl (SqL.of hf.lev), fun ra nra => ?_⟩
    refine ⟨_, rfl, ra, _, 0, _, rfl, rfl, SqL.of upd_same, atI_nat (j := 0) gl, _, _, rfl, rfl, ra, _, 0, 0, rfl, rfl, upd_same, Evl.ixN_nat (j := 0) (by unfold vN; rw [List.length_map, hf.v.g]; exact hpos), ?_⟩
    rw [upd_upd]
    have hset : (vN f.ground).set 0 (.int ((Kp218.level f 0 : Nat) + 1)) = vN (Kp218.brought f 1).ground := by
      show _ = vN (f.ground.set 0 (Kp218.level f 0 + 1))
      unfold vN; rw [List.map_set]; rfl
    rw [hset]
    generalize hH1 : upd H ra (.lst (vN (Kp218.brought f 1).ground)) = H1
    have s1 : Same H H1 := fun b o e => by rw [← hH1, upd_ne (ne_of_none e nra)]; exact e
    have hr1 : H1 ra = some (.lst (vN (Kp218.brought f 1).ground)) := by rw [← hH1]; exact upd_same
    refine ⟨_, rfl, a, dx, _, rfl, s1 _ _ ho, fF_no m (by decide +kernel), _, rfl, _, rfl, a, C, dx, _, _, rfl, s1 _ _ ho, T.cl, T.a7, fF_wa m, a, ra, m.wa, f, m, _, f.want, rfl, hf.same s1, LamX.Tabs.ext hT s1, hr1, (hf.v.brought 1).g, s1 _ _ hf.wan, hf.v.q, fun H2 e2 t2 => ?_⟩
    have e02 : LamX.ExtN H H2 := ExtN.trans' (LamX.ExtN.of s1) e2
    have ho2 : H2 a = some (.ins C dx (fF m)) := e02 _ _ ho (fun ps z => by cases z)
    refine ⟨_, rfl, _, rfl, a, C, dx, _, _, rfl, ho2, T.cl, T.a4, fF_b m, _, _, rfl, rfl, rfl, ?_⟩
    have hq : Q (.bl (Kp218.least (Kp218.brought f 1) + f.bring == Kp218.least f)) H2 := q H2 e02 t2
    rw [EM.least_brought, ← eq_less, ← hf.eb] at hq
    exact hq
end
end Earth
set_option linter.all false
set_option maxRecDepth 100000
set_option maxHeartbeats 2000000
namespace Earth
open PySem PySem.Spec PyProof.Rows L2
abbrev sMv : Stmt := inClass sCls 10
abbrev sBring : Stmt := inClass sCls 11
abbrev sTake : Stmt := inClass sCls 12
theorem scMv : FnScope ["self", "s", "d", "n", "there"] ["self", "s", "d", "n"] (defScope sMv) := ⟨rfl, rfl, rfl, by decide +kernel, rfl, by decide +kernel, by decide +kernel⟩
theorem scBring : FnScope ["self", "n"] ["self", "n"] (defScope sBring) := ⟨rfl, rfl, rfl, by decide +kernel, rfl, by decide +kernel, by decide +kernel⟩
theorem scTake : FnScope ["self", "n"] ["self", "n"] (defScope sTake) := ⟨rfl, rfl, rfl, by decide +kernel, rfl, by decide +kernel, by decide +kernel⟩
theorem step_move (f : Kp218.Field) (s d n : Nat) : Kp218.step (some f) (.move s d n) = if f.w * f.h ≤ s then (some f, Kp218.say (-2)) else if 3 < d then (some f, Kp218.say (-22)) else match Kp218.beside f s d with
    | none => (some f, Kp218.say (-2))
    | some t => if Kp218.level f s < n then (some f, Kp218.say (-6)) else (some (Kp218.moved f s t n), Kp218.say (f.spent + n : Nat)) := rfl
theorem step_bring (f : Kp218.Field) (n : Nat) : Kp218.step (some f) (.bring n) = if 1000000 < n then (some f, Kp218.say (-22)) else (some (Kp218.brought f n), Kp218.say (f.spent + n * f.bring : Nat)) := rfl
theorem step_take (f : Kp218.Field) (n : Nat) : Kp218.step (some f) (.take_ n) = if Kp218.level f 0 < n then (some f, Kp218.say (-6)) else (some (Kp218.taken f n), Kp218.say (f.spent + n * f.take_ : Nat)) := rfl
/-- the levels are others, and something was spent -/
theorem fin_spent {C : Addr} {T : List (Addr × Str)} {H : Hp} {a dx : Addr} {f : Kp218.Field} {m : Fd} {Q : VK} {G : List Nat} {c : Nat} {ci : Int} (hf : FAt C H a f m) (ho : H a = some (.ins C dx (fF m))) (hT : LamX.Tabs T H) (hG : G.length = f.w * f.h) (hc : ci = (c : Int))
    (q : Acts C T H a m Q (some { f with ground := G, spent := f.spent + c }) [((f.spent + c : Nat) : Int)]) :
    ∀ p, (upd H m.la (.lst (vN G))) p = none → Q (.ref p) (upd (upd (upd H m.la (.lst (vN G))) a (.ins C dx (fF { m with sp := m.sp + ci }))) p (.lst [.int (m.sp + ci)])) := by
  intro p np
  subst hc
  have hal : a ≠ m.la := fun e => by rw [e, hf.lev] at ho; cases ho
  have haw : a ≠ m.wa := fun e => by rw [e, hf.wan] at ho; cases ho
  have hpl : m.la ≠ p := fun e => by rw [← e, upd_same] at np; cases np
  have npH : H p = none := by rw [upd_ne hpl.symm] at np; exact np
  have hpa : a ≠ p := ne_of_none ho npH
  have hpw : m.wa ≠ p := ne_of_none hf.wan npH
  have hsp : m.sp + (c : Int) = ((f.spent + c : Nat) : Int) := by rw [hf.es]; omega
  refine q _ p { m with sp := m.sp + (c : Int) } ?_ ?_ ?_ (fun b o h1 _ z => ne_of_none h1 npH z) (.inl rfl) (.inl rfl) ?_
  · refine ⟨⟨dx, by rw [upd_ne hpa, upd_same]⟩, ⟨hf.v.w1, hf.v.w4, hf.v.h1, hf.v.h4, hG, hf.v.q, hf.v.b1, hf.v.b2, hf.v.t1, hf.v.t2⟩, hf.be, hf.ew, hf.eh, hf.eb, hf.et, hsp, ?_, ?_, hf.ne⟩
    · show upd (upd (upd H m.la _) a _) p _ m.la = _
      rw [upd_ne hpl, upd_ne hal.symm, upd_same]
    · show upd (upd (upd H m.la _) a _) p _ m.wa = _
      rw [upd_ne hpw, upd_ne haw.symm, upd_ne hf.ne.symm]; exact hf.wan
  · intro b o h1 _ h2 h3 _
    rw [upd_ne (ne_of_none h1 npH), upd_ne h2, upd_ne h3]; exact h1
  · refine Tabs.upd (Tabs.updI ?_ (Tabs.upd hT (.inr ⟨_, hf.lev⟩))) (.inl ?_)
    · rw [upd_ne hal, ho]; rfl
    · rw [upd_ne hpa.symm]; exact np
  · rw [upd_same, hsp]; rfl
section
variable {P : Program} {w : World} {K : PySem.W.Frag} {mg : Str → Option Value} {base : Heap} {C : Addr}
def spMv (C : Addr) (T : List (Addr × Str)) : Sp := fun vs H Q _ => ∃ (a : Addr) (f : Kp218.Field) (m : Fd) (s d n : Nat), vs = [.ref a, .int (s : Nat), .int (d : Nat), .int (n : Nat)] ∧ FAt C H a f m ∧ LamX.Tabs T H ∧ Acts C T H a m Q (EM.said (Kp218.step (some f) (.move s d n))).1 (EM.said (Kp218.step (some f) (.move s d n))).2
theorem ok_mv {f fH fB fS : Addr} {fd fdH fdB fdS : FuncData} (F : Fun K "move" "Field.move" sMv f fd) (T : Txt K mg C) {tw : Tok} (gW : mg "WAYS" = some (.int 4 tw)) {Tb : List (Addr × Str)}
    (bH : Binds K fdH ["self", "s"] []) (mH : Meth K C "has_square" fH) (GH : FnOk P w K mg base CX0 1 fH fdH ["self", "s"] (spHas (C := C)))
    (bB : Binds K fdB ["self", "s", "d"] []) (mB : Meth K C "beside" fB) (GB : FnOk P w K mg base CX0 2 fB fdB ["self", "s", "d"] (spBsd C))
    (bS : Binds K fdS ["self", "cost"] []) (mS : Meth K C "spend" fS) (GS : FnOk P w K mg base CX0 1 fS fdS ["self", "cost"] (spSpend C)) : FnOk P w K mg base CX0 3 f fd ["self", "s", "d", "n"] (spMv C Tb) := by
  refine F.ok scMv (fun vs H Q E h => ?_) (fun cdv A outer s H vs Q E hr h => ?_)
  · obtain ⟨a, f, m, s, d, n, rfl, _⟩ := h
    rfl
  · obtain ⟨a, f, m, s, d, n, rfl, hf, hT, q⟩ := h
    refine ⟨_, pss_cons (ps_if (pt_not (pt_val (pe_meth (pv 0) T.cl mH GH (hr.mono (by decide)) bH .nil pass0 (pa_cons (pv 1) pa_nil)))) (pss_one (ps_ret (pe_lst (pa_cons (pe_un un_neg pe_int) pa_nil)))) pss_nil)
      (pss_cons (ps_if (pt_cmpR op_ge (pv 2) (pe_glob (v := .int 4) rfl gW ⟨_, rfl⟩) (nomark _)) (pss_one (ps_ret (pe_lst (pa_cons (pe_un un_neg pe_int) pa_nil)))) pss_nil)
      (pss_cons (ps_set (i := 4) scMv.nd rfl (.inl rfl) (pe_meth (pv 0) T.cl mB GB hr bB .nil pass0 (pa_cons (pv 1) (pa_cons (pv 2) pa_nil))))
      (pss_cons (ps_if (pt_cmpR op_isN1 (pv 4) pe_non (nomark _)) (pss_one (ps_ret (pe_lst (pa_cons (pe_un un_neg pe_int) pa_nil)))) pss_nil)
      (pss_cons (ps_if (pt_cmpR op_lt (pe_ix ix_list (pe_fld (pv 0) rfl) (pv 1) (fun _ _ => rfl)) (pv 3) (nomark _)) (pss_one (ps_ret (pe_lst (pa_cons (pe_un un_neg pe_int) pa_nil)))) pss_nil)
      (pss_cons (ps_augS (pe_fld (pv 0) rfl) (pv 1) get_list (pv 3) ip_sub set_list)
      (pss_cons (ps_augS (pe_fld (pv 0) rfl) (pv 4) get_list (pv 3) ip_add set_list)
      (pss_one (ps_ret (pe_meth (pv 0) T.cl mS GS (hr.mono (by decide)) bS .nil pass0 (pa_cons (pv 3) pa_nil)))))))))), ?_⟩
    obtain ⟨dx, ho⟩ := hf.ob
    have hal : a ≠ m.la := fun e => by rw [e, hf.lev] at ho; cases ho
    rw [step_move] at q
    refine ⟨_, rfl, a, dx, _, rfl, ho, fF_no m (by decide +kernel), _, rfl, a, f, m, s, rfl, hf, _, rfl, ?_⟩
    by_cases c : s < f.w * f.h
    rotate_left
    · rw [if_pos (by omega)] at q
      rw [decide_eq_false c]
      exact iteT ⟨2, rfl, Evl.sz_of (by simp), (Acts.told q hf).lst (LamX.ExtN.refl H) hT rfl⟩
    rw [if_neg (by omega)] at q
    rw [decide_eq_true c]
    refine iteF ⟨_, rfl, _, _, rfl, rfl, _, rfl, ite2 (fun c2 => ?_) (fun c2 => ?_)⟩
    · have c2' := of_decide_eq_true c2
      rw [if_pos (by omega)] at q
      exact ⟨22, rfl, Evl.sz_of (by simp), (Acts.told q hf).lst (LamX.ExtN.refl H) hT rfl⟩
    have c2' : ¬ ((4 : Int) ≤ (d : Nat)) := fun z => c2 (decide_eq_true z)
    rw [if_neg (by omega)] at q
    refine ⟨_, rfl, a, dx, _, rfl, ho, fF_no m (by decide +kernel), _, rfl, _, rfl, a, f, m, s, d, rfl, hf, c, ?_⟩
    cases hb : Kp218.beside f s d with
    | none =>
      rw [hb] at q
      refine ⟨_, rfl, rfl, _, rfl, iteT ?_⟩
      exact ⟨2, rfl, Evl.sz_of (by simp), (Acts.told q hf).lst (LamX.ExtN.refl H) hT rfl⟩
    | some t =>
      rw [hb] at q
      obtain ⟨htn, hts, _, _⟩ := EM.beside_sq hf.v c hb
      have gl : (vN f.ground)[s]? = some (.int (Kp218.level f s : Nat)) := vN_at (by rw [hf.v.g]; exact c)
      refine ⟨_, rfl, rfl, _, rfl, iteF ?_⟩
      refine ⟨_, rfl, a, C, dx, _, _, rfl, ho, T.cl, T.a6, fF_la m, _, rfl, m.la, _, _, _, rfl, rfl, SqL.of hf.lev, atI_nat gl, _, rfl, _, _, rfl, rfl, _, rfl, ite2 (fun c3 => ?_) (fun c3 => ?_)⟩
      · have c3' := of_decide_eq_true c3
        have q2 : Acts C Tb H a m Q (some f) [-6] := by
          have e : (if Kp218.level f s < n then (some f, Kp218.say (-6)) else (some (Kp218.moved f s t n), Kp218.say (f.spent + n : Nat))) = (some f, Kp218.say (-6)) := if_pos (by omega)
          simp only [e] at q
          exact q
        exact ⟨6, rfl, Evl.sz_of (by simp), (q2.told hf).lst (LamX.ExtN.refl H) hT rfl⟩
      · have c3' : ¬ ((Kp218.level f s : Nat) : Int) < (n : Nat) := fun z => c3 (decide_eq_true z)
        have q2 : Acts C Tb H a m Q (some (Kp218.moved f s t n)) [((f.spent + n : Nat) : Int)] := by
          have e : (if Kp218.level f s < n then (some f, Kp218.say (-6)) else (some (Kp218.moved f s t n), Kp218.say (f.spent + n : Nat))) = (some (Kp218.moved f s t n), Kp218.say (f.spent + n : Nat)) := if_neg (by omega)
          simp only [e] at q
          exact q
        -- self.levels[s] -= n
        refine ⟨_, rfl, a, C, dx, _, _, rfl, ho, T.cl, T.a6, fF_la m, _, rfl, m.la, _, _, _, rfl, rfl, SqL.of hf.lev, atI_nat gl, _, rfl, _, _, rfl, rfl, m.la, _, _, s, rfl, rfl, hf.lev, Evl.ixN_nat (by unfold vN; rw [List.length_map, hf.v.g]; exact c), ?_⟩
        have hset : (vN f.ground).set s (.int ((Kp218.level f s : Nat) - (n : Nat))) = vN (f.ground.set s (Kp218.level f s - n)) := by
          have e : ((Kp218.level f s : Nat) : Int) - (n : Nat) = ((Kp218.level f s - n : Nat) : Int) := by omega
          unfold vN; rw [List.map_set, e]
        rw [hset]
        have hmv : Kp218.moved f s t n = { f with ground := (f.ground.set s (Kp218.level f s - n)).set t ((f.ground.set s (Kp218.level f s - n)).getD t 0 + n), spent := f.spent + n } := rfl
        rw [hmv] at q2
        generalize hG1 : f.ground.set s (Kp218.level f s - n) = G1 at q2
        have l1 : G1.length = f.w * f.h := by rw [← hG1, List.length_set]; exact hf.v.g
        have gt : (vN G1)[t]? = some (.int (G1.getD t 0 : Nat)) := vN_at (by rw [l1]; exact htn)
        -- self.levels[there] += n
        refine ⟨_, rfl, a, C, dx, _, _, rfl, by rw [upd_ne hal]; exact ho, T.cl, T.a6, fF_la m, _, rfl, m.la, _, _, _, rfl, rfl, SqL.of upd_same, atI_nat gt, _, rfl, _, _, rfl, rfl, m.la, _, _, t, rfl, rfl, upd_same, Evl.ixN_nat (by unfold vN; rw [List.length_map, l1]; exact htn), ?_⟩
        rw [upd_upd]
        have hset2 : (vN G1).set t (.int ((G1.getD t 0 : Nat) + (n : Nat))) = vN (G1.set t (G1.getD t 0 + n)) := by unfold vN; rw [List.map_set]; rfl
        rw [hset2]
        -- return self.spend(n)
        refine ⟨_, rfl, a, dx, _, rfl, by rw [upd_ne hal]; exact ho, fF_no m (by decide +kernel), _, rfl, a, dx, m, _, rfl, by rw [upd_ne hal]; exact ho, ?_⟩
        exact fin_spent hf ho hT (by rw [List.length_set]; exact l1) rfl q2
def spBring (C : Addr) (T : List (Addr × Str)) : Sp := fun vs H Q _ => ∃ (a : Addr) (f : Kp218.Field) (m : Fd) (n : Nat), vs = [.ref a, .int (n : Nat)] ∧ FAt C H a f m ∧ LamX.Tabs T H ∧ Acts C T H a m Q (EM.said (Kp218.step (some f) (.bring n))).1 (EM.said (Kp218.step (some f) (.bring n))).2
theorem ok_bring {f fS : Addr} {fd fdS : FuncData} (F : Fun K "bring" "Field.bring" sBring f fd) (T : Txt K mg C) {tw : Tok} (gM : mg "MOST_BROUGHT_AT_ONCE" = some (.int 1000000 tw)) {Tb : List (Addr × Str)}
    (bS : Binds K fdS ["self", "cost"] []) (mS : Meth K C "spend" fS) (GS : FnOk P w K mg base CX0 1 fS fdS ["self", "cost"] (spSpend C)) : FnOk P w K mg base CX0 2 f fd ["self", "n"] (spBring C Tb) := by
  refine F.ok scBring (fun vs H Q E h => ?_) (fun cdv A outer s H vs Q E hr h => ?_)
  · obtain ⟨a, f, m, n, rfl, _⟩ := h
    rfl
  · obtain ⟨a, f, m, n, rfl, hf, hT, q⟩ := h
    refine ⟨_, pss_cons (ps_if (pt_cmpR op_gt (pv 1) (pe_glob (v := .int 1000000) rfl gM ⟨_, rfl⟩) (nomark _)) (pss_one (ps_ret (pe_lst (pa_cons (pe_un un_neg pe_int) pa_nil)))) pss_nil)
      (pss_cons (ps_augS (pe_fld (pv 0) rfl) pe_int get_list (pv 1) ip_add set_list)
      (pss_one (ps_ret (pe_meth (pv 0) T.cl mS GS hr bS .nil pass0 (pa_cons (pe_op op_mul (pv 1) (pe_fld (pv 0) rfl)) pa_nil))))), ?_⟩
    obtain ⟨dx, ho⟩ := hf.ob
    have hal : a ≠ m.la := fun e => by rw [e, hf.lev] at ho; cases ho
    have hpos := hf.v.pos
    have gl : (vN f.ground)[0]? = some (.int (Kp218.level f 0 : Nat)) := vN_at (by rw [hf.v.g]; exact hpos)
    rw [step_bring] at q
    refine ⟨_, rfl, _, _, rfl, rfl, _, rfl, ite2 (fun c => ?_) (fun c => ?_)⟩
    · have c' := of_decide_eq_true c
      rw [if_pos (by omega)] at q
      exact ⟨22, rfl, Evl.sz_of (by simp), (Acts.told q hf).lst (LamX.ExtN.refl H) hT rfl⟩
    have c' : ¬ ((1000000 : Int) < (n : Nat)) := fun z => c (decide_eq_true z)
    rw [if_neg (by omega)] at q
    refine ⟨_, rfl, a, C, dx, _, _, rfl, ho, T.cl, T.a6, fF_la m, m.la, _, 0, _, rfl, rfl, SqL.of hf.lev, atI_nat (j := 0) gl, _, rfl, _, _, rfl, rfl, m.la, _, 0, 0, rfl, rfl, hf.lev, Evl.ixN_nat (j := 0) (by unfold vN; rw [List.length_map, hf.v.g]; exact hpos), ?_⟩
    have hset : (vN f.ground).set 0 (.int ((Kp218.level f 0 : Nat) + (n : Nat))) = vN (f.ground.set 0 (Kp218.level f 0 + n)) := by unfold vN; rw [List.map_set]; rfl
    rw [hset]
    refine ⟨_, rfl, a, dx, _, rfl, by rw [upd_ne hal]; exact ho, fF_no m (by decide +kernel), _, rfl, _, rfl, a, C, dx, _, _, rfl, by rw [upd_ne hal]; exact ho, T.cl, T.a4, fF_b m, _, _, rfl, rfl, .inl ⟨by omega, by omega⟩, a, dx, m, _, rfl, by rw [upd_ne hal]; exact ho, ?_⟩
    exact fin_spent (c := n * f.bring) hf ho hT (by rw [List.length_set]; exact hf.v.g) (by rw [hf.eb, Int.natCast_mul]) q
def spTake (C : Addr) (T : List (Addr × Str)) : Sp := fun vs H Q _ => ∃ (a : Addr) (f : Kp218.Field) (m : Fd) (n : Nat), vs = [.ref a, .int (n : Nat)] ∧ FAt C H a f m ∧ LamX.Tabs T H ∧ Acts C T H a m Q (EM.said (Kp218.step (some f) (.take_ n))).1 (EM.said (Kp218.step (some f) (.take_ n))).2
theorem ok_take {f fS : Addr} {fd fdS : FuncData} (F : Fun K "take" "Field.take" sTake f fd) (T : Txt K mg C) {Tb : List (Addr × Str)}
    (bS : Binds K fdS ["self", "cost"] []) (mS : Meth K C "spend" fS) (GS : FnOk P w K mg base CX0 1 fS fdS ["self", "cost"] (spSpend C)) : FnOk P w K mg base CX0 2 f fd ["self", "n"] (spTake C Tb) := by
  refine F.ok scTake (fun vs H Q E h => ?_) (fun cdv A outer s H vs Q E hr h => ?_)
  · obtain ⟨a, f, m, n, rfl, _⟩ := h
    rfl
  · obtain ⟨a, f, m, n, rfl, hf, hT, q⟩ := h
    refine ⟨_, pss_cons (ps_if (pt_cmpR op_lt (pe_ix ix_list (pe_fld (pv 0) rfl) pe_int (fun _ _ => rfl)) (pv 1) (nomark _)) (pss_one (ps_ret (pe_lst (pa_cons (pe_un un_neg pe_int) pa_nil)))) pss_nil)
      (pss_cons (ps_augS (pe_fld (pv 0) rfl) pe_int get_list (pv 1) ip_sub set_list)
      (pss_one (ps_ret (pe_meth (pv 0) T.cl mS GS hr bS .nil pass0 (pa_cons (pe_op op_mul (pv 1) (pe_fld (pv 0) rfl)) pa_nil))))), ?_⟩
    obtain ⟨dx, ho⟩ := hf.ob
    have hal : a ≠ m.la := fun e => by rw [e, hf.lev] at ho; cases ho
    have hpos := hf.v.pos
    have gl : (vN f.ground)[0]? = some (.int (Kp218.level f 0 : Nat)) := vN_at (by rw [hf.v.g]; exact hpos)
    rw [step_take] at q
    refine ⟨_, rfl, a, C, dx, _, _, rfl, ho, T.cl, T.a6, fF_la m, m.la, _, 0, _, rfl, rfl, SqL.of hf.lev, atI_nat (j := 0) gl, _, rfl, _, _, rfl, rfl, _, rfl, ite2 (fun c => ?_) (fun c => ?_)⟩
    · have c' := of_decide_eq_true c
      rw [if_pos (by omega)] at q
      exact ⟨6, rfl, Evl.sz_of (by simp), (Acts.told q hf).lst (LamX.ExtN.refl H) hT rfl⟩
    have c' : ¬ (((Kp218.level f 0 : Nat) : Int) < (n : Nat)) := fun z => c (decide_eq_true z)
    rw [if_neg (by omega)] at q
    refine ⟨_, rfl, a, C, dx, _, _, rfl, ho, T.cl, T.a6, fF_la m, m.la, _, 0, _, rfl, rfl, SqL.of hf.lev, atI_nat (j := 0) gl, _, rfl, _, _, rfl, rfl, m.la, _, 0, 0, rfl, rfl, hf.lev, Evl.ixN_nat (j := 0) (by unfold vN; rw [List.length_map, hf.v.g]; exact hpos), ?_⟩
    have hset : (vN f.ground).set 0 (.int ((Kp218.level f 0 : Nat) - (n : Nat))) = vN (f.ground.set 0 (Kp218.level f 0 - n)) := by
      have e : ((Kp218.level f 0 : Nat) : Int) - (n : Nat) = ((Kp218.level f 0 - n : Nat) : Int) := by omega
      unfold vN; rw [List.map_set, e]
    rw [hset]
    have t2 := hf.v.t2
    refine ⟨_, rfl, a, dx, _, rfl, by rw [upd_ne hal]; exact ho, fF_no m (by decide +kernel), _, rfl, _, rfl, a, C, dx, _, _, rfl, by rw [upd_ne hal]; exact ho, T.cl, T.a5, fF_t m, _, _, rfl, rfl, .inr ⟨by rw [hf.et]; omega, by rw [hf.et]; omega⟩, a, dx, m, _, rfl, by rw [upd_ne hal]; exact ho, ?_⟩
    exact fin_spent (c := n * f.take_) hf ho hT (by rw [List.length_set]; exact hf.v.g) (by rw [hf.et, Int.natCast_mul]) q
end
end Earth
set_option linter.all false
set_option maxRecDepth 100000
set_option maxHeartbeats 2000000
namespace Earth
open PySem PySem.Spec PyProof.Rows L2
abbrev sWise : Stmt := inClass sCls 13
abbrev sNext : Stmt := inClass sCls 14
abbrev sDone : Stmt := inClass sCls 15
theorem scWise : FnScope ["self", "s", "d"] ["self", "s", "d"] (defScope sWise) := ⟨rfl, rfl, rfl, by decide +kernel, rfl, by decide +kernel, by decide +kernel⟩
theorem scNext : FnScope ["self", "left", "s", "d"] ["self"] (defScope sNext) := ⟨rfl, rfl, rfl, by decide +kernel, rfl, by decide +kernel, by decide +kernel⟩
theorem scDone : FnScope ["self"] ["self"] (defScope sDone) := ⟨rfl, rfl, rfl, by decide +kernel, rfl, by decide +kernel, by decide +kernel⟩
section
variable {P : Program} {w : World} {K : PySem.W.Frag} {mg : Str → Option Value} {base : Heap} {C : Addr}
/-! done -/
def spDone (C : Addr) (T : List (Addr × Str)) : Sp := fun vs H Q _ => ∃ (a : Addr) (f : Kp218.Field) (m : Fd), vs = [.ref a] ∧ FAt C H a f m ∧ LamX.Tabs T H ∧ Told T H Q [if Kp218.done f then 1 else 0]
theorem ok_done {f fD : Addr} {fd fdD : FuncData} (F : Fun K "done" "Field.done" sDone f fd) (T : Txt K mg C) {Tb : List (Addr × Str)} (bD : Binds K fdD ["self"] []) (mD : Meth K C "is_done" fD) (GD : FnOk P w K mg base CX0 1 fD fdD ["self"] (spIsD C)) :
    FnOk P w K mg base CX0 2 f fd ["self"] (spDone C Tb) := by
  refine F.ok scDone (fun vs H Q E h => ?_) (fun cdv A outer s H vs Q E hr h => ?_)
  · obtain ⟨a, f, m, rfl, _⟩ := h
    rfl
  · obtain ⟨a, f, m, rfl, hf, hT, q⟩ := h
    refine ⟨_, pss_one (ps_ret (pe_lst (pa_cons (pe_ifExp (pt_val (pe_meth0 (pv 0) T.cl mD GD hr bD .nil pass0)) pe_int pe_int) pa_nil))), ?_⟩
    obtain ⟨dx, ho⟩ := hf.ob
    refine ⟨_, rfl, a, dx, _, rfl, ho, fF_no m (by decide +kernel), a, f, m, rfl, hf, _, rfl, ?_⟩
    cases hd : Kp218.done f with
    | true =>
      rw [hd] at q
      exact iteT ⟨Evl.sz_of (by simp), q.lst (LamX.ExtN.refl H) hT rfl⟩
    | false =>
      rw [hd] at q
      exact iteF ⟨Evl.sz_of (by simp), q.lst (LamX.ExtN.refl H) hT rfl⟩
/-! wise -/
def wise (f : Kp218.Field) (s d : Nat) : List Int := if f.w * f.h ≤ s then [-2] else if 3 < d then [-22] else [if Kp218.wise f s d then 1 else 0]
def spWise (C : Addr) (T : List (Addr × Str)) : Sp := fun vs H Q _ => ∃ (a : Addr) (f : Kp218.Field) (m : Fd) (s d : Nat), vs = [.ref a, .int (s : Nat), .int (d : Nat)] ∧ FAt C H a f m ∧ LamX.Tabs T H ∧ Told T H Q (wise f s d)
theorem ok_wise {f fH fM fV : Addr} {fd fdH fdM fdV : FuncData} (F : Fun K "wise" "Field.wise" sWise f fd) (T : Txt K mg C) {tw : Tok} (gW : mg "WAYS" = some (.int 4 tw)) {Tb : List (Addr × Str)}
    (bH : Binds K fdH ["self", "s"] []) (mH : Meth K C "has_square" fH) (GH : FnOk P w K mg base CX0 1 fH fdH ["self", "s"] (spHas (C := C)))
    (bM : Binds K fdM ["self", "s", "d", "left"] []) (mM : Meth K C "is_move_wise" fM) (GM : FnOk P w K mg base CX0 6 fM fdM ["self", "s", "d", "left"] (spIsM C Tb))
    (bV : Binds K fdV ["self"] []) (mV : Meth K C "cost_left" fV) (GV : FnOk P w K mg base CX0 6 fV fdV ["self"] (spLeft C Tb)) : FnOk P w K mg base CX0 7 f fd ["self", "s", "d"] (spWise C Tb) := by
  refine F.ok scWise (fun vs H Q E h => ?_) (fun cdv A outer s H vs Q E hr h => ?_)
  · obtain ⟨a, f, m, s, d, rfl, _⟩ := h
    rfl
  · obtain ⟨a, f, m, s, d, rfl, hf, hT, q⟩ := h
    refine ⟨_, pss_cons (ps_if (pt_not (pt_val (pe_meth (pv 0) T.cl mH GH (hr.mono (by decide)) bH .nil pass0 (pa_cons (pv 1) pa_nil)))) (pss_one (ps_ret (pe_lst (pa_cons (pe_un un_neg pe_int) pa_nil)))) pss_nil)
      (pss_cons (ps_if (pt_cmpR op_ge (pv 2) (pe_glob (v := .int 4) rfl gW ⟨_, rfl⟩) (nomark _)) (pss_one (ps_ret (pe_lst (pa_cons (pe_un un_neg pe_int) pa_nil)))) pss_nil)
      (pss_one (ps_ret (pe_lst (pa_cons (pe_ifExp (pt_val (pe_meth (pv 0) T.cl mM GM hr bM .nil pass0 (pa_cons (pv 1) (pa_cons (pv 2) (pa_cons (pe_meth0 (pv 0) T.cl mV GV hr bV .nil pass0) pa_nil))))) pe_int pe_int) pa_nil))))), ?_⟩
    obtain ⟨dx, ho⟩ := hf.ob
    unfold wise at q
    refine ⟨_, rfl, a, dx, _, rfl, ho, fF_no m (by decide +kernel), _, rfl, a, f, m, s, rfl, hf, _, rfl, ?_⟩
    by_cases c : s < f.w * f.h
    rotate_left
    · rw [if_pos (by omega)] at q
      rw [decide_eq_false c]
      exact iteT ⟨2, rfl, Evl.sz_of (by simp), q.lst (LamX.ExtN.refl H) hT rfl⟩
    rw [if_neg (by omega)] at q
    rw [decide_eq_true c]
    refine iteF ⟨_, rfl, _, _, rfl, rfl, _, rfl, ite2 (fun c2 => ?_) (fun c2 => ?_)⟩
    · have c2' := of_decide_eq_true c2
      rw [if_pos (by omega)] at q
      exact ⟨22, rfl, Evl.sz_of (by simp), q.lst (LamX.ExtN.refl H) hT rfl⟩
    have c2' : ¬ ((4 : Int) ≤ (d : Nat)) := fun z => c2 (decide_eq_true z)
    rw [if_neg (by omega)] at q
    refine ⟨_, rfl, a, dx, _, rfl, ho, fF_no m (by decide +kernel), _, rfl, _, rfl, _, rfl, a, dx, _, rfl, ho, fF_no m (by decide +kernel), a, f, m, rfl, hf, hT, fun H1 e1 t1 => ?_⟩
    refine ⟨a, f, m, s, d, Kp218.least f, rfl, hf.ext e1, t1, c, fun H2 e2 t2 => ⟨_, rfl, ?_⟩⟩
    have e02 := ExtN.trans' e1 e2
    have hw : Kp218.wise f s d = Kp218.wiseBy f (Kp218.least f) s d := rfl
    rw [hw] at q
    cases hd : Kp218.wiseBy f (Kp218.least f) s d with
    | true =>
      rw [hd] at q
      exact iteT ⟨Evl.sz_of (by simp), q.lst e02 t2 rfl⟩
    | false =>
      rw [hd] at q
      exact iteF ⟨Evl.sz_of (by simp), q.lst e02 t2 rfl⟩
/-! next_load -/
def next (f : Kp218.Field) : List Int := match Kp218.next f with
  | some x => [0, (x.1 : Int), (x.2 : Int)]
  | none => [-33]
def spNext (C : Addr) (T : List (Addr × Str)) : Sp := fun vs H Q _ => ∃ (a : Addr) (f : Kp218.Field) (m : Fd), vs = [.ref a] ∧ FAt C H a f m ∧ LamX.Tabs T H ∧ Told T H Q (next f)
theorem ok_next {f fD fM fV fB : Addr} {fd fdD fdM fdV fdB : FuncData} (F : Fun K "next_load" "Field.next_load" sNext f fd) (T : Txt K mg C) {tw tb tt : Tok} (gW : mg "WAYS" = some (.int 4 tw)) (gB : mg "BRING_ONE" = some (.int 4 tb)) (gT : mg "TAKE_ONE" = some (.int 5 tt)) (ml : mg "len" = none) (mr : mg "range" = none) {Tb : List (Addr × Str)}
    (bD : Binds K fdD ["self"] []) (mD : Meth K C "is_done" fD) (GD : FnOk P w K mg base CX0 1 fD fdD ["self"] (spIsD C))
    (bM : Binds K fdM ["self", "s", "d", "left"] []) (mM : Meth K C "is_move_wise" fM) (GM : FnOk P w K mg base CX0 6 fM fdM ["self", "s", "d", "left"] (spIsM C Tb))
    (bV : Binds K fdV ["self"] []) (mV : Meth K C "cost_left" fV) (GV : FnOk P w K mg base CX0 6 fV fdV ["self"] (spLeft C Tb))
    (bB : Binds K fdB ["self", "left"] []) (mB : Meth K C "is_bringing_wise" fB) (GB : FnOk P w K mg base CX0 6 fB fdB ["self", "left"] (spIsB C Tb)) : FnOk P w K mg base CX0 7 f fd ["self"] (spNext C Tb) := by
  refine F.ok scNext (fun vs H Q E h => ?_) (fun cdv A outer s H vs Q E hr h => ?_)
  · obtain ⟨a, f, m, rfl, _⟩ := h
    rfl
  · obtain ⟨a, f, m, rfl, hf, hT, q⟩ := h
    refine ⟨_, pss_cons (ps_if (pt_val (pe_meth0 (pv 0) T.cl mD GD (hr.mono (by decide)) bD .nil pass0)) (pss_one (ps_ret (pe_lst (pa_cons (pe_un un_neg pe_int) pa_nil)))) pss_nil)
      (pss_cons (ps_set (i := 1) scNext.nd rfl (.inl rfl) (pe_meth0 (pv 0) T.cl mV GV hr bV .nil pass0))
      (pss_cons (ps_for PassesOwn.never rfl (pi_range1 rfl mr (pa_cons (pe_callB call_len_seq (by rfl) ml PySem.boot_len (pa_cons (pe_fld (pv 0) rfl) pa_nil)) pa_nil)) (pg_name (i := 2) scNext.nd rfl (.inl rfl))
        (pss_one (ps_for PassesOwn.never rfl (pi_range1 rfl mr (pa_cons (pe_glob (v := .int 4) rfl gW ⟨_, rfl⟩) pa_nil)) (pg_name (i := 3) scNext.nd rfl (.inl rfl))
          (pss_one (ps_if (pt_val (pe_meth (pv 0) T.cl mM GM hr bM .nil pass0 (pa_cons (pv 2) (pa_cons (pv 3) (pa_cons (pv 1) pa_nil))))) (pss_one (ps_ret (pe_lst (pa_cons pe_int (pa_cons (pv 2) (pa_cons (pv 3) pa_nil)))))) pss_nil)))))
      (pss_one (ps_ret (pe_lst (pa_cons pe_int (pa_cons pe_int (pa_cons (pe_ifExp (pt_val (pe_meth (pv 0) T.cl mB GB hr bB .nil pass0 (pa_cons (pv 1) pa_nil))) (pe_glob (v := .int 4) rfl gB ⟨_, rfl⟩) (pe_glob (v := .int 5) rfl gT ⟨_, rfl⟩)) pa_nil)))))))), ?_⟩
    obtain ⟨dx, ho⟩ := hf.ob
    have hn16 := EM.size16 hf.v
    unfold next at q
    refine ⟨_, rfl, a, dx, _, rfl, ho, fF_no m (by decide +kernel), a, f, m, rfl, hf, _, rfl, ?_⟩
    cases hd : Kp218.done f with
    | true =>
      rw [EM.next_done hd] at q
      exact iteT ⟨33, rfl, Evl.sz_of (by simp), q.lst (LamX.ExtN.refl H) hT rfl⟩
    | false =>
      refine iteF ⟨_, rfl, a, dx, _, rfl, ho, fF_no m (by decide +kernel), a, f, m, rfl, hf, hT, fun H1 e1 t1 => ?_⟩
      have ho1 : H1 a = some (.ins C dx (fF m)) := e1 _ _ ho (fun ps z => by cases z)
      have hf1 := hf.ext e1
      have hgl : (vN f.ground).length = f.w * f.h := by unfold vN; rw [List.length_map, hf.v.g]
      refine ⟨_, rfl, a, C, dx, _, _, rfl, ho1, T.cl, T.a6, fF_la m, m.la, _, rfl, .inl (SqL.of hf1.lev), ?_⟩
      rw [hgl]
      refine ⟨_, rfl, by show -2 ^ 62 ≤ ((f.w * f.h : Nat) : Int); omega, by show ((f.w * f.h : Nat) : Int) < 2 ^ 62; omega, for_range (lo := 0) (fun i σ H' => ∃ v2 v3, σ = [some (.ref a), some (.int (Kp218.least f : Nat)), v2, v3] ∧ LamX.ExtN H H' ∧ LamX.Tabs Tb H' ∧ ∀ s', s' < i → ∀ d', d' < 4 → Kp218.wiseBy f (Kp218.least f) s' d' = false) ?_ ?_ ?_⟩
      · exact ⟨none, none, rfl, e1, t1, fun s' h => absurd h (Nat.not_lt_zero _)⟩
      · rintro i σ H2 hi ⟨v2, v3, rfl, e2, t2, hno⟩
        rw [Int.toNat_natCast] at hi
        have e0 : (0 + (i : Int)) = i := by omega
        rw [e0]
        refine ⟨_, rfl, by decide, by decide, for_range (lo := 0) (n := 4) (fun j σ H' => ∃ v3, σ = [some (.ref a), some (.int (Kp218.least f : Nat)), some (.int (i : Nat)), v3] ∧ LamX.ExtN H H' ∧ LamX.Tabs Tb H' ∧ ∀ d', d' < j → Kp218.wiseBy f (Kp218.least f) i d' = false) ?_ ?_ ?_⟩
        · exact ⟨_, rfl, e2, t2, fun d' h => absurd h (Nat.not_lt_zero _)⟩
        · rintro j σ H3 hj ⟨v3, rfl, e3, t3, hno2⟩
          have e0' : (0 + (j : Int)) = j := by omega
          rw [e0']
          have ho3 : H3 a = some (.ins C dx (fF m)) := e3 _ _ ho (fun ps z => by cases z)
          refine ⟨_, rfl, a, dx, _, rfl, ho3, fF_no m (by decide +kernel), _, rfl, _, rfl, _, rfl, a, f, m, i, j, Kp218.least f, rfl, hf.ext e3, t3, hi, fun H4 e4 t4 => ⟨_, rfl, ?_⟩⟩
          have e04 := ExtN.trans' e3 e4
          cases hw : Kp218.wiseBy f (Kp218.least f) i j with
          | true =>
            rw [EM.next_found hf.v hd hi hj hw hno hno2] at q
            exact iteT ⟨_, rfl, _, rfl, Evl.sz_of (by simp), q.lst e04 t4 rfl⟩
          | false =>
            refine iteF ⟨_, rfl, e04, t4, fun d' hd' => ?_⟩
            by_cases c : d' = j
            · rw [c]; exact hw
            · exact hno2 d' (by omega)
        · rintro σ H3 ⟨v3, rfl, e3, t3, hno2⟩
          refine ⟨_, _, rfl, e3, t3, fun s' hs' => ?_⟩
          by_cases c : s' = i
          · rw [c]; exact hno2
          · exact hno s' (by omega)
      · rintro σ H2 ⟨v2, v3, rfl, e2, t2, hno⟩
        rw [Int.toNat_natCast] at hno
        have ho2 : H2 a = some (.ins C dx (fF m)) := e2 _ _ ho (fun ps z => by cases z)
        rw [EM.next_none hf.v hd hno] at q
        refine ⟨_, rfl, a, dx, _, rfl, ho2, fF_no m (by decide +kernel), _, rfl, a, f, m, rfl, hf.ext e2, t2, fun H3 e3 t3 => ⟨_, rfl, ?_⟩⟩
        have e03 := ExtN.trans' e2 e3
        cases hw : Kp218.wiseBring f with
        | true =>
          rw [hw] at q
          exact iteT ⟨Evl.sz_of (by simp), q.lst e03 t3 rfl⟩
        | false =>
          rw [hw] at q
          exact iteF ⟨Evl.sz_of (by simp), q.lst e03 t3 rfl⟩
end
end Earth
set_option linter.all false
set_option maxRecDepth 100000
set_option maxHeartbeats 2000000
namespace Earth
open PySem PySem.Spec PyProof.Rows L2
abbrev sSteep : Stmt := inClass sCls 16
abbrev sState : Stmt := inClass sCls 17
theorem scSteep : FnScope ["self", "k", "pairs", "s", "d", "there"] ["self", "k"] (defScope sSteep) := ⟨rfl, rfl, rfl, by decide +kernel, rfl, by decide +kernel, by decide +kernel⟩
theorem scState : FnScope ["self"] ["self"] (defScope sState) := ⟨rfl, rfl, rfl, by decide +kernel, rfl, by decide +kernel, by decide +kernel⟩
def steepIn (f : Kp218.Field) (k i j : Nat) : List Nat := EM.steepTo f k i ++ (([1, 2] : List Nat).take j).flatMap (EM.steepAt f k i)
theorem steepIn_more (f : Kp218.Field) (k i j d : Nat) (h : ([1, 2] : List Nat)[j]? = some d) : steepIn f k i (j + 1) = steepIn f k i j ++ EM.steepAt f k i d := by
  unfold steepIn
  rw [List.take_add_one, h, List.flatMap_append, List.append_assoc]
  congr 2
  show List.flatMap _ [d] = _
  rw [List.flatMap_singleton]
theorem steepIn_end (f : Kp218.Field) (k i : Nat) : steepIn f k i 2 = EM.steepTo f k (i + 1) := by
  rw [EM.steepTo_succ]
  unfold steepIn
  rw [List.append_assoc]
  congr 1
  show List.flatMap _ [1, 2] = _
  simp
theorem steepIn_len (f : Kp218.Field) (k i j : Nat) (h : j ≤ 2) : (steepIn f k i j).length ≤ 4 * i + 4 := by
  have h0 := EM.steepTo_len f k i
  have h1 := EM.steepAt_len f k i 1
  have h2 := EM.steepAt_len f k i 2
  have : j = 0 ∨ j = 1 ∨ j = 2 := by omega
  unfold steepIn
  rcases this with rfl | rfl | rfl <;> simp <;> omega
section
variable {P : Program} {w : World} {K : PySem.W.Frag} {mg : Str → Option Value} {base : Heap} {C : Addr}
/-! state -/
def state (f : Kp218.Field) : List Int := [0, (f.w : Int), (f.h : Int), (f.bring : Int), (f.take_ : Int), (f.spent : Int)]
def spState (C : Addr) (T : List (Addr × Str)) : Sp := fun vs H Q _ => ∃ (a : Addr) (f : Kp218.Field) (m : Fd), vs = [.ref a] ∧ FAt C H a f m ∧ LamX.Tabs T H ∧ Told T H Q (state f)
theorem ok_state {f : Addr} {fd : FuncData} {k : Nat} (F : Fun K "state" "Field.state" sState f fd) (T : Txt K mg C) {Tb : List (Addr × Str)} : FnOk P w K mg base CX0 (k + 1) f fd ["self"] (spState C Tb) := by
  refine F.ok scState (fun vs H Q E h => ?_) (fun cdv A outer s H vs Q E hr h => ?_)
  · obtain ⟨a, f, m, rfl, _⟩ := h
    rfl
  · obtain ⟨a, f, m, rfl, hf, hT, q⟩ := h
    refine ⟨_, pss_one (ps_ret (pe_lst (pa_cons pe_int (pa_cons (pe_fld (pv 0) rfl) (pa_cons (pe_fld (pv 0) rfl) (pa_cons (pe_fld (pv 0) rfl) (pa_cons (pe_fld (pv 0) rfl) (pa_cons (pe_fld (pv 0) rfl) pa_nil)))))))), ?_⟩
    obtain ⟨dx, ho⟩ := hf.ob
    refine ⟨_, rfl, a, C, dx, _, _, rfl, ho, T.cl, T.a2, fF_w m, _, rfl, a, C, dx, _, _, rfl, ho, T.cl, T.a3, fF_h m, _, rfl, a, C, dx, _, _, rfl, ho, T.cl, T.a4, fF_b m, _, rfl, a, C, dx, _, _, rfl, ho, T.cl, T.a5, fF_t m, _, rfl, a, C, dx, _, _, rfl, ho, T.cl, T.a8, fF_sp m, Evl.sz_of (by simp), ?_⟩
    refine q.lst (LamX.ExtN.refl H) hT ?_
    rw [hf.ew, hf.eh, hf.eb, hf.et, hf.es]; rfl
/-! steep -/
def steep (f : Kp218.Field) (k : Nat) : List Int := (((Kp218.steep f k).length / 2 : Nat) : Int) :: (Kp218.steep f k).map fun (x : Nat) => (x : Int)
def spSteep (C : Addr) (T : List (Addr × Str)) : Sp := fun vs H Q _ => ∃ (a : Addr) (f : Kp218.Field) (m : Fd) (k : Nat), vs = [.ref a, .int (k : Nat)] ∧ FAt C H a f m ∧ LamX.Tabs T H ∧ Told T H Q (steep f k)
theorem ok_steep {f fB : Addr} {fd fdB : FuncData} (F : Fun K "steep" "Field.steep" sSteep f fd) (T : Txt K mg C) (ml : mg "len" = none) (mr : mg "range" = none) (ma : mg "abs" = none) {Tb : List (Addr × Str)}
    (bB : Binds K fdB ["self", "s", "d"] []) (mB : Meth K C "beside" fB) (GB : FnOk P w K mg base CX0 2 fB fdB ["self", "s", "d"] (spBsd C)) : FnOk P w K mg base CX0 3 f fd ["self", "k"] (spSteep C Tb) := by
  refine F.ok scSteep (fun vs H Q E h => ?_) (fun cdv A outer s H vs Q E hr h => ?_)
  · obtain ⟨a, f, m, k, rfl, _⟩ := h
    rfl
  · obtain ⟨a, f, m, k, rfl, hf, hT, q⟩ := h
    refine ⟨_, pss_cons (ps_set (i := 2) scSteep.nd rfl (.inl rfl) (pe_lst pa_nil))
      (pss_cons (ps_for PassesOwn.never rfl (pi_range1 rfl mr (pa_cons (pe_callB call_len_seq (by rfl) ml PySem.boot_len (pa_cons (pe_fld (pv 0) rfl) pa_nil)) pa_nil)) (pg_name (i := 3) scSteep.nd rfl (.inl rfl))
        (pss_one (ps_for PassesOwn.never rfl (pi_tup (pe_tup (pa_cons pe_int (pa_cons pe_int pa_nil)))) (pg_name (i := 4) scSteep.nd rfl (.inl rfl))
          (pss_cons (ps_set (i := 5) scSteep.nd rfl (.inl rfl) (pe_meth (pv 0) T.cl mB GB hr bB .nil pass0 (pa_cons (pv 3) (pa_cons (pv 4) pa_nil))))
          (pss_one (ps_if (PW.pt (pw_and (pt_cmpR op_notN1 (pv 5) pe_non (nomark _)) (pw_and1 (pt_cmpR op_gt (pe_callB call_abs (by rfl) ma (by decide +kernel) (pa_cons (pe_op op_sub (pe_ix ix_list (pe_fld (pv 0) rfl) (pv 3) (fun _ _ => rfl)) (pe_ix ix_list (pe_fld (pv 0) rfl) (pv 5) (fun _ _ => rfl))) pa_nil)) (pv 1) (nomark _)))))
            (pss_one (ps_expr (pe_bm PySem.F.plainAttrs_list PySem.F.slot_list_extend PySem.F.type_list_extend mt_extend (pv 2) (pa_cons (pe_lst (pa_cons (pv 3) (pa_cons (pv 5) pa_nil))) pa_nil)))) pss_nil))))))
      (pss_one (ps_ret (pe_op op_cat (pe_lst (pa_cons (pe_op op_fdiv (pe_callB call_len_seq (by rfl) ml PySem.boot_len (pa_cons (pv 2) pa_nil)) pe_int) pa_nil)) (pv 2))))), ?_⟩
    obtain ⟨dx, ho⟩ := hf.ob
    have hn16 := EM.size16 hf.v
    have hwl : (vN f.want).length = f.w * f.h := by unfold vN; rw [List.length_map, hf.v.q]
    refine ⟨Nat.zero_le _, fun o no => ?_⟩
    have hao : a ≠ o := ne_of_none ho no
    have hwo : m.wa ≠ o := ne_of_none hf.wan no
    refine ⟨_, rfl, a, C, dx, _, _, rfl, by rw [upd_ne hao]; exact ho, T.cl, T.a7, fF_wa m, m.wa, _, rfl, .inl (SqL.of (by rw [upd_ne hwo]; exact hf.wan)), ?_⟩
    rw [hwl]
    refine ⟨_, rfl, by show -2 ^ 62 ≤ ((f.w * f.h : Nat) : Int); omega, by show ((f.w * f.h : Nat) : Int) < 2 ^ 62; omega, for_range (lo := 0) (fun i σ H' => ∃ v3 v4 v5, σ = [some (.ref a), some (.int (k : Nat)), some (.ref o), v3, v4, v5] ∧ Same H H' ∧ LamX.Tabs Tb H' ∧ H' o = some (.lst (vN (EM.steepTo f k i)))) ?_ ?_ ?_⟩
    · exact ⟨none, none, none, rfl, fun b x e => by rw [upd_ne (ne_of_none e no)]; exact e, Tabs.upd hT (.inl no), upd_same⟩
    · rintro i σ H1 hi ⟨v3, v4, v5, rfl, s1, t1, h1⟩
      rw [Int.toNat_natCast] at hi
      have e0 : (0 + (i : Int)) = i := by omega
      rw [e0]
      refine ⟨by show 2 ≤ sizeLine; decide, fun tp ntp => ?_⟩
      have hot : o ≠ tp := ne_of_none h1 ntp
      refine ⟨tp, rfl, ⟨_, SqT.of upd_same⟩, for_tup (K := K) (a := tp) (xs := [.int 1, .int 2]) (fun j σ H' => ∃ v4 v5, σ = [some (.ref a), some (.int (k : Nat)), some (.ref o), some (.int (i : Nat)), v4, v5] ∧ Same H H' ∧ LamX.Tabs Tb H' ∧ H' tp = some (.tup [.int 1, .int 2]) ∧ H' o = some (.lst (vN (steepIn f k i j)))) ?_ ?_ ?_ ?_⟩
      · refine ⟨_, _, rfl, fun b x e => by rw [upd_ne (ne_of_none (s1 _ _ e) ntp)]; exact s1 _ _ e, Tabs.upd t1 (.inl ntp), upd_same, ?_⟩
        rw [upd_ne hot, h1]
        unfold steepIn
        simp
      · rintro j σ H2 _ ⟨v4, v5, rfl, _, _, ht, _⟩
        exact SqT.of ht
      · rintro j x σ H2 hx ⟨v4, v5, rfl, s2, t2, ht, h2⟩
        have hj2 : j < 2 := (List.getElem?_eq_some_iff.1 hx).1
        obtain ⟨d, hd, rfl⟩ : ∃ d : Nat, ([1, 2] : List Nat)[j]? = some d ∧ x = .int (d : Nat) := by
          have : j = 0 ∨ j = 1 := by omega
          rcases this with rfl | rfl
          · exact ⟨1, rfl, (Option.some.inj hx).symm⟩
          · exact ⟨2, rfl, (Option.some.inj hx).symm⟩
        have hmore := steepIn_more f k i j d hd
        have hlen := steepIn_len f k i j (by omega)
        have ho2 := s2 _ _ ho
        have hf2 := hf.same s2
        refine ⟨_, rfl, a, dx, _, rfl, ho2, fF_no m (by decide +kernel), _, rfl, _, rfl, a, f, m, i, d, rfl, hf2, hi, ?_⟩
        cases hb : Kp218.beside f i d with
        | none =>
          have hat : EM.steepAt f k i d = [] := by unfold EM.steepAt; rw [hb]
          rw [hat, List.append_nil] at hmore
          refine ⟨_, rfl, rfl, _, rfl, iteF (iteF ?_)⟩
          refine ⟨_, _, rfl, s2, t2, ht, ?_⟩
          rw [hmore]; exact h2
        | some t =>
          have hat : EM.steepAt f k i d = if k < Kp218.apart (Kp218.wanted f i) (Kp218.wanted f t) then [i, t] else [] := by unfold EM.steepAt; rw [hb]
          obtain ⟨htn, hts, _, _⟩ := EM.beside_sq hf.v hi hb
          have g1 : (vN f.want)[i]? = some (.int (Kp218.wanted f i : Nat)) := vN_at (by rw [hf.v.q]; exact hi)
          have g2 : (vN f.want)[t]? = some (.int (Kp218.wanted f t : Nat)) := vN_at (by rw [hf.v.q]; exact htn)
          have hab := EM.apart_abs (Kp218.wanted f i) (Kp218.wanted f t) k
          refine ⟨_, rfl, rfl, _, rfl, iteT ?_⟩
          refine ⟨_, rfl, a, C, dx, _, _, rfl, ho2, T.cl, T.a7, fF_wa m, _, rfl, m.wa, _, _, _, rfl, rfl, SqL.of hf2.wan, atI_nat g1, _, rfl, a, C, dx, _, _, rfl, ho2, T.cl, T.a7, fF_wa m, _, rfl, m.wa, _, _, _, rfl, rfl, SqL.of hf2.wan, atI_nat g2, _, _, rfl, rfl, _, rfl, _, rfl, _, _, rfl, rfl, _, rfl, ite2 (fun c => ?_) (fun c => ?_)⟩
          · have c' := hab.1 (of_decide_eq_true c)
            rw [hat, if_pos c'] at hmore
            refine ⟨_, rfl, .inl ⟨rfl, _, SqL.of h2⟩, _, rfl, _, rfl, Evl.sz_of (by simp), fun z nz => ?_⟩
            have hzo : o ≠ z := ne_of_none h2 nz
            have hzt : tp ≠ z := ne_of_none ht nz
            have hto : tp ≠ o := hot.symm
            refine ⟨o, z, _, _, rfl, rfl, by rw [upd_ne hzo]; exact h2, upd_same, Evl.sz_of (by unfold vN; rw [List.length_map]; simp; omega), ?_⟩
            refine ⟨_, _, rfl, ?_, Tabs.upd (Tabs.upd t2 (.inl nz)) (.inr ⟨_, by rw [upd_ne hzo]; exact h2⟩), by rw [upd_ne hto, upd_ne hzt]; exact ht, ?_⟩
            · intro b x e
              rw [upd_ne (ne_of_none e no), upd_ne (ne_of_none (s2 _ _ e) nz)]; exact s2 _ _ e
            · rw [upd_same, hmore]
              unfold vN
              rw [List.map_append]; rfl
          · have c' : ¬ k < Kp218.apart (Kp218.wanted f i) (Kp218.wanted f t) := fun z => c (decide_eq_true (hab.2 z))
            rw [hat, if_neg c', List.append_nil] at hmore
            refine ⟨_, _, rfl, s2, t2, ht, ?_⟩
            rw [hmore]; exact h2
      · rintro σ H2 ⟨v4, v5, rfl, s2, t2, ht, h2⟩
        have h2' : H2 o = some (.lst (vN (EM.steepTo f k (i + 1)))) := by rw [← steepIn_end]; exact h2
        exact ⟨_, _, _, rfl, s2, t2, h2'⟩
    · rintro σ H1 ⟨v3, v4, v5, rfl, s1, t1, h1⟩
      rw [Int.toNat_natCast, ← EM.steep_is] at h1
      have hl := EM.steepTo_len f k (f.w * f.h)
      rw [← EM.steep_is] at hl
      unfold steep at q
      generalize Kp218.steep f k = l at h1 hl q
      have hvl : (vN l).length = l.length := by unfold vN; rw [List.length_map]
      refine ⟨_, rfl, o, _, rfl, .inl (SqL.of h1), _, _, rfl, rfl, ⟨by decide, by decide⟩, Evl.sz_of (by simp), fun z nz => ?_⟩
      have hoz : o ≠ z := ne_of_none h1 nz
      refine ⟨_, rfl, z, o, _, _, rfl, rfl, upd_same, by rw [upd_ne hoz]; exact h1, Evl.sz_of (by rw [List.length_singleton, hvl]; omega), ?_⟩
      refine q.lst (LamX.ExtN.of (fun b x e => by rw [upd_ne (ne_of_none (s1 _ _ e) nz)]; exact s1 _ _ e)) (Tabs.upd t1 (.inl nz)) ?_
      rw [hvl, List.map_cons, vN_map]
      have e : (l.length : Int) / 2 = ((l.length / 2 : Nat) : Int) := by omega
      rw [← e]; rfl
end
end Earth
set_option linter.all false
set_option maxRecDepth 100000
set_option maxHeartbeats 4000000
namespace Earth
open PySem PySem.Spec PyProof.Rows L2
theorem scTo : FnScope ["field", "call", "given"] ["field", "call", "given"] (defScope sTo) := ⟨rfl, rfl, rfl, by decide +kernel, rfl, by decide +kernel, by decide +kernel⟩
theorem said_look (f : Kp218.Field) (s : Nat) : EM.said (Kp218.step (some f) (.look s)) = (some f, look f s) := by
  by_cases h : f.w * f.h ≤ s <;> simp [EM.said, Kp218.step, look, h, Kp218.say, Kp218.tell]
theorem said_sums (f : Kp218.Field) : EM.said (Kp218.step (some f) .sums) = (some f, [0, (Kp218.cut f : Int), (Kp218.fill f : Int)]) := rfl
theorem said_least (f : Kp218.Field) : EM.said (Kp218.step (some f) .least) = (some f, [(Kp218.least f : Int)]) := rfl
theorem said_worth (f : Kp218.Field) (s : Nat) : EM.said (Kp218.step (some f) (.worth s)) = (some f, worth f s) := by
  by_cases h : f.w * f.h ≤ s
  · simp [EM.said, Kp218.step, worth, h, Kp218.say]
  · by_cases h2 : 50 ≤ Kp218.wanted f s <;> simp [EM.said, Kp218.step, worth, h, h2, Kp218.say, Kp218.LEVEL]
theorem said_flat (f : Kp218.Field) : EM.said (Kp218.step (some f) .flat) = (some f, flat f) := by
  by_cases h : 9 < f.w * f.h <;> simp [EM.said, Kp218.step, flat, h, Kp218.say, Kp218.tell]
theorem said_wise (f : Kp218.Field) (s d : Nat) : EM.said (Kp218.step (some f) (.wise s d)) = (some f, wise f s d) := by
  by_cases h : f.w * f.h ≤ s
  · simp [EM.said, Kp218.step, wise, h, Kp218.say]
  · by_cases h2 : 3 < d <;> simp [EM.said, Kp218.step, wise, h, h2, Kp218.say]
theorem said_next (f : Kp218.Field) : EM.said (Kp218.step (some f) .next) = (some f, next f) := by
  cases h : Kp218.next f with
  | none => simp [EM.said, Kp218.step, next, h, Kp218.say]
  | some x => simp [EM.said, Kp218.step, next, h, Kp218.tell]
theorem said_done (f : Kp218.Field) : EM.said (Kp218.step (some f) .done) = (some f, [if Kp218.done f then 1 else 0]) := rfl
theorem said_steep (f : Kp218.Field) (k : Nat) : EM.said (Kp218.step (some f) (.steep k)) = (some f, steep f k) := rfl
theorem said_state (f : Kp218.Field) : EM.said (Kp218.step (some f) .state) = (some f, state f) := rfl
section
variable {P : Program} {w : World} {K : PySem.W.Frag} {mg : Str → Option Value} {base : Heap} {C : Addr}
theorem ok_to {f : Addr} {fd : FuncData} (F : Fun K "answer_to" "answer_to" sTo f fd) (T : Txt K mg C) {Tb : List (Addr × Str)}
    {fBE : Addr} {fdBE : FuncData} (bBE : Binds K fdBE ["self", "w", "h", "bring_cost", "take_cost"] []) (mBE : Meth K C "begin" fBE) (GBE : FnOk P w K mg base CX0 2 fBE fdBE ["self", "w", "h", "bring_cost", "take_cost"] (spBegin C Tb))
    {fGR : Addr} {fdGR : FuncData} (bGR : Binds K fdGR ["self", "s", "l"] []) (mGR : Meth K C "ground" fGR) (GGR : FnOk P w K mg base CX0 3 fGR fdGR ["self", "s", "l"] (spGround C Tb))
    {fWA : Addr} {fdWA : FuncData} (bWA : Binds K fdWA ["self", "s", "l"] []) (mWA : Meth K C "want" fWA) (GWA : FnOk P w K mg base CX0 3 fWA fdWA ["self", "s", "l"] (spWant C Tb))
    {fLO : Addr} {fdLO : FuncData} (bLO : Binds K fdLO ["self", "s"] []) (mLO : Meth K C "look" fLO) (GLO : FnOk P w K mg base CX0 2 fLO fdLO ["self", "s"] (spLook C Tb))
    {fSU : Addr} {fdSU : FuncData} (bSU : Binds K fdSU ["self"] []) (mSU : Meth K C "sums" fSU) (GSU : FnOk P w K mg base CX0 2 fSU fdSU ["self"] (spSums C Tb))
    {fLE : Addr} {fdLE : FuncData} (bLE : Binds K fdLE ["self"] []) (mLE : Meth K C "least" fLE) (GLE : FnOk P w K mg base CX0 7 fLE fdLE ["self"] (spLst C Tb))
    {fWO : Addr} {fdWO : FuncData} (bWO : Binds K fdWO ["self", "s"] []) (mWO : Meth K C "worth" fWO) (GWO : FnOk P w K mg base CX0 7 fWO fdWO ["self", "s"] (spWorth C Tb))
    {fFL : Addr} {fdFL : FuncData} (bFL : Binds K fdFL ["self"] []) (mFL : Meth K C "flat" fFL) (GFL : FnOk P w K mg base CX0 6 fFL fdFL ["self"] (spFlat C Tb))
    {fMV : Addr} {fdMV : FuncData} (bMV : Binds K fdMV ["self", "s", "d", "n"] []) (mMV : Meth K C "move" fMV) (GMV : FnOk P w K mg base CX0 3 fMV fdMV ["self", "s", "d", "n"] (spMv C Tb))
    {fBR : Addr} {fdBR : FuncData} (bBR : Binds K fdBR ["self", "n"] []) (mBR : Meth K C "bring" fBR) (GBR : FnOk P w K mg base CX0 2 fBR fdBR ["self", "n"] (spBring C Tb))
    {fTA : Addr} {fdTA : FuncData} (bTA : Binds K fdTA ["self", "n"] []) (mTA : Meth K C "take" fTA) (GTA : FnOk P w K mg base CX0 2 fTA fdTA ["self", "n"] (spTake C Tb))
    {fWI : Addr} {fdWI : FuncData} (bWI : Binds K fdWI ["self", "s", "d"] []) (mWI : Meth K C "wise" fWI) (GWI : FnOk P w K mg base CX0 7 fWI fdWI ["self", "s", "d"] (spWise C Tb))
    {fNE : Addr} {fdNE : FuncData} (bNE : Binds K fdNE ["self"] []) (mNE : Meth K C "next_load" fNE) (GNE : FnOk P w K mg base CX0 7 fNE fdNE ["self"] (spNext C Tb))
    {fDO : Addr} {fdDO : FuncData} (bDO : Binds K fdDO ["self"] []) (mDO : Meth K C "done" fDO) (GDO : FnOk P w K mg base CX0 2 fDO fdDO ["self"] (spDone C Tb))
    {fSP : Addr} {fdSP : FuncData} (bSP : Binds K fdSP ["self", "k"] []) (mSP : Meth K C "steep" fSP) (GSP : FnOk P w K mg base CX0 3 fSP fdSP ["self", "k"] (spSteep C Tb))
    {fSA : Addr} {fdSA : FuncData} (bSA : Binds K fdSA ["self"] []) (mSA : Meth K C "state" fSA) (GSA : FnOk P w K mg base CX0 1 fSA fdSA ["self"] (spState C Tb))
    : FnOk P w K mg base CX0 8 f fd ["field", "call", "given"] (spTo C Tb) := by
  refine F.ok scTo (fun vs H Q E h => ?_) (fun cdv A outer s H vs Q E hr h => ?_)
  · obtain ⟨a, ga, st, m, k, args, rfl, _⟩ := h
    rfl
  · obtain ⟨a, ga, st, m, k, args, rfl, hs, hV, hT, hg, hk, hal, hnn, q⟩ := h
    refine ⟨_, (pss_cons (ps_if (pt_cmpR op_eq (pv 1) pe_int (nomark _)) (pss_one (ps_ret (pe_meth (pv 0) T.cl mBE GBE (hr.mono (by decide)) bBE .nil pass0 (pa_cons (pe_ix ix_list (pv 2) pe_int (fun _ _ => rfl)) (pa_cons (pe_ix ix_list (pv 2) pe_int (fun _ _ => rfl)) (pa_cons (pe_ix ix_list (pv 2) pe_int (fun _ _ => rfl)) (pa_cons (pe_ix ix_list (pv 2) pe_int (fun _ _ => rfl)) pa_nil))))))) pss_nil)
      (pss_cons (ps_if (pt_not (pt_val (pe_fld (pv 0) rfl))) (pss_one (ps_ret (pe_lst (pa_cons (pe_un un_neg pe_int) pa_nil)))) pss_nil)
      (pss_cons (ps_if (pt_cmpR op_eq (pv 1) pe_int (nomark _)) (pss_one (ps_ret (pe_meth (pv 0) T.cl mGR GGR (hr.mono (by decide)) bGR .nil pass0 (pa_cons (pe_ix ix_list (pv 2) pe_int (fun _ _ => rfl)) (pa_cons (pe_ix ix_list (pv 2) pe_int (fun _ _ => rfl)) pa_nil))))) pss_nil)
      (pss_cons (ps_if (pt_cmpR op_eq (pv 1) pe_int (nomark _)) (pss_one (ps_ret (pe_meth (pv 0) T.cl mWA GWA (hr.mono (by decide)) bWA .nil pass0 (pa_cons (pe_ix ix_list (pv 2) pe_int (fun _ _ => rfl)) (pa_cons (pe_ix ix_list (pv 2) pe_int (fun _ _ => rfl)) pa_nil))))) pss_nil)
      (pss_cons (ps_if (pt_cmpR op_eq (pv 1) pe_int (nomark _)) (pss_one (ps_ret (pe_meth (pv 0) T.cl mLO GLO (hr.mono (by decide)) bLO .nil pass0 (pa_cons (pe_ix ix_list (pv 2) pe_int (fun _ _ => rfl)) pa_nil)))) pss_nil)
      (pss_cons (ps_if (pt_cmpR op_eq (pv 1) pe_int (nomark _)) (pss_one (ps_ret (pe_meth0 (pv 0) T.cl mSU GSU (hr.mono (by decide)) bSU .nil pass0))) pss_nil)
      (pss_cons (ps_if (pt_cmpR op_eq (pv 1) pe_int (nomark _)) (pss_one (ps_ret (pe_meth0 (pv 0) T.cl mLE GLE (hr.mono (by decide)) bLE .nil pass0))) pss_nil)
      (pss_cons (ps_if (pt_cmpR op_eq (pv 1) pe_int (nomark _)) (pss_one (ps_ret (pe_meth (pv 0) T.cl mWO GWO (hr.mono (by decide)) bWO .nil pass0 (pa_cons (pe_ix ix_list (pv 2) pe_int (fun _ _ => rfl)) pa_nil)))) pss_nil)
      (pss_cons (ps_if (pt_cmpR op_eq (pv 1) pe_int (nomark _)) (pss_one (ps_ret (pe_meth0 (pv 0) T.cl mFL GFL (hr.mono (by decide)) bFL .nil pass0))) pss_nil)
      (pss_cons (ps_if (pt_cmpR op_eq (pv 1) pe_int (nomark _)) (pss_one (ps_ret (pe_meth (pv 0) T.cl mMV GMV (hr.mono (by decide)) bMV .nil pass0 (pa_cons (pe_ix ix_list (pv 2) pe_int (fun _ _ => rfl)) (pa_cons (pe_ix ix_list (pv 2) pe_int (fun _ _ => rfl)) (pa_cons (pe_ix ix_list (pv 2) pe_int (fun _ _ => rfl)) pa_nil)))))) pss_nil)
      (pss_cons (ps_if (pt_cmpR op_eq (pv 1) pe_int (nomark _)) (pss_one (ps_ret (pe_meth (pv 0) T.cl mBR GBR (hr.mono (by decide)) bBR .nil pass0 (pa_cons (pe_ix ix_list (pv 2) pe_int (fun _ _ => rfl)) pa_nil)))) pss_nil)
      (pss_cons (ps_if (pt_cmpR op_eq (pv 1) pe_int (nomark _)) (pss_one (ps_ret (pe_meth (pv 0) T.cl mTA GTA (hr.mono (by decide)) bTA .nil pass0 (pa_cons (pe_ix ix_list (pv 2) pe_int (fun _ _ => rfl)) pa_nil)))) pss_nil)
      (pss_cons (ps_if (pt_cmpR op_eq (pv 1) pe_int (nomark _)) (pss_one (ps_ret (pe_meth (pv 0) T.cl mWI GWI (hr.mono (by decide)) bWI .nil pass0 (pa_cons (pe_ix ix_list (pv 2) pe_int (fun _ _ => rfl)) (pa_cons (pe_ix ix_list (pv 2) pe_int (fun _ _ => rfl)) pa_nil))))) pss_nil)
      (pss_cons (ps_if (pt_cmpR op_eq (pv 1) pe_int (nomark _)) (pss_one (ps_ret (pe_meth0 (pv 0) T.cl mNE GNE (hr.mono (by decide)) bNE .nil pass0))) pss_nil)
      (pss_cons (ps_if (pt_cmpR op_eq (pv 1) pe_int (nomark _)) (pss_one (ps_ret (pe_meth0 (pv 0) T.cl mDO GDO (hr.mono (by decide)) bDO .nil pass0))) pss_nil)
      (pss_cons (ps_if (pt_cmpR op_eq (pv 1) pe_int (nomark _)) (pss_one (ps_ret (pe_meth (pv 0) T.cl mSP GSP (hr.mono (by decide)) bSP .nil pass0 (pa_cons (pe_ix ix_list (pv 2) pe_int (fun _ _ => rfl)) pa_nil)))) pss_nil)
      (pss_one (ps_ret (pe_meth0 (pv 0) T.cl mSA GSA (hr.mono (by decide)) bSA .nil pass0))))))))))))))))))), ?_⟩
    obtain ⟨dx, ho⟩ := hs.ob
    obtain ⟨xs, rfl⟩ := EM.nat_args args hnn
    rw [List.length_map] at hal
    have hg' : H ga = some (.lst (vN xs)) := by rw [hg, vN_map]
    refine ⟨_, rfl, rfl, _, rfl, ite2 (fun c => ?_) (fun c => ?_)⟩
    · obtain rfl : k = 0 := by have := of_decide_eq_true c; injection this with e; omega
      obtain ⟨x0, x1, x2, x3, rfl⟩ := EM.len4 hal
      have q1 : Acts C Tb H a m Q (EM.said (Kp218.step st (.begin_ x0 x1 x2 x3))).1 (EM.said (Kp218.step st (.begin_ x0 x1 x2 x3))).2 := q
      exact ⟨_, rfl, a, dx, _, rfl, ho, fF_no m (by decide +kernel), _, rfl, ga, _, 0, _, rfl, rfl, SqL.of hg', atI_nat (j := 0) rfl, _, rfl, ga, _, 1, _, rfl, rfl, SqL.of hg', atI_nat (j := 1) rfl, _, rfl, ga, _, 2, _, rfl, rfl, SqL.of hg', atI_nat (j := 2) rfl, _, rfl, ga, _, 3, _, rfl, rfl, SqL.of hg', atI_nat (j := 3) rfl, a, st, m, x0, x1, x2, x3, rfl, hs, hT, q1⟩
    have n0 : k ≠ 0 := fun z => c (decide_eq_true (by rw [z]; rfl))
    cases st with
    | none =>
      have hbe : m.begun = false := hs.2
      have q1 : Acts C Tb H a m Q none [-11] := by
        rw [EM.act_none n0 hk (by rw [List.length_map]; exact hal)] at q
        exact q
      refine ⟨_, rfl, a, C, dx, _, _, rfl, ho, T.cl, T.a1, fF_begun m, _, rfl, ?_⟩
      rw [hbe]
      exact iteT ⟨11, rfl, Evl.sz_of (by simp), (Acts.told (st := none) q1 hs).lst (LamX.ExtN.refl H) hT rfl⟩
    | some f =>
      have hf : FAt C H a f m := hs
      refine ⟨_, rfl, a, C, dx, _, _, rfl, ho, T.cl, T.a1, fF_begun m, _, rfl, ?_⟩
      rw [hf.be]
      refine iteF ?_
      refine ⟨_, rfl, rfl, _, rfl, ite2 (fun c => ?_) (fun c => ?_)⟩
      · obtain rfl : k = 1 := by have := of_decide_eq_true c; injection this with e; omega
        obtain ⟨x0, x1, rfl⟩ := EM.len2 hal
        have q1 : Acts C Tb H a m Q (EM.said (Kp218.step (some f) (.ground x0 x1))).1 (EM.said (Kp218.step (some f) (.ground x0 x1))).2 := q
        exact ⟨_, rfl, a, dx, _, rfl, ho, fF_no m (by decide +kernel), _, rfl, ga, _, 0, _, rfl, rfl, SqL.of hg', atI_nat (j := 0) rfl, _, rfl, ga, _, 1, _, rfl, rfl, SqL.of hg', atI_nat (j := 1) rfl, a, f, m, x0, x1, rfl, hf, hT, q1⟩
      have n1 : k ≠ 1 := fun z => c (decide_eq_true (by rw [z]; rfl))
      refine ⟨_, rfl, rfl, _, rfl, ite2 (fun c => ?_) (fun c => ?_)⟩
      · obtain rfl : k = 2 := by have := of_decide_eq_true c; injection this with e; omega
        obtain ⟨x0, x1, rfl⟩ := EM.len2 hal
        have q1 : Acts C Tb H a m Q (EM.said (Kp218.step (some f) (.want x0 x1))).1 (EM.said (Kp218.step (some f) (.want x0 x1))).2 := q
        exact ⟨_, rfl, a, dx, _, rfl, ho, fF_no m (by decide +kernel), _, rfl, ga, _, 0, _, rfl, rfl, SqL.of hg', atI_nat (j := 0) rfl, _, rfl, ga, _, 1, _, rfl, rfl, SqL.of hg', atI_nat (j := 1) rfl, a, f, m, x0, x1, rfl, hf, hT, q1⟩
      have n2 : k ≠ 2 := fun z => c (decide_eq_true (by rw [z]; rfl))
      refine ⟨_, rfl, rfl, _, rfl, ite2 (fun c => ?_) (fun c => ?_)⟩
      · obtain rfl : k = 3 := by have := of_decide_eq_true c; injection this with e; omega
        obtain ⟨x0, rfl⟩ := EM.len1 hal
        have q1 : Acts C Tb H a m Q (EM.said (Kp218.step (some f) (.look x0))).1 (EM.said (Kp218.step (some f) (.look x0))).2 := q
        rw [said_look] at q1
        have q2 : Told Tb H Q (look f x0) := Acts.told (st := some f) q1 hf
        exact ⟨_, rfl, a, dx, _, rfl, ho, fF_no m (by decide +kernel), _, rfl, ga, _, 0, _, rfl, rfl, SqL.of hg', atI_nat (j := 0) rfl, a, f, m, x0, rfl, hf, hT, q2⟩
      have n3 : k ≠ 3 := fun z => c (decide_eq_true (by rw [z]; rfl))
      refine ⟨_, rfl, rfl, _, rfl, ite2 (fun c => ?_) (fun c => ?_)⟩
      · obtain rfl : k = 4 := by have := of_decide_eq_true c; injection this with e; omega
        obtain rfl := EM.len0 hal
        have q1 : Acts C Tb H a m Q (EM.said (Kp218.step (some f) .sums)).1 (EM.said (Kp218.step (some f) .sums)).2 := q
        rw [said_sums] at q1
        have q2 : Told Tb H Q ([0, (Kp218.cut f : Int), (Kp218.fill f : Int)]) := Acts.told (st := some f) q1 hf
        exact ⟨_, rfl, a, dx, _, rfl, ho, fF_no m (by decide +kernel), a, f, m, rfl, hf, hT, q2⟩
      have n4 : k ≠ 4 := fun z => c (decide_eq_true (by rw [z]; rfl))
      refine ⟨_, rfl, rfl, _, rfl, ite2 (fun c => ?_) (fun c => ?_)⟩
      · obtain rfl : k = 5 := by have := of_decide_eq_true c; injection this with e; omega
        obtain rfl := EM.len0 hal
        have q1 : Acts C Tb H a m Q (EM.said (Kp218.step (some f) .least)).1 (EM.said (Kp218.step (some f) .least)).2 := q
        rw [said_least] at q1
        have q2 : Told Tb H Q ([(Kp218.least f : Int)]) := Acts.told (st := some f) q1 hf
        exact ⟨_, rfl, a, dx, _, rfl, ho, fF_no m (by decide +kernel), a, f, m, rfl, hf, hT, q2⟩
      have n5 : k ≠ 5 := fun z => c (decide_eq_true (by rw [z]; rfl))
      refine ⟨_, rfl, rfl, _, rfl, ite2 (fun c => ?_) (fun c => ?_)⟩
      · obtain rfl : k = 6 := by have := of_decide_eq_true c; injection this with e; omega
        obtain ⟨x0, rfl⟩ := EM.len1 hal
        have q1 : Acts C Tb H a m Q (EM.said (Kp218.step (some f) (.worth x0))).1 (EM.said (Kp218.step (some f) (.worth x0))).2 := q
        rw [said_worth] at q1
        have q2 : Told Tb H Q (worth f x0) := Acts.told (st := some f) q1 hf
        exact ⟨_, rfl, a, dx, _, rfl, ho, fF_no m (by decide +kernel), _, rfl, ga, _, 0, _, rfl, rfl, SqL.of hg', atI_nat (j := 0) rfl, a, f, m, x0, rfl, hf, hT, q2⟩
      have n6 : k ≠ 6 := fun z => c (decide_eq_true (by rw [z]; rfl))
      refine ⟨_, rfl, rfl, _, rfl, ite2 (fun c => ?_) (fun c => ?_)⟩
      · obtain rfl : k = 7 := by have := of_decide_eq_true c; injection this with e; omega
        obtain rfl := EM.len0 hal
        have q1 : Acts C Tb H a m Q (EM.said (Kp218.step (some f) .flat)).1 (EM.said (Kp218.step (some f) .flat)).2 := q
        rw [said_flat] at q1
        have q2 : Told Tb H Q (flat f) := Acts.told (st := some f) q1 hf
        exact ⟨_, rfl, a, dx, _, rfl, ho, fF_no m (by decide +kernel), a, f, m, rfl, hf, hT, q2⟩
      have n7 : k ≠ 7 := fun z => c (decide_eq_true (by rw [z]; rfl))
      refine ⟨_, rfl, rfl, _, rfl, ite2 (fun c => ?_) (fun c => ?_)⟩
      · obtain rfl : k = 8 := by have := of_decide_eq_true c; injection this with e; omega
        obtain ⟨x0, x1, x2, rfl⟩ := EM.len3 hal
        have q1 : Acts C Tb H a m Q (EM.said (Kp218.step (some f) (.move x0 x1 x2))).1 (EM.said (Kp218.step (some f) (.move x0 x1 x2))).2 := q
        exact ⟨_, rfl, a, dx, _, rfl, ho, fF_no m (by decide +kernel), _, rfl, ga, _, 0, _, rfl, rfl, SqL.of hg', atI_nat (j := 0) rfl, _, rfl, ga, _, 1, _, rfl, rfl, SqL.of hg', atI_nat (j := 1) rfl, _, rfl, ga, _, 2, _, rfl, rfl, SqL.of hg', atI_nat (j := 2) rfl, a, f, m, x0, x1, x2, rfl, hf, hT, q1⟩
      have n8 : k ≠ 8 := fun z => c (decide_eq_true (by rw [z]; rfl))
      refine ⟨_, rfl, rfl, _, rfl, ite2 (fun c => ?_) (fun c => ?_)⟩
      · obtain rfl : k = 9 := by have := of_decide_eq_true c; injection this with e; omega
        obtain ⟨x0, rfl⟩ := EM.len1 hal
        have q1 : Acts C Tb H a m Q (EM.said (Kp218.step (some f) (.bring x0))).1 (EM.said (Kp218.step (some f) (.bring x0))).2 := q
        exact ⟨_, rfl, a, dx, _, rfl, ho, fF_no m (by decide +kernel), _, rfl, ga, _, 0, _, rfl, rfl, SqL.of hg', atI_nat (j := 0) rfl, a, f, m, x0, rfl, hf, hT, q1⟩
      have n9 : k ≠ 9 := fun z => c (decide_eq_true (by rw [z]; rfl))
      refine ⟨_, rfl, rfl, _, rfl, ite2 (fun c => ?_) (fun c => ?_)⟩
      · obtain rfl : k = 10 := by have := of_decide_eq_true c; injection this with e; omega
        obtain ⟨x0, rfl⟩ := EM.len1 hal
        have q1 : Acts C Tb H a m Q (EM.said (Kp218.step (some f) (.take_ x0))).1 (EM.said (Kp218.step (some f) (.take_ x0))).2 := q
        exact ⟨_, rfl, a, dx, _, rfl, ho, fF_no m (by decide +kernel), _, rfl, ga, _, 0, _, rfl, rfl, SqL.of hg', atI_nat (j := 0) rfl, a, f, m, x0, rfl, hf, hT, q1⟩
      have n10 : k ≠ 10 := fun z => c (decide_eq_true (by rw [z]; rfl))
      refine ⟨_, rfl, rfl, _, rfl, ite2 (fun c => ?_) (fun c => ?_)⟩
      · obtain rfl : k = 11 := by have := of_decide_eq_true c; injection this with e; omega
        obtain ⟨x0, x1, rfl⟩ := EM.len2 hal
        have q1 : Acts C Tb H a m Q (EM.said (Kp218.step (some f) (.wise x0 x1))).1 (EM.said (Kp218.step (some f) (.wise x0 x1))).2 := q
        rw [said_wise] at q1
        have q2 : Told Tb H Q (wise f x0 x1) := Acts.told (st := some f) q1 hf
        exact ⟨_, rfl, a, dx, _, rfl, ho, fF_no m (by decide +kernel), _, rfl, ga, _, 0, _, rfl, rfl, SqL.of hg', atI_nat (j := 0) rfl, _, rfl, ga, _, 1, _, rfl, rfl, SqL.of hg', atI_nat (j := 1) rfl, a, f, m, x0, x1, rfl, hf, hT, q2⟩
      have n11 : k ≠ 11 := fun z => c (decide_eq_true (by rw [z]; rfl))
      refine ⟨_, rfl, rfl, _, rfl, ite2 (fun c => ?_) (fun c => ?_)⟩
      · obtain rfl : k = 12 := by have := of_decide_eq_true c; injection this with e; omega
        obtain rfl := EM.len0 hal
        have q1 : Acts C Tb H a m Q (EM.said (Kp218.step (some f) .next)).1 (EM.said (Kp218.step (some f) .next)).2 := q
        rw [said_next] at q1
        have q2 : Told Tb H Q (next f) := Acts.told (st := some f) q1 hf
        exact ⟨_, rfl, a, dx, _, rfl, ho, fF_no m (by decide +kernel), a, f, m, rfl, hf, hT, q2⟩
      have n12 : k ≠ 12 := fun z => c (decide_eq_true (by rw [z]; rfl))
      refine ⟨_, rfl, rfl, _, rfl, ite2 (fun c => ?_) (fun c => ?_)⟩
      · obtain rfl : k = 13 := by have := of_decide_eq_true c; injection this with e; omega
        obtain rfl := EM.len0 hal
        have q1 : Acts C Tb H a m Q (EM.said (Kp218.step (some f) .done)).1 (EM.said (Kp218.step (some f) .done)).2 := q
        rw [said_done] at q1
        have q2 : Told Tb H Q ([if Kp218.done f then 1 else 0]) := Acts.told (st := some f) q1 hf
        exact ⟨_, rfl, a, dx, _, rfl, ho, fF_no m (by decide +kernel), a, f, m, rfl, hf, hT, q2⟩
      have n13 : k ≠ 13 := fun z => c (decide_eq_true (by rw [z]; rfl))
      refine ⟨_, rfl, rfl, _, rfl, ite2 (fun c => ?_) (fun c => ?_)⟩
      · obtain rfl : k = 14 := by have := of_decide_eq_true c; injection this with e; omega
        obtain ⟨x0, rfl⟩ := EM.len1 hal
        have q1 : Acts C Tb H a m Q (EM.said (Kp218.step (some f) (.steep x0))).1 (EM.said (Kp218.step (some f) (.steep x0))).2 := q
        rw [said_steep] at q1
        have q2 : Told Tb H Q (steep f x0) := Acts.told (st := some f) q1 hf
        exact ⟨_, rfl, a, dx, _, rfl, ho, fF_no m (by decide +kernel), _, rfl, ga, _, 0, _, rfl, rfl, SqL.of hg', atI_nat (j := 0) rfl, a, f, m, x0, rfl, hf, hT, q2⟩
      have n14 : k ≠ 14 := fun z => c (decide_eq_true (by rw [z]; rfl))
      obtain rfl : k = 15 := by omega
      obtain rfl := EM.len0 hal
      have q1 : Acts C Tb H a m Q (EM.said (Kp218.step (some f) .state)).1 (EM.said (Kp218.step (some f) .state)).2 := q
      rw [said_state] at q1
      have q2 : Told Tb H Q (state f) := Acts.told (st := some f) q1 hf
      exact ⟨_, rfl, a, dx, _, rfl, ho, fF_no m (by decide +kernel), a, f, m, rfl, hf, hT, q2⟩
end
end Earth
set_option linter.all false
set_option maxRecDepth 100000
set_option maxHeartbeats 4000000
/-! The end of a row whose defs make key functions: what is handed in is one list of whole numbers; the tables of code are told from the start. -/
namespace Ending
open PySem PySem.Spec PyProof.Rows L2
open PySem.W (OpenSpec Codec WData WellAll ReadsW)
/-- the arguments as told, and the tables, empty -/
def withTabs (H : Hp) (ts : List Addr) : Hp := fun b => if b ∈ ts then some (.tbl #[]) else H b
theorem withTabs_in {H : Hp} {ts : List Addr} {b : Addr} (h : b ∈ ts) : withTabs H ts b = some (.tbl #[]) := if_pos h
theorem withTabs_out {H : Hp} {ts : List Addr} {b : Addr} (h : b ∉ ts) : withTabs H ts b = H b := if_neg h
section
variable {P : Program} {w : World} {K : PySem.W.Frag} {mg mb : Str → Option Value} {CX : CXT} {k : Nat} {fa : Addr} {fd : FuncData} {ps : List Str} {sp : Sp} {s1 : Shared}
theorem run_tabs {vals : List Value} {ns : List Int} {R : PySem.W.WRecords} {cl : Str → Option Addr} {d0 : WData} (cs : List (Addr × Addr))
    (KX : K.In s1.heap) (hns : s1.heap.Ns mainGlobals mg) (hb : s1.heap.Ns builtinsNs mb) (hbb : ∀ x : Str, x ≠ "__name__" → mb x = bootBuiltins x) (hlim : s1.heap.NoLimit) (hg : s1.gens = #[])
    (hT : ∀ p ∈ cs, s1.heap.get? p.2 = some (PySem.W.tabObj #[])) (nT : ∀ p ∈ cs, K.lookup p.2 = none) (C : ∀ p ∈ cs, PySem.W.CodeHd s1.heap p.1 p.2)
    (hbm : ∃ (bm : Addr) (ob : Obj), mg "__builtins__" = some (.ref bm) ∧ bm ≠ builtinsNs ∧ s1.heap.get? bm = some ob ∧ ob.cls = .type "module" ∧ ob.dict = some builtinsNs ∧ ob.data = .plain)
    (hwl : WellAll w.params s1.heap vals [.list (ns.map WData.int)]) (hpl : plWs [.list (ns.map WData.int)] = true) (hwt : ∀ d ∈ [WData.list (ns.map WData.int)], d.weight ≤ 1048576) (hr : Room k callerA) (hone : ps.length = 1)
    (F : ∀ base : Heap, K.In base → base.Ns mainGlobals mg → (∀ p ∈ cs, LamX.TabB base mg p.1 p.2) → FnOk P w K mg base CX k fa fd ps sp)
    (hbind : ∀ (s : Shared) (us : List Value), us.length = ps.length → BindsTo s fd ⟨us, []⟩ (ps.zip us))
    (hsp : ∀ (H : Hp) (a : Addr), (∀ p ∈ cs, H p.2 = some (.tbl #[])) → SqL K H a (ns.map V.int) → sp [.ref a] H (fun v H' => Dw K H' v d0) fun _ _ _ => False)
    (hCX : ∀ H e s', CX [] H s1 (fun _ _ _ => False) e s' → False) :
    codeAny (model P w) callerA (.call (.ref fa) ⟨vals, []⟩) (fun r s' => ∃ u as, r = .ok (.ret u) ∧ ReadsW R cl s'.heap u d0 as ∧ OldK s1.heap s'.heap ∧ s'.os = s1.os ∧ AllBare s'.gens) s1 := by
  obtain ⟨A, hA, ar⟩ := area_all _ vals hwl hpl hwt
  have hS := dw_all KX ar _ vals hwl hpl hA
  have hV := vals_toV hA
  have hok0 : HOk P w (argH K s1.heap A) s1.heap := argH_ok ar
  have only : ∀ {b : Addr} {u : HO}, argH K s1.heap A b = some u → K.lookup b = none ∧ ∃ (c : Value) (vs : Array Value) (v : HO), s1.heap.get? b = some { cls := c, data := .seq vs } ∧ u = .frz { cls := c, data := .seq vs } v := fun {b u} q => by
    obtain ⟨h1, vs, _, _, ⟨e, e2⟩ | ⟨e, e2⟩⟩ := argH_is ar q
    · exact ⟨h1, _, _, _, e, e2⟩
    · exact ⟨h1, _, _, _, e, e2⟩
  generalize argH K s1.heap A = H0 at hS hok0 only
  have tabs : ∀ {b : Addr}, b ∈ cs.map (·.2) → s1.heap.get? b = some (PySem.W.tabObj #[]) ∧ K.lookup b = none ∧ H0 b = none := fun {b} hbm => by
    obtain ⟨p, hp, rfl⟩ := List.mem_map.mp hbm
    refine ⟨hT p hp, nT p hp, ?_⟩
    cases q : H0 p.2 with
    | none => rfl
    | some u =>
      obtain ⟨_, c, vs, v, e, _⟩ := only q
      rw [hT p hp] at e
      cases e
  have isIn : ∀ p ∈ cs, p.2 ∈ cs.map (·.2) := fun p hp => List.mem_map.mpr ⟨p, hp, rfl⟩
  -- what is told: the list, the tables
  have told : ∀ {b : Addr} {u : HO}, withTabs H0 (cs.map (·.2)) b = some u → K.lookup b = none ∧ (∃ o, s1.heap.get? b = some o ∧ (∀ es ep, o.data ≠ .dict es ep) ∧ o.data ≠ .plain ∧ (∀ vs, o.data = .fields vs → vs = #[])) := fun {b u} q => by
    by_cases hbt : b ∈ cs.map (·.2)
    · obtain ⟨h1, h2, _⟩ := tabs hbt
      exact ⟨h2, _, h1, (fun es ep z => by cases z), (fun z => by cases z), (fun vs z => by cases z; rfl)⟩
    · rw [withTabs_out hbt] at q
      obtain ⟨h1, c, vs, v, e, _⟩ := only q
      exact ⟨h1, _, e, (fun es ep z => by cases z), (fun z => by cases z), (fun vs z => by cases z)⟩
  have hok : HOk P w (withTabs H0 (cs.map (·.2))) s1.heap := fun b u q => by
    by_cases hbt : b ∈ cs.map (·.2)
    · rw [withTabs_in hbt] at q
      cases q
      exact (tabs hbt).1
    · rw [withTabs_out hbt] at q
      refine (hok0 b u q).stay (fun d v _ e => e) (fun d e => ?_) (fun d xs e => ?_)
      · obtain ⟨_, _, _, _, _, z⟩ := only e; cases z
      · obtain ⟨_, _, _, _, _, z⟩ := only e; cases z
  generalize hH : withTabs H0 (cs.map (·.2)) = H at told hok
  have open_ : ∀ {b : Addr} {o : Obj}, s1.heap.get? b = some o → H b = none → (hidT s1.heap H).get? b = some o := fun e n => hidT_get e n
  have besides : ∀ {b : Addr} {o : Obj}, s1.heap.get? b = some o → ((∃ es ep, o.data = .dict es ep) ∨ o.data = .plain ∨ (∃ vs, o.data = .fields vs ∧ vs ≠ #[])) → H b = none := fun {b o} e hd => by
    cases q : H b with
    | none => rfl
    | some u =>
      obtain ⟨_, o', e', h1, h2, h3⟩ := told q
      rw [e] at e'
      cases e'
      rcases hd with ⟨es, ep, z⟩ | z | ⟨vs, z, z2⟩
      · exact absurd z (h1 es ep)
      · exact absurd z h2
      · exact absurd (h3 vs z) z2
  have names : ∀ {b : Addr} {m : Str → Option Value}, s1.heap.Ns b m → (hidT s1.heap H).Ns b m := fun {b m} ⟨o, es, ep, e, d, r⟩ => ⟨o, es, ep, open_ e (besides e (.inl ⟨es, ep, d⟩)), d, r⟩
  have inK : ∀ b o, K.lookup b = some o → H b = none := fun b o e => by
    cases q : H b with
    | none => rfl
    | some u =>
      rw [(told q).1] at e
      cases e
  have KB : K.In (hidT s1.heap H) := fun b o e => open_ (KX b o e) (inK b o e)
  have M : Mod K mg (hidT s1.heap H) := ⟨KB, names hns, ⟨mb, names hb, hbb⟩, by obtain ⟨mc, h1, h2⟩ := hlim; exact ⟨mc, names h1, h2⟩⟩
  have TB : ∀ p ∈ cs, LamX.TabB (hidT s1.heap H) mg p.1 p.2 := fun p hp => by
    have ht := hT p hp
    refine ⟨?_, ?_, fun z => ?_⟩
    · obtain ⟨o, us, file, tf, flags, tg, inF, text, tt, e1, r1, r2, r3, r4⟩ := C p hp
      refine ⟨o, us, file, tf, flags, tg, inF, text, tt, open_ e1 (besides e1 (.inr (.inr ⟨us, r2, fun z => ?_⟩))), r1, r2, r3, r4⟩
      rw [z] at r3; simp at r3
    · obtain ⟨bm, ob, b1, b2, b3, b4, b5, b6⟩ := hbm
      refine ⟨bm, ob, b1, b2, fun q => ?_, fun q => ?_, open_ b3 (besides b3 (.inr (.inl b6))), b4, b5, b6⟩
      · obtain ⟨o, es, ep, e, hd, _⟩ := hns
        rw [q, e] at b3; cases b3
        rw [hd] at b6; cases b6
      · rw [q, ht] at b3; cases b3; cases b6
    · obtain ⟨o, es, ep, e, hd, _⟩ := hns
      rw [z, ht] at e; cases e; cases hd
  have hE : Env0 P w K mg (hidT s1.heap H) callerA [] s1 H := ⟨rfl, M, fun b o e => of_hidT e, Nat.le_of_eq (hidT_size _ _), trivial, (fun b hb => nomatch hb), hok, .of_eq hg⟩
  -- the list that is handed in
  obtain ⟨a, hval, hsq⟩ : ∃ a, vals.map toV = [V.ref a] ∧ SqL K H a (ns.map V.int) := by
    generalize vals.map toV = vv at hS
    cases hS with
    | cons h1 h2 =>
      cases h2
      cases h1 with
      | lst hs hd =>
        rename_i a xs
        have e := ints_dw ns xs hd
        subst e
        refine ⟨a, rfl, ?_⟩
        rcases hs with (h3 | ⟨o, h3⟩) | h3
        · obtain ⟨_, _, _, _, _, z⟩ := only h3; cases z
        · refine .inl (.inr ⟨o, ?_⟩)
          rw [← hH, withTabs_out (fun z => ?_)]
          · exact h3
          · rw [(tabs z).2.2] at h3; cases h3
        · exact .inr h3
  have hl : vals.length = ps.length := by
    have := congrArg List.length hval
    rw [List.length_map] at this
    rw [this, hone]; rfl
  refine codeAny_mono ((F _ KB (names hns) TB).run callerA [] s1 H ⟨vals, []⟩ vals (vals.map toV) _ _ hr hE (hbind s1 vals hl) hV (by rw [hval]; exact hsp H a (fun p hp => by rw [← hH]; exact withTabs_in (isIn p hp)) hsq)) fun r s' x => ?_
  cases r with
  | error e => exact (hCX H e s' x).elim
  | ok fl =>
    cases fl with
    | next => exact False.elim x
    | brk => exact False.elim x
    | cont => exact False.elim x
    | ret u =>
      obtain ⟨v, H', os, bare, un, hok', rel, q⟩ := x
      have stays : ∀ b o, b ∉ cs.map (·.2) → s1.heap.get? b = some o → s'.heap.get? b = some o := fun b o nb e => by
        cases q2 : H b with
        | none => exact un.keep b o e q2 (fun z => nomatch z) (fun z => nomatch z)
        | some u2 =>
          have q3 := q2
          rw [← hH, withTabs_out nb] at q3
          obtain ⟨_, c, vs, v3, e3, rfl⟩ := only q3
          have q4 := un.frzs b _ _ q2
          obtain ⟨e5, _⟩ := hok' b _ q4
          rw [e] at e3; cases e3
          exact e5
      have grown : ∀ p ∈ cs, ∃ more : Array Value, s'.heap.get? p.2 = some (PySem.W.tabObj more) := fun p hp => by
        obtain ⟨more, z⟩ := un.tbls p.2 #[] (by rw [← hH]; exact withTabs_in (isIn p hp))
        exact ⟨_, hok' p.2 _ z⟩
      have KX' : K.In s'.heap := fun b o e => stays b o (fun z => by rw [(tabs z).2.1] at e; cases e) (KX b o e)
      obtain ⟨as, hrd⟩ := Dw.reads (R := R) (cl := cl) hok' KX' d0 v u q rel
      refine ⟨u, as, rfl, hrd, ⟨fun b o e => ?_, fun b o e => ?_⟩, os, bare⟩
      · by_cases hbt : b ∈ cs.map (·.2)
        · obtain ⟨p, hp, rfl⟩ := List.mem_map.mp hbt
          obtain ⟨more, hm⟩ := grown p hp
          rw [hT p hp] at e
          cases e
          exact .inr (.inl ⟨((C p hp).tab (hT p hp)).isCodeTable, rfl, #[], more, rfl, by rw [Array.empty_append]; exact hm⟩)
        · exact .inl (stays b o hbt e)
      · by_cases hbt : b ∈ cs.map (·.2)
        · obtain ⟨p, hp, rfl⟩ := List.mem_map.mp hbt
          obtain ⟨more, hm⟩ := grown p hp
          exact ⟨_, hm⟩
        · exact ⟨o, stays b o hbt e⟩
end
/-- from the promise of the row's def to the row, where the tables cs are told: what is handed in is one list of whole numbers -/
theorem walk_tabs {r : OpenSpec} {k : Nat} {q : Program} {loose : List Str} {XP : (Str → Option Value) → Heap → Prop} {YP : World → Heap → Prop} {d : DefRec} {K : Params → PySem.W.Frag} {CX : CXT} {x1 : Str} {sp : PySem.W.Frag → Sp}
    (cs : List (Addr × Addr)) (numsOf : Codec.denoteAll r.args → List Int) (henc : ∀ a, Codec.encAll r.args a = [WData.list ((numsOf a).map WData.int)])
    (hwell : r.wellSaid = true) (hr : Room k callerA) (hY : ∀ (w : World) (h : Heap), YP w h → (K w.params).In h)
    (F : ∀ (w : World) (mg : Str → Option Value) (fa : Addr) (h : Heap), YP w h → (K w.params).In h → h.Ns mainGlobals mg → mg d.name = some (.ref fa) →
      (∀ (x : Str) (e : DefRec) (c P : Addr), (recsOf q).find? (fun e => e.name == x) = some e → PySem.W.tabIn (K w.params) x = some (c, P) → PySem.W.CodeHd h c P ∧ h.get? P = some (PySem.W.tabObj #[])) →
      (∀ p ∈ cs, h.get? p.2 = some (PySem.W.tabObj #[])) ∧ (∀ p ∈ cs, (K w.params).lookup p.2 = none) ∧ (∀ p ∈ cs, PySem.W.CodeHd h p.1 p.2) ∧
      ∃ fd : FuncData, (∀ (s : Shared) (us : List Value), us.length = 1 → BindsTo s fd ⟨us, []⟩ ([x1].zip us)) ∧
        ∀ base : Heap, (K w.params).In base → base.Ns mainGlobals mg → (∀ p ∈ cs, LamX.TabB base mg p.1 p.2) → FnOk r.prog w (K w.params) mg base CX k fa fd [x1] (sp (K w.params)))
    (hsp : ∀ (K : PySem.W.Frag) (H : Hp) (b : Addr) (a : Codec.denoteAll r.args), (∀ p ∈ cs, H p.2 = some (.tbl #[])) → Codec.withinAll r.args a = true → Codec.app r.args r.asked a = true → SqL K H b ((numsOf a).map V.int) →
      sp K [.ref b] H (fun v H' => Dw K H' v (r.ret.enc (Codec.app r.args r.f a))) fun _ _ _ => False)
    (hCX : ∀ (H : Hp) (s : Shared) (e : Value) (s' : Shared), CX [] H s (fun _ _ _ => False) e s' → False) :
    PySem.W.WalkOS q loose XP YP r d [] (fun f vs => PySem.call f vs) := by
  intro w s0 s1 mg mb G Y fa o pm cd doc dV kV ho hd hcd hD hmg hg args vals as hpre hlay hrd hwl hlo
  obtain ⟨a, e1, e2⟩ := PySem.W.os_pre_some hpre
  obtain ⟨e3, hwi⟩ := Codec.encAll_of_decAll r.args args a e1
  subst e3
  have KX := hY w _ Y
  obtain ⟨hT, nT, C, fd, hbind, hF⟩ := F w mg fa _ Y KX G.T.g hmg (fun x e c P h1 h2 => PySem.W.tab_of G.T KX h1 h2)
  have hpl := pl_encAll r.args a
  have hwt := layable_weight hlay
  rw [henc a] at hwl hpl hwt
  refine PySem.W.enter_call (codeAny_mono (run_tabs (R := []) (cl := classAt s0.heap) (d0 := r.ret.enc (Codec.app r.args r.f a)) cs KX G.T.g G.T.b G.T.builtins G.T.nolimit hg hT nT C G.T.bmain hwl hpl hwt hr rfl hF hbind
    (fun H b h1 h2 => hsp (K w.params) H b a h1 hwi e2 h2) fun H e s' => hCX H s1 e s') fun r' s' hq => ?_)
  obtain ⟨u, as', rfl, h1, h2, h3, h4⟩ := hq
  exact ⟨.inl ⟨u, _, as', rfl, fun _ => rfl, h1, (OpenSpec.post_iff hwell hwi _ _).mpr rfl, fun z => nomatch z⟩, h2, h3, h4⟩
end Ending
set_option linter.all false
set_option maxRecDepth 100000
set_option maxHeartbeats 4000000
namespace Earth
open PySem PySem.Spec PyProof.Rows L2
theorem all_mk {P : Program} {w : World} {K : PySem.W.Frag} {h : Heap} {mg : Str → Option Value} {fa C aT : Addr} {cW pW : Addr} (X : K.In h) (G : h.Ns mainGlobals mg) (hfa : mg "answers" = some (.ref fa))
    {fSQ : Addr} {odSQ anSQ : Option Addr} {slSQ : Array (Option Value)} {ocSQ kVSQ dcSQ pmSQ cdSQ ctSQ : Value}
    {fSB : Addr} {odSB anSB : Option Addr} {slSB : Array (Option Value)} {ocSB kVSB dcSB pmSB cdSB ctSB : Value}
    {fLC : Addr} {odLC anLC : Option Addr} {slLC : Array (Option Value)} {ocLC kVLC dcLC pmLC cdLC ctLC : Value}
    {fMC : Addr} {odMC anMC : Option Addr} {slMC : Array (Option Value)} {ocMC kVMC dcMC pmMC cdMC ctMC : Value}
    {fST : Addr} {odST anST : Option Addr} {slST : Array (Option Value)} {ocST kVST dcST pmST cdST ctST : Value}
    {fCS : Addr} {odCS anCS : Option Addr} {slCS : Array (Option Value)} {ocCS kVCS dcCS pmCS cdCS ctCS : Value}
    {fWN : Addr} {odWN anWN : Option Addr} {slWN : Array (Option Value)} {ocWN kVWN dcWN pmWN ctWN : Value}
    {fSE : Addr} {odSE anSE : Option Addr} {slSE : Array (Option Value)} {ocSE kVSE dcSE pmSE cdSE ctSE : Value}
    {fEX : Addr} {odEX anEX : Option Addr} {slEX : Array (Option Value)} {ocEX kVEX dcEX pmEX cdEX ctEX : Value}
    {fFR : Addr} {odFR anFR : Option Addr} {slFR : Array (Option Value)} {ocFR kVFR dcFR pmFR cdFR ctFR : Value}
    {fTO : Addr} {odTO anTO : Option Addr} {slTO : Array (Option Value)} {ocTO kVTO dcTO pmTO cdTO ctTO : Value}
    {fAN : Addr} {odAN anAN : Option Addr} {slAN : Array (Option Value)} {ocAN kVAN dcAN pmAN cdAN ctAN : Value}
    {fIN : Addr} {odIN anIN : Option Addr} {slIN : Array (Option Value)} {ocIN kVIN dcIN pmIN cdIN ctIN : Value}
    {fBE : Addr} {odBE anBE : Option Addr} {slBE : Array (Option Value)} {ocBE kVBE dcBE pmBE cdBE ctBE : Value}
    {fGR : Addr} {odGR anGR : Option Addr} {slGR : Array (Option Value)} {ocGR kVGR dcGR pmGR cdGR ctGR : Value}
    {fWA : Addr} {odWA anWA : Option Addr} {slWA : Array (Option Value)} {ocWA kVWA dcWA pmWA cdWA ctWA : Value}
    {fSH : Addr} {odSH anSH : Option Addr} {slSH : Array (Option Value)} {ocSH kVSH dcSH pmSH cdSH ctSH : Value}
    {fLO : Addr} {odLO anLO : Option Addr} {slLO : Array (Option Value)} {ocLO kVLO dcLO pmLO cdLO ctLO : Value}
    {fSU : Addr} {odSU anSU : Option Addr} {slSU : Array (Option Value)} {ocSU kVSU dcSU pmSU cdSU ctSU : Value}
    {fLE : Addr} {odLE anLE : Option Addr} {slLE : Array (Option Value)} {ocLE kVLE dcLE pmLE cdLE ctLE : Value}
    {fWO : Addr} {odWO anWO : Option Addr} {slWO : Array (Option Value)} {ocWO kVWO dcWO pmWO cdWO ctWO : Value}
    {fFL : Addr} {odFL anFL : Option Addr} {slFL : Array (Option Value)} {ocFL kVFL dcFL pmFL cdFL ctFL : Value}
    {fMV : Addr} {odMV anMV : Option Addr} {slMV : Array (Option Value)} {ocMV kVMV dcMV pmMV cdMV ctMV : Value}
    {fBR : Addr} {odBR anBR : Option Addr} {slBR : Array (Option Value)} {ocBR kVBR dcBR pmBR cdBR ctBR : Value}
    {fTA : Addr} {odTA anTA : Option Addr} {slTA : Array (Option Value)} {ocTA kVTA dcTA pmTA cdTA ctTA : Value}
    {fWI : Addr} {odWI anWI : Option Addr} {slWI : Array (Option Value)} {ocWI kVWI dcWI pmWI cdWI ctWI : Value}
    {fNE : Addr} {odNE anNE : Option Addr} {slNE : Array (Option Value)} {ocNE kVNE dcNE pmNE cdNE ctNE : Value}
    {fDO : Addr} {odDO anDO : Option Addr} {slDO : Array (Option Value)} {ocDO kVDO dcDO pmDO cdDO ctDO : Value}
    {fSP : Addr} {odSP anSP : Option Addr} {slSP : Array (Option Value)} {ocSP kVSP dcSP pmSP cdSP ctSP : Value}
    {fSA : Addr} {odSA anSA : Option Addr} {slSA : Array (Option Value)} {ocSA kVSA dcSA pmSA cdSA ctSA : Value}
    {fHA : Addr} {odHA anHA : Option Addr} {slHA : Array (Option Value)} {ocHA kVHA dcHA pmHA cdHA ctHA : Value}
    {fBS : Addr} {odBS anBS : Option Addr} {slBS : Array (Option Value)} {ocBS kVBS dcBS pmBS cdBS ctBS : Value}
    {fPD : Addr} {odPD anPD : Option Addr} {slPD : Array (Option Value)} {ocPD kVPD dcPD pmPD cdPD ctPD : Value}
    {fID : Addr} {odID anID : Option Addr} {slID : Array (Option Value)} {ocID kVID dcID pmID cdID ctID : Value}
    {fIM : Addr} {odIM anIM : Option Addr} {slIM : Array (Option Value)} {ocIM kVIM dcIM pmIM cdIM ctIM : Value}
    {fIB : Addr} {odIB anIB : Option Addr} {slIB : Array (Option Value)} {ocIB kVIB dcIB pmIB cdIB ctIB : Value}
    {fCL : Addr} {odCL anCL : Option Addr} {slCL : Array (Option Value)} {ocCL kVCL dcCL pmCL cdCL ctCL : Value}
    {fCO : Addr} {odCO anCO : Option Addr} {slCO : Array (Option Value)} {ocCO kVCO dcCO pmCO cdCO ctCO : Value}
    {tk0 : Tok} {tk1 : Tok} {tk2 : Tok} {tk3 : Tok} {tk4 : Tok} {tk5 : Tok} {tk6 : Tok} {tk7 : Tok}
    (aC : PySem.W.nsIn K mainGlobals "Field" = some (some (.ref C)))
    (aSQ : PySem.W.nsIn K mainGlobals "square_beside" = some (some (.ref fSQ)))
    (lSQ : K.lookup fSQ = some ⟨ocSQ, odSQ, .func (PySem.W.fnOf "square_beside" "square_beside" (defArgs sSq) (defBody sSq) (defScope sSq) .none kVSQ dcSQ pmSQ anSQ cdSQ ctSQ), slSQ⟩) (cSQ : PySem.W.codeIn K cdSQ "square_beside" = true) (kSQ : PySem.W.keepIn K (.ref fSQ) = true)
    (aSB : PySem.W.nsIn K mainGlobals "squares_beside" = some (some (.ref fSB)))
    (lSB : K.lookup fSB = some ⟨ocSB, odSB, .func (PySem.W.fnOf "squares_beside" "squares_beside" (defArgs sBes) (defBody sBes) (defScope sBes) .none kVSB dcSB pmSB anSB cdSB ctSB), slSB⟩) (cSB : PySem.W.codeIn K cdSB "squares_beside" = true) (kSB : PySem.W.keepIn K (.ref fSB) = true)
    (aLC : PySem.W.nsIn K mainGlobals "least_cost" = some (some (.ref fLC)))
    (lLC : K.lookup fLC = some ⟨ocLC, odLC, .func (PySem.W.fnOf "least_cost" "least_cost" (defArgs sLeast) (defBody sLeast) (defScope sLeast) .none kVLC dcLC pmLC anLC cdLC ctLC), slLC⟩) (cLC : PySem.W.codeIn K cdLC "least_cost" = true) (kLC : PySem.W.keepIn K (.ref fLC) = true)
    (aMC : PySem.W.nsIn K mainGlobals "moving_cost" = some (some (.ref fMC)))
    (lMC : K.lookup fMC = some ⟨ocMC, odMC, .func (PySem.W.fnOf "moving_cost" "moving_cost" (defArgs sMove) (defBody sMove) (defScope sMove) .none kVMC dcMC pmMC anMC cdMC ctMC), slMC⟩) (cMC : PySem.W.codeIn K cdMC "moving_cost" = true) (kMC : PySem.W.keepIn K (.ref fMC) = true)
    (aST : PySem.W.nsIn K mainGlobals "step_cost" = some (some (.ref fST)))
    (lST : K.lookup fST = some ⟨ocST, odST, .func (PySem.W.fnOf "step_cost" "step_cost" (defArgs sStep) (defBody sStep) (defScope sStep) .none kVST dcST pmST anST cdST ctST), slST⟩) (cST : PySem.W.codeIn K cdST "step_cost" = true) (kST : PySem.W.keepIn K (.ref fST) = true)
    (aCS : PySem.W.nsIn K mainGlobals "cheapest_steps" = some (some (.ref fCS)))
    (lCS : K.lookup fCS = some ⟨ocCS, odCS, .func (PySem.W.fnOf "cheapest_steps" "cheapest_steps" (defArgs sCheap) (defBody sCheap) (defScope sCheap) .none kVCS dcCS pmCS anCS cdCS ctCS), slCS⟩) (cCS : PySem.W.codeIn K cdCS "cheapest_steps" = true) (kCS : PySem.W.keepIn K (.ref fCS) = true)
    (aWN : PySem.W.nsIn K mainGlobals "way_to_nearest" = some (some (.ref fWN)))
    (lWN : K.lookup fWN = some ⟨ocWN, odWN, .func (PySem.W.fnOf "way_to_nearest" "way_to_nearest" (defArgs sWay) (defBody sWay) (defScope sWay) .none kVWN dcWN pmWN anWN (.ref cW) ctWN), slWN⟩) (cWN : PySem.W.codeIn K (.ref cW) "way_to_nearest" = true) (kWN : PySem.W.keepIn K (.ref fWN) = true)
    (aSE : PySem.W.nsIn K mainGlobals "send" = some (some (.ref fSE)))
    (lSE : K.lookup fSE = some ⟨ocSE, odSE, .func (PySem.W.fnOf "send" "send" (defArgs sSend) (defBody sSend) (defScope sSend) .none kVSE dcSE pmSE anSE cdSE ctSE), slSE⟩) (cSE : PySem.W.codeIn K cdSE "send" = true) (kSE : PySem.W.keepIn K (.ref fSE) = true)
    (aEX : PySem.W.nsIn K mainGlobals "excess_of" = some (some (.ref fEX)))
    (lEX : K.lookup fEX = some ⟨ocEX, odEX, .func (PySem.W.fnOf "excess_of" "excess_of" (defArgs sExc) (defBody sExc) (defScope sExc) .none kVEX dcEX pmEX anEX cdEX ctEX), slEX⟩) (cEX : PySem.W.codeIn K cdEX "excess_of" = true) (kEX : PySem.W.keepIn K (.ref fEX) = true)
    (aFR : PySem.W.nsIn K mainGlobals "is_from_1_to" = some (some (.ref fFR)))
    (lFR : K.lookup fFR = some ⟨ocFR, odFR, .func (PySem.W.fnOf "is_from_1_to" "is_from_1_to" (defArgs sFrom) (defBody sFrom) (defScope sFrom) .none kVFR dcFR pmFR anFR cdFR ctFR), slFR⟩) (cFR : PySem.W.codeIn K cdFR "is_from_1_to" = true) (kFR : PySem.W.keepIn K (.ref fFR) = true)
    (aTO : PySem.W.nsIn K mainGlobals "answer_to" = some (some (.ref fTO)))
    (lTO : K.lookup fTO = some ⟨ocTO, odTO, .func (PySem.W.fnOf "answer_to" "answer_to" (defArgs sTo) (defBody sTo) (defScope sTo) .none kVTO dcTO pmTO anTO cdTO ctTO), slTO⟩) (cTO : PySem.W.codeIn K cdTO "answer_to" = true) (kTO : PySem.W.keepIn K (.ref fTO) = true)
    (aAN : PySem.W.nsIn K mainGlobals "answers" = some (some (.ref fAN)))
    (lAN : K.lookup fAN = some ⟨ocAN, odAN, .func (PySem.W.fnOf "answers" "answers" (defArgs sAns) (defBody sAns) (defScope sAns) .none kVAN dcAN pmAN anAN cdAN ctAN), slAN⟩) (cAN : PySem.W.codeIn K cdAN "answers" = true) (kAN : PySem.W.keepIn K (.ref fAN) = true)
    (aIN : PySem.W.findIn K (.ref C) "__init__" = some (some (.ref fIN))) (iIN : PySem.W.isFn K (.ref fIN) = true)
    (lIN : K.lookup fIN = some ⟨ocIN, odIN, .func (PySem.W.fnOf "__init__" "Field.__init__" (defArgs sInit) (defBody sInit) (defScope sInit) .none kVIN dcIN pmIN anIN cdIN ctIN), slIN⟩) (cIN : PySem.W.codeIn K cdIN "Field.__init__" = true) (kIN : PySem.W.keepIn K (.ref fIN) = true)
    (aBE : PySem.W.findIn K (.ref C) "begin" = some (some (.ref fBE))) (iBE : PySem.W.isFn K (.ref fBE) = true)
    (lBE : K.lookup fBE = some ⟨ocBE, odBE, .func (PySem.W.fnOf "begin" "Field.begin" (defArgs sBegin) (defBody sBegin) (defScope sBegin) .none kVBE dcBE pmBE anBE cdBE ctBE), slBE⟩) (cBE : PySem.W.codeIn K cdBE "Field.begin" = true) (kBE : PySem.W.keepIn K (.ref fBE) = true)
    (aGR : PySem.W.findIn K (.ref C) "ground" = some (some (.ref fGR))) (iGR : PySem.W.isFn K (.ref fGR) = true)
    (lGR : K.lookup fGR = some ⟨ocGR, odGR, .func (PySem.W.fnOf "ground" "Field.ground" (defArgs sGround) (defBody sGround) (defScope sGround) .none kVGR dcGR pmGR anGR cdGR ctGR), slGR⟩) (cGR : PySem.W.codeIn K cdGR "Field.ground" = true) (kGR : PySem.W.keepIn K (.ref fGR) = true)
    (aWA : PySem.W.findIn K (.ref C) "want" = some (some (.ref fWA))) (iWA : PySem.W.isFn K (.ref fWA) = true)
    (lWA : K.lookup fWA = some ⟨ocWA, odWA, .func (PySem.W.fnOf "want" "Field.want" (defArgs sWant) (defBody sWant) (defScope sWant) .none kVWA dcWA pmWA anWA cdWA ctWA), slWA⟩) (cWA : PySem.W.codeIn K cdWA "Field.want" = true) (kWA : PySem.W.keepIn K (.ref fWA) = true)
    (aSH : PySem.W.findIn K (.ref C) "set_height" = some (some (.ref fSH))) (iSH : PySem.W.isFn K (.ref fSH) = true)
    (lSH : K.lookup fSH = some ⟨ocSH, odSH, .func (PySem.W.fnOf "set_height" "Field.set_height" (defArgs sSet) (defBody sSet) (defScope sSet) .none kVSH dcSH pmSH anSH cdSH ctSH), slSH⟩) (cSH : PySem.W.codeIn K cdSH "Field.set_height" = true) (kSH : PySem.W.keepIn K (.ref fSH) = true)
    (aLO : PySem.W.findIn K (.ref C) "look" = some (some (.ref fLO))) (iLO : PySem.W.isFn K (.ref fLO) = true)
    (lLO : K.lookup fLO = some ⟨ocLO, odLO, .func (PySem.W.fnOf "look" "Field.look" (defArgs sLook) (defBody sLook) (defScope sLook) .none kVLO dcLO pmLO anLO cdLO ctLO), slLO⟩) (cLO : PySem.W.codeIn K cdLO "Field.look" = true) (kLO : PySem.W.keepIn K (.ref fLO) = true)
    (aSU : PySem.W.findIn K (.ref C) "sums" = some (some (.ref fSU))) (iSU : PySem.W.isFn K (.ref fSU) = true)
    (lSU : K.lookup fSU = some ⟨ocSU, odSU, .func (PySem.W.fnOf "sums" "Field.sums" (defArgs sSums) (defBody sSums) (defScope sSums) .none kVSU dcSU pmSU anSU cdSU ctSU), slSU⟩) (cSU : PySem.W.codeIn K cdSU "Field.sums" = true) (kSU : PySem.W.keepIn K (.ref fSU) = true)
    (aLE : PySem.W.findIn K (.ref C) "least" = some (some (.ref fLE))) (iLE : PySem.W.isFn K (.ref fLE) = true)
    (lLE : K.lookup fLE = some ⟨ocLE, odLE, .func (PySem.W.fnOf "least" "Field.least" (defArgs sLst) (defBody sLst) (defScope sLst) .none kVLE dcLE pmLE anLE cdLE ctLE), slLE⟩) (cLE : PySem.W.codeIn K cdLE "Field.least" = true) (kLE : PySem.W.keepIn K (.ref fLE) = true)
    (aWO : PySem.W.findIn K (.ref C) "worth" = some (some (.ref fWO))) (iWO : PySem.W.isFn K (.ref fWO) = true)
    (lWO : K.lookup fWO = some ⟨ocWO, odWO, .func (PySem.W.fnOf "worth" "Field.worth" (defArgs sWorth) (defBody sWorth) (defScope sWorth) .none kVWO dcWO pmWO anWO cdWO ctWO), slWO⟩) (cWO : PySem.W.codeIn K cdWO "Field.worth" = true) (kWO : PySem.W.keepIn K (.ref fWO) = true)
    (aFL : PySem.W.findIn K (.ref C) "flat" = some (some (.ref fFL))) (iFL : PySem.W.isFn K (.ref fFL) = true)
    (lFL : K.lookup fFL = some ⟨ocFL, odFL, .func (PySem.W.fnOf "flat" "Field.flat" (defArgs sFlat) (defBody sFlat) (defScope sFlat) .none kVFL dcFL pmFL anFL cdFL ctFL), slFL⟩) (cFL : PySem.W.codeIn K cdFL "Field.flat" = true) (kFL : PySem.W.keepIn K (.ref fFL) = true)
    (aMV : PySem.W.findIn K (.ref C) "move" = some (some (.ref fMV))) (iMV : PySem.W.isFn K (.ref fMV) = true)
    (lMV : K.lookup fMV = some ⟨ocMV, odMV, .func (PySem.W.fnOf "move" "Field.move" (defArgs sMv) (defBody sMv) (defScope sMv) .none kVMV dcMV pmMV anMV cdMV ctMV), slMV⟩) (cMV : PySem.W.codeIn K cdMV "Field.move" = true) (kMV : PySem.W.keepIn K (.ref fMV) = true)
    (aBR : PySem.W.findIn K (.ref C) "bring" = some (some (.ref fBR))) (iBR : PySem.W.isFn K (.ref fBR) = true)
    (lBR : K.lookup fBR = some ⟨ocBR, odBR, .func (PySem.W.fnOf "bring" "Field.bring" (defArgs sBring) (defBody sBring) (defScope sBring) .none kVBR dcBR pmBR anBR cdBR ctBR), slBR⟩) (cBR : PySem.W.codeIn K cdBR "Field.bring" = true) (kBR : PySem.W.keepIn K (.ref fBR) = true)
    (aTA : PySem.W.findIn K (.ref C) "take" = some (some (.ref fTA))) (iTA : PySem.W.isFn K (.ref fTA) = true)
    (lTA : K.lookup fTA = some ⟨ocTA, odTA, .func (PySem.W.fnOf "take" "Field.take" (defArgs sTake) (defBody sTake) (defScope sTake) .none kVTA dcTA pmTA anTA cdTA ctTA), slTA⟩) (cTA : PySem.W.codeIn K cdTA "Field.take" = true) (kTA : PySem.W.keepIn K (.ref fTA) = true)
    (aWI : PySem.W.findIn K (.ref C) "wise" = some (some (.ref fWI))) (iWI : PySem.W.isFn K (.ref fWI) = true)
    (lWI : K.lookup fWI = some ⟨ocWI, odWI, .func (PySem.W.fnOf "wise" "Field.wise" (defArgs sWise) (defBody sWise) (defScope sWise) .none kVWI dcWI pmWI anWI cdWI ctWI), slWI⟩) (cWI : PySem.W.codeIn K cdWI "Field.wise" = true) (kWI : PySem.W.keepIn K (.ref fWI) = true)
    (aNE : PySem.W.findIn K (.ref C) "next_load" = some (some (.ref fNE))) (iNE : PySem.W.isFn K (.ref fNE) = true)
    (lNE : K.lookup fNE = some ⟨ocNE, odNE, .func (PySem.W.fnOf "next_load" "Field.next_load" (defArgs sNext) (defBody sNext) (defScope sNext) .none kVNE dcNE pmNE anNE cdNE ctNE), slNE⟩) (cNE : PySem.W.codeIn K cdNE "Field.next_load" = true) (kNE : PySem.W.keepIn K (.ref fNE) = true)
    (aDO : PySem.W.findIn K (.ref C) "done" = some (some (.ref fDO))) (iDO : PySem.W.isFn K (.ref fDO) = true)
    (lDO : K.lookup fDO = some ⟨ocDO, odDO, .func (PySem.W.fnOf "done" "Field.done" (defArgs sDone) (defBody sDone) (defScope sDone) .none kVDO dcDO pmDO anDO cdDO ctDO), slDO⟩) (cDO : PySem.W.codeIn K cdDO "Field.done" = true) (kDO : PySem.W.keepIn K (.ref fDO) = true)
    (aSP : PySem.W.findIn K (.ref C) "steep" = some (some (.ref fSP))) (iSP : PySem.W.isFn K (.ref fSP) = true)
    (lSP : K.lookup fSP = some ⟨ocSP, odSP, .func (PySem.W.fnOf "steep" "Field.steep" (defArgs sSteep) (defBody sSteep) (defScope sSteep) .none kVSP dcSP pmSP anSP cdSP ctSP), slSP⟩) (cSP : PySem.W.codeIn K cdSP "Field.steep" = true) (kSP : PySem.W.keepIn K (.ref fSP) = true)
    (aSA : PySem.W.findIn K (.ref C) "state" = some (some (.ref fSA))) (iSA : PySem.W.isFn K (.ref fSA) = true)
    (lSA : K.lookup fSA = some ⟨ocSA, odSA, .func (PySem.W.fnOf "state" "Field.state" (defArgs sState) (defBody sState) (defScope sState) .none kVSA dcSA pmSA anSA cdSA ctSA), slSA⟩) (cSA : PySem.W.codeIn K cdSA "Field.state" = true) (kSA : PySem.W.keepIn K (.ref fSA) = true)
    (aHA : PySem.W.findIn K (.ref C) "has_square" = some (some (.ref fHA))) (iHA : PySem.W.isFn K (.ref fHA) = true)
    (lHA : K.lookup fHA = some ⟨ocHA, odHA, .func (PySem.W.fnOf "has_square" "Field.has_square" (defArgs sHas) (defBody sHas) (defScope sHas) .none kVHA dcHA pmHA anHA cdHA ctHA), slHA⟩) (cHA : PySem.W.codeIn K cdHA "Field.has_square" = true) (kHA : PySem.W.keepIn K (.ref fHA) = true)
    (aBS : PySem.W.findIn K (.ref C) "beside" = some (some (.ref fBS))) (iBS : PySem.W.isFn K (.ref fBS) = true)
    (lBS : K.lookup fBS = some ⟨ocBS, odBS, .func (PySem.W.fnOf "beside" "Field.beside" (defArgs sBsd) (defBody sBsd) (defScope sBsd) .none kVBS dcBS pmBS anBS cdBS ctBS), slBS⟩) (cBS : PySem.W.codeIn K cdBS "Field.beside" = true) (kBS : PySem.W.keepIn K (.ref fBS) = true)
    (aPD : PySem.W.findIn K (.ref C) "spend" = some (some (.ref fPD))) (iPD : PySem.W.isFn K (.ref fPD) = true)
    (lPD : K.lookup fPD = some ⟨ocPD, odPD, .func (PySem.W.fnOf "spend" "Field.spend" (defArgs sSpend) (defBody sSpend) (defScope sSpend) .none kVPD dcPD pmPD anPD cdPD ctPD), slPD⟩) (cPD : PySem.W.codeIn K cdPD "Field.spend" = true) (kPD : PySem.W.keepIn K (.ref fPD) = true)
    (aID : PySem.W.findIn K (.ref C) "is_done" = some (some (.ref fID))) (iID : PySem.W.isFn K (.ref fID) = true)
    (lID : K.lookup fID = some ⟨ocID, odID, .func (PySem.W.fnOf "is_done" "Field.is_done" (defArgs sIsD) (defBody sIsD) (defScope sIsD) .none kVID dcID pmID anID cdID ctID), slID⟩) (cID : PySem.W.codeIn K cdID "Field.is_done" = true) (kID : PySem.W.keepIn K (.ref fID) = true)
    (aIM : PySem.W.findIn K (.ref C) "is_move_wise" = some (some (.ref fIM))) (iIM : PySem.W.isFn K (.ref fIM) = true)
    (lIM : K.lookup fIM = some ⟨ocIM, odIM, .func (PySem.W.fnOf "is_move_wise" "Field.is_move_wise" (defArgs sIsM) (defBody sIsM) (defScope sIsM) .none kVIM dcIM pmIM anIM cdIM ctIM), slIM⟩) (cIM : PySem.W.codeIn K cdIM "Field.is_move_wise" = true) (kIM : PySem.W.keepIn K (.ref fIM) = true)
    (aIB : PySem.W.findIn K (.ref C) "is_bringing_wise" = some (some (.ref fIB))) (iIB : PySem.W.isFn K (.ref fIB) = true)
    (lIB : K.lookup fIB = some ⟨ocIB, odIB, .func (PySem.W.fnOf "is_bringing_wise" "Field.is_bringing_wise" (defArgs sIsB) (defBody sIsB) (defScope sIsB) .none kVIB dcIB pmIB anIB cdIB ctIB), slIB⟩) (cIB : PySem.W.codeIn K cdIB "Field.is_bringing_wise" = true) (kIB : PySem.W.keepIn K (.ref fIB) = true)
    (aCL : PySem.W.findIn K (.ref C) "cost_left" = some (some (.ref fCL))) (iCL : PySem.W.isFn K (.ref fCL) = true)
    (lCL : K.lookup fCL = some ⟨ocCL, odCL, .func (PySem.W.fnOf "cost_left" "Field.cost_left" (defArgs sLeft) (defBody sLeft) (defScope sLeft) .none kVCL dcCL pmCL anCL cdCL ctCL), slCL⟩) (cCL : PySem.W.codeIn K cdCL "Field.cost_left" = true) (kCL : PySem.W.keepIn K (.ref fCL) = true)
    (aCO : PySem.W.findIn K (.ref C) "cost_between" = some (some (.ref fCO))) (iCO : PySem.W.isFn K (.ref fCO) = true)
    (lCO : K.lookup fCO = some ⟨ocCO, odCO, .func (PySem.W.fnOf "cost_between" "Field.cost_between" (defArgs sCost) (defBody sCost) (defScope sCost) .none kVCO dcCO pmCO anCO cdCO ctCO), slCO⟩) (cCO : PySem.W.codeIn K cdCO "Field.cost_between" = true) (kCO : PySem.W.keepIn K (.ref fCO) = true)
    (pg : PySem.W.plainGet K C Str.empty = true) (hd : PySem.W.hasDictIn K C = true) (po : PySem.W.plainOver K C = true) (sa : PySem.W.findIn K (.ref C) "__setattr__" = some (some (.builtin "object.__setattr__"))) (mk : PySem.W.makesIn K C = true) (kc : PySem.W.keepIn K (.ref C) = true)
    (n1 : PySem.W.findIn K (.ref C) "begun" = some none) (n2 : PySem.W.findIn K (.ref C) "width" = some none) (n3 : PySem.W.findIn K (.ref C) "height" = some none) (n4 : PySem.W.findIn K (.ref C) "bring_cost" = some none) (n5 : PySem.W.findIn K (.ref C) "take_cost" = some none) (n6 : PySem.W.findIn K (.ref C) "levels" = some none) (n7 : PySem.W.findIn K (.ref C) "wanted" = some none) (n8 : PySem.W.findIn K (.ref C) "spent" = some none)
    (cst0 : PySem.W.nsIn K mainGlobals "LONGEST_SIDE" = some (some (.int 4 tk0))) (cst1 : PySem.W.nsIn K mainGlobals "HIGHEST_COST" = some (some (.int 100 tk1))) (cst2 : PySem.W.nsIn K mainGlobals "HIGHEST_LEVEL" = some (some (.int 50 tk2))) (cst3 : PySem.W.nsIn K mainGlobals "MOST_SQUARES_FOR_FLAT" = some (some (.int 9 tk3))) (cst4 : PySem.W.nsIn K mainGlobals "WAYS" = some (some (.int 4 tk4))) (cst5 : PySem.W.nsIn K mainGlobals "MOST_BROUGHT_AT_ONCE" = some (some (.int 1000000 tk5))) (cst6 : PySem.W.nsIn K mainGlobals "BRING_ONE" = some (some (.int 4 tk6))) (cst7 : PySem.W.nsIn K mainGlobals "TAKE_ONE" = some (some (.int 5 tk7)))
    (gT : PySem.W.nsIn K mainGlobals "ARGUMENTS" = some (some (.ref aT))) (hA : ∀ H, SqT K H aT (EM.argc.map fun (n : Nat) => V.int (n : Int)))
    (m_len : PySem.W.nsIn K mainGlobals "len" = some none) (m_list : PySem.W.nsIn K mainGlobals "list" = some none) (m_range : PySem.W.nsIn K mainGlobals "range" = some none) (m_sum : PySem.W.nsIn K mainGlobals "sum" = some none) (m_min : PySem.W.nsIn K mainGlobals "min" = some none) (m_zip : PySem.W.nsIn K mainGlobals "zip" = some none) (m_reversed : PySem.W.nsIn K mainGlobals "reversed" = some none) (m_abs : PySem.W.nsIn K mainGlobals "abs" = some none)
    :
    ∃ fd : FuncData, (∀ (s : Shared) (us : List Value), us.length = 1 → BindsTo s fd ⟨us, []⟩ (((["calls"] : List Str)).zip us)) ∧ ∀ base : Heap, K.In base → base.Ns mainGlobals mg → (∀ p ∈ [(cW, pW)], LamX.TabB base mg p.1 p.2) → FnOk P w K mg base CX0 9 fa fd ["calls"] (spAns C (tabW pW) K) := by
  have e := hfa.symm.trans (PySem.W.mg_of X G aAN)
  cases e
  have T : Txt K mg C := ⟨⟨pg, hd, po, sa⟩, n1, n2, n3, n4, n5, n6, n7, n8⟩
  have FSQ := fun_mk (st := sSq) lSQ cSQ kSQ
  have bSQ := FSQ.binds (ps := ["w", "h", "s", "d"]) fun _ _ _ _ _ _ us hl => match us, hl with | [_, _, _, _], _ => rfl
  have FSB := fun_mk (st := sBes) lSB cSB kSB
  have bSB := FSB.binds (ps := ["w", "h"]) fun _ _ _ _ _ _ us hl => match us, hl with | [_, _], _ => rfl
  have FLC := fun_mk (st := sLeast) lLC cLC kLC
  have bLC := FLC.binds (ps := ["w", "h", "bring_cost", "take_cost", "excess"]) fun _ _ _ _ _ _ us hl => match us, hl with | [_, _, _, _, _], _ => rfl
  have FMC := fun_mk (st := sMove) lMC cMC kMC
  have bMC := FMC.binds (ps := ["beside", "excess"]) fun _ _ _ _ _ _ us hl => match us, hl with | [_, _], _ => rfl
  have FST := fun_mk (st := sStep) lST cST kST
  have bST := FST.binds (ps := ["moved", "a", "b"]) fun _ _ _ _ _ _ us hl => match us, hl with | [_, _, _], _ => rfl
  have FCS := fun_mk (st := sCheap) lCS cCS kCS
  have bCS := FCS.binds (ps := ["beside", "moved", "source"]) fun _ _ _ _ _ _ us hl => match us, hl with | [_, _, _], _ => rfl
  have FWN := fun_mk (st := sWay) lWN cWN kWN
  have bWN := FWN.binds (ps := ["steps", "left"]) fun _ _ _ _ _ _ us hl => match us, hl with | [_, _], _ => rfl
  have FSE := fun_mk (st := sSend) lSE cSE kSE
  have bSE := FSE.binds (ps := ["moved", "left", "way"]) fun _ _ _ _ _ _ us hl => match us, hl with | [_, _, _], _ => rfl
  have FEX := fun_mk (st := sExc) lEX cEX kEX
  have bEX := FEX.binds (ps := ["levels", "goals"]) fun _ _ _ _ _ _ us hl => match us, hl with | [_, _], _ => rfl
  have FFR := fun_mk (st := sFrom) lFR cFR kFR
  have bFR := FFR.binds (ps := ["number", "highest"]) fun _ _ _ _ _ _ us hl => match us, hl with | [_, _], _ => rfl
  have FTO := fun_mk (st := sTo) lTO cTO kTO
  have bTO := FTO.binds (ps := ["field", "call", "given"]) fun _ _ _ _ _ _ us hl => match us, hl with | [_, _, _], _ => rfl
  have FAN := fun_mk (st := sAns) lAN cAN kAN
  have bAN := FAN.binds (ps := ["calls"]) fun _ _ _ _ _ _ us hl => match us, hl with | [_], _ => rfl
  have FIN := fun_mk (st := sInit) lIN cIN kIN
  have bIN := FIN.binds (ps := ["self"]) fun _ _ _ _ _ _ us hl => match us, hl with | [_], _ => rfl
  have FBE := fun_mk (st := sBegin) lBE cBE kBE
  have bBE := FBE.binds (ps := ["self", "w", "h", "bring_cost", "take_cost"]) fun _ _ _ _ _ _ us hl => match us, hl with | [_, _, _, _, _], _ => rfl
  have FGR := fun_mk (st := sGround) lGR cGR kGR
  have bGR := FGR.binds (ps := ["self", "s", "l"]) fun _ _ _ _ _ _ us hl => match us, hl with | [_, _, _], _ => rfl
  have FWA := fun_mk (st := sWant) lWA cWA kWA
  have bWA := FWA.binds (ps := ["self", "s", "l"]) fun _ _ _ _ _ _ us hl => match us, hl with | [_, _, _], _ => rfl
  have FSH := fun_mk (st := sSet) lSH cSH kSH
  have bSH := FSH.binds (ps := ["self", "heights", "s", "l"]) fun _ _ _ _ _ _ us hl => match us, hl with | [_, _, _, _], _ => rfl
  have FLO := fun_mk (st := sLook) lLO cLO kLO
  have bLO := FLO.binds (ps := ["self", "s"]) fun _ _ _ _ _ _ us hl => match us, hl with | [_, _], _ => rfl
  have FSU := fun_mk (st := sSums) lSU cSU kSU
  have bSU := FSU.binds (ps := ["self"]) fun _ _ _ _ _ _ us hl => match us, hl with | [_], _ => rfl
  have FLE := fun_mk (st := sLst) lLE cLE kLE
  have bLE := FLE.binds (ps := ["self"]) fun _ _ _ _ _ _ us hl => match us, hl with | [_], _ => rfl
  have FWO := fun_mk (st := sWorth) lWO cWO kWO
  have bWO := FWO.binds (ps := ["self", "s"]) fun _ _ _ _ _ _ us hl => match us, hl with | [_, _], _ => rfl
  have FFL := fun_mk (st := sFlat) lFL cFL kFL
  have bFL := FFL.binds (ps := ["self"]) fun _ _ _ _ _ _ us hl => match us, hl with | [_], _ => rfl
  have FMV := fun_mk (st := sMv) lMV cMV kMV
  have bMV := FMV.binds (ps := ["self", "s", "d", "n"]) fun _ _ _ _ _ _ us hl => match us, hl with | [_, _, _, _], _ => rfl
  have FBR := fun_mk (st := sBring) lBR cBR kBR
  have bBR := FBR.binds (ps := ["self", "n"]) fun _ _ _ _ _ _ us hl => match us, hl with | [_, _], _ => rfl
  have FTA := fun_mk (st := sTake) lTA cTA kTA
  have bTA := FTA.binds (ps := ["self", "n"]) fun _ _ _ _ _ _ us hl => match us, hl with | [_, _], _ => rfl
  have FWI := fun_mk (st := sWise) lWI cWI kWI
  have bWI := FWI.binds (ps := ["self", "s", "d"]) fun _ _ _ _ _ _ us hl => match us, hl with | [_, _, _], _ => rfl
  have FNE := fun_mk (st := sNext) lNE cNE kNE
  have bNE := FNE.binds (ps := ["self"]) fun _ _ _ _ _ _ us hl => match us, hl with | [_], _ => rfl
  have FDO := fun_mk (st := sDone) lDO cDO kDO
  have bDO := FDO.binds (ps := ["self"]) fun _ _ _ _ _ _ us hl => match us, hl with | [_], _ => rfl
  have FSP := fun_mk (st := sSteep) lSP cSP kSP
  have bSP := FSP.binds (ps := ["self", "k"]) fun _ _ _ _ _ _ us hl => match us, hl with | [_, _], _ => rfl
  have FSA := fun_mk (st := sState) lSA cSA kSA
  have bSA := FSA.binds (ps := ["self"]) fun _ _ _ _ _ _ us hl => match us, hl with | [_], _ => rfl
  have FHA := fun_mk (st := sHas) lHA cHA kHA
  have bHA := FHA.binds (ps := ["self", "s"]) fun _ _ _ _ _ _ us hl => match us, hl with | [_, _], _ => rfl
  have FBS := fun_mk (st := sBsd) lBS cBS kBS
  have bBS := FBS.binds (ps := ["self", "s", "d"]) fun _ _ _ _ _ _ us hl => match us, hl with | [_, _, _], _ => rfl
  have FPD := fun_mk (st := sSpend) lPD cPD kPD
  have bPD := FPD.binds (ps := ["self", "cost"]) fun _ _ _ _ _ _ us hl => match us, hl with | [_, _], _ => rfl
  have FID := fun_mk (st := sIsD) lID cID kID
  have bID := FID.binds (ps := ["self"]) fun _ _ _ _ _ _ us hl => match us, hl with | [_], _ => rfl
  have FIM := fun_mk (st := sIsM) lIM cIM kIM
  have bIM := FIM.binds (ps := ["self", "s", "d", "left"]) fun _ _ _ _ _ _ us hl => match us, hl with | [_, _, _, _], _ => rfl
  have FIB := fun_mk (st := sIsB) lIB cIB kIB
  have bIB := FIB.binds (ps := ["self", "left"]) fun _ _ _ _ _ _ us hl => match us, hl with | [_, _], _ => rfl
  have FCL := fun_mk (st := sLeft) lCL cCL kCL
  have bCL := FCL.binds (ps := ["self"]) fun _ _ _ _ _ _ us hl => match us, hl with | [_], _ => rfl
  have FCO := fun_mk (st := sCost) lCO cCO kCO
  have bCO := FCO.binds (ps := ["self", "levels", "goals"]) fun _ _ _ _ _ _ us hl => match us, hl with | [_, _, _], _ => rfl
  have G0 := PySem.W.mg_of X G cst0
  have G1 := PySem.W.mg_of X G cst1
  have G2 := PySem.W.mg_of X G cst2
  have G3 := PySem.W.mg_of X G cst3
  have G4 := PySem.W.mg_of X G cst4
  have G5 := PySem.W.mg_of X G cst5
  have G6 := PySem.W.mg_of X G cst6
  have G7 := PySem.W.mg_of X G cst7
  have M_len := PySem.W.mg_none_of X G m_len
  have M_list := PySem.W.mg_none_of X G m_list
  have M_range := PySem.W.mg_none_of X G m_range
  have M_sum := PySem.W.mg_none_of X G m_sum
  have M_min := PySem.W.mg_none_of X G m_min
  have M_zip := PySem.W.mg_none_of X G m_zip
  have M_reversed := PySem.W.mg_none_of X G m_reversed
  have M_abs := PySem.W.mg_none_of X G m_abs
  have gSQ := PySem.W.mg_of X G aSQ
  have gSB := PySem.W.mg_of X G aSB
  have gLC := PySem.W.mg_of X G aLC
  have gMC := PySem.W.mg_of X G aMC
  have gST := PySem.W.mg_of X G aST
  have gCS := PySem.W.mg_of X G aCS
  have gWN := PySem.W.mg_of X G aWN
  have gSE := PySem.W.mg_of X G aSE
  have gEX := PySem.W.mg_of X G aEX
  have gFR := PySem.W.mg_of X G aFR
  have gTO := PySem.W.mg_of X G aTO
  have gAN := PySem.W.mg_of X G aAN
  have gC := PySem.W.mg_of X G aC
  have gA := PySem.W.mg_of X G gT
  refine ⟨PySem.W.fnOf "answers" "answers" (defArgs sAns) (defBody sAns) (defScope sAns) .none kVAN dcAN pmAN anAN cdAN ctAN, fun s us hu => match us, hu with | [_], _ => .of_eq rfl, fun base _ _ TB => ?_⟩
  have TBW := TB (cW, pW) (List.mem_singleton.2 rfl)
  have OWN : FnOk P w K mg base CX0 2 fWN _ ["steps", "left"] (spWay (tabW pW)) := ok_way (k := 0) lWN cWN TBW M_len M_list M_range M_min M_reversed
  have OMC : FnOk P w K mg base CX0 3 fMC _ ["beside", "excess"] (spMove (tabW pW)) := ok_move FMC M_len M_list M_range M_sum M_min M_zip FCS bCS gCS FST bST gST FSE bSE gSE kWN bWN gWN OWN
  have OLC : FnOk P w K mg base CX0 4 fLC _ ["w", "h", "bring_cost", "take_cost", "excess"] (spLeast (tabW pW)) := ok_least FLC M_list M_range M_sum FMC bMC gMC OMC FSB bSB gSB G4 FSQ bSQ gSQ
  have OCO : FnOk P w K mg base CX0 5 fCO _ ["self", "levels", "goals"] (spCost C (tabW pW)) := ok_cost FCO T M_zip FEX bEX gEX FLC bLC gLC OLC
  have OCL : FnOk P w K mg base CX0 6 fCL _ ["self"] (spLeft C (tabW pW)) := ok_left FCL T bCO ⟨aCO, iCO, kCO⟩ OCO
  have OHA : FnOk P w K mg base CX0 1 fHA _ ["self", "s"] (spHas (C := C)) := ok_has FHA T M_len
  have OHA5 : FnOk P w K mg base CX0 5 fHA _ ["self", "s"] (spHas (C := C)) := ok_has FHA T M_len
  have OBS : FnOk P w K mg base CX0 2 fBS _ ["self", "s", "d"] (spBsd C) := ok_bsd (k := 0) FBS T FSQ bSQ gSQ
  have OPD : FnOk P w K mg base CX0 1 fPD _ ["self", "cost"] (spSpend C) := ok_spend FPD T
  have OID : FnOk P w K mg base CX0 1 fID _ ["self"] (spIsD C) := ok_isD FID T
  have OIM : FnOk P w K mg base CX0 6 fIM _ ["self", "s", "d", "left"] (spIsM C (tabW pW)) := ok_isM FIM T M_list bBS ⟨aBS, iBS, kBS⟩ OBS bCO ⟨aCO, iCO, kCO⟩ OCO
  have OIB : FnOk P w K mg base CX0 6 fIB _ ["self", "left"] (spIsB C (tabW pW)) := ok_isB FIB T M_list bCO ⟨aCO, iCO, kCO⟩ OCO
  have OSH : FnOk P w K mg base CX0 2 fSH _ ["self", "heights", "s", "l"] (spSet C (tabW pW)) := ok_set FSH T G2 bHA ⟨aHA, iHA, kHA⟩ OHA
  have OBE : FnOk P w K mg base CX0 2 fBE _ ["self", "w", "h", "bring_cost", "take_cost"] (spBegin C (tabW pW)) := ok_begin FBE T G0 G1 FFR bFR gFR
  have OGR : FnOk P w K mg base CX0 3 fGR _ ["self", "s", "l"] (spGround C (tabW pW)) := ok_ground FGR T bSH ⟨aSH, iSH, kSH⟩ OSH
  have OWA : FnOk P w K mg base CX0 3 fWA _ ["self", "s", "l"] (spWant C (tabW pW)) := ok_want FWA T bSH ⟨aSH, iSH, kSH⟩ OSH
  have OLO : FnOk P w K mg base CX0 2 fLO _ ["self", "s"] (spLook C (tabW pW)) := ok_look FLO T bHA ⟨aHA, iHA, kHA⟩ OHA
  have OSU : FnOk P w K mg base CX0 2 fSU _ ["self"] (spSums C (tabW pW)) := ok_sums FSU T M_sum M_zip FEX bEX gEX
  have OLE : FnOk P w K mg base CX0 7 fLE _ ["self"] (spLst C (tabW pW)) := ok_lst FLE T bCL ⟨aCL, iCL, kCL⟩ OCL
  have OWO : FnOk P w K mg base CX0 7 fWO _ ["self", "s"] (spWorth C (tabW pW)) := ok_worth FWO T G2 M_list bHA ⟨aHA, iHA, kHA⟩ OHA5 bCO ⟨aCO, iCO, kCO⟩ OCO bCL ⟨aCL, iCL, kCL⟩ OCL
  have OFL : FnOk P w K mg base CX0 6 fFL _ ["self"] (spFlat C (tabW pW)) := ok_flat FFL T G2 G3 M_len M_range M_min bCO ⟨aCO, iCO, kCO⟩ OCO
  have OMV : FnOk P w K mg base CX0 3 fMV _ ["self", "s", "d", "n"] (spMv C (tabW pW)) := ok_mv FMV T G4 bHA ⟨aHA, iHA, kHA⟩ OHA bBS ⟨aBS, iBS, kBS⟩ OBS bPD ⟨aPD, iPD, kPD⟩ OPD
  have OBR : FnOk P w K mg base CX0 2 fBR _ ["self", "n"] (spBring C (tabW pW)) := ok_bring FBR T G5 bPD ⟨aPD, iPD, kPD⟩ OPD
  have OTA : FnOk P w K mg base CX0 2 fTA _ ["self", "n"] (spTake C (tabW pW)) := ok_take FTA T bPD ⟨aPD, iPD, kPD⟩ OPD
  have OWI : FnOk P w K mg base CX0 7 fWI _ ["self", "s", "d"] (spWise C (tabW pW)) := ok_wise FWI T G4 bHA ⟨aHA, iHA, kHA⟩ OHA bIM ⟨aIM, iIM, kIM⟩ OIM bCL ⟨aCL, iCL, kCL⟩ OCL
  have ONE : FnOk P w K mg base CX0 7 fNE _ ["self"] (spNext C (tabW pW)) := ok_next FNE T G4 G6 G7 M_len M_range bID ⟨aID, iID, kID⟩ OID bIM ⟨aIM, iIM, kIM⟩ OIM bCL ⟨aCL, iCL, kCL⟩ OCL bIB ⟨aIB, iIB, kIB⟩ OIB
  have ODO : FnOk P w K mg base CX0 2 fDO _ ["self"] (spDone C (tabW pW)) := ok_done FDO T bID ⟨aID, iID, kID⟩ OID
  have OSP : FnOk P w K mg base CX0 3 fSP _ ["self", "k"] (spSteep C (tabW pW)) := ok_steep FSP T M_len M_range M_abs bBS ⟨aBS, iBS, kBS⟩ OBS
  have OSA : FnOk P w K mg base CX0 1 fSA _ ["self"] (spState C (tabW pW)) := ok_state FSA T
  have OTO : FnOk P w K mg base CX0 8 fTO _ ["field", "call", "given"] (spTo C (tabW pW)) := ok_to FTO T bBE ⟨aBE, iBE, kBE⟩ OBE bGR ⟨aGR, iGR, kGR⟩ OGR bWA ⟨aWA, iWA, kWA⟩ OWA bLO ⟨aLO, iLO, kLO⟩ OLO bSU ⟨aSU, iSU, kSU⟩ OSU bLE ⟨aLE, iLE, kLE⟩ OLE bWO ⟨aWO, iWO, kWO⟩ OWO bFL ⟨aFL, iFL, kFL⟩ OFL bMV ⟨aMV, iMV, kMV⟩ OMV bBR ⟨aBR, iBR, kBR⟩ OBR bTA ⟨aTA, iTA, kTA⟩ OTA bWI ⟨aWI, iWI, kWI⟩ OWI bNE ⟨aNE, iNE, kNE⟩ ONE bDO ⟨aDO, iDO, kDO⟩ ODO bSP ⟨aSP, iSP, kSP⟩ OSP bSA ⟨aSA, iSA, kSA⟩ OSA
  exact ok_ans (kk := 6) FAN T M_len gA hA ⟨mk, aIN, iIN, kc⟩ FIN bIN gC kTO bTO gTO OTO
end Earth
set_option linter.all false
open PySem PySem.W PyProof.Rows
set_option maxRecDepth 100000 in
set_option maxHeartbeats 8000000 in
theorem PySem.Challenge.cw_earthmoved_s01_answers_holds : PySem.Challenge.rw_earthmoved_s01_answers.Holds := by
  w_on; k_headS; (case hw => exact ⟨[.list [.int 4]], by decide +kernel, by decide +kernel⟩)
  k_fillS
  refine Ending.walk_tabs (r := PySem.Challenge.rw_earthmoved_s01_answers) (k := 9) (CX := L2.CX0) (x1 := "calls") (sp := fun K => Earth.spAns 253 (Earth.tabW 54) K) [(56, 54)] (fun a => a.1) (fun a => rfl) (by decide +kernel) ⟨rfl, by decide, by decide⟩ (fun w h Y => PySem.W.kIn_of Y) ?F ?S (fun _ _ _ _ z => z)
  case F =>
    intro w mg fa h Y KX G hmg tabs
    have tw := tabs "way_to_nearest" _ 56 54 rfl (by kernel_rfl)
    refine ⟨fun p hp => by rw [List.mem_singleton.1 hp]; exact tw.2, fun p hp => by rw [List.mem_singleton.1 hp]; rfl, fun p hp => by rw [List.mem_singleton.1 hp]; exact tw.1, ?_⟩
    refine' Earth.all_mk (C := 253) (cW := 56) (pW := 54) KX G hmg ?aC ?aSQ ?lSQ ?cSQ ?kSQ ?aSB ?lSB ?cSB ?kSB ?aLC ?lLC ?cLC ?kLC ?aMC ?lMC ?cMC ?kMC ?aST ?lST ?cST ?kST ?aCS ?lCS ?cCS ?kCS ?aWN ?lWN ?cWN ?kWN ?aSE ?lSE ?cSE ?kSE ?aEX ?lEX ?cEX ?kEX ?aFR ?lFR ?cFR ?kFR ?aTO ?lTO ?cTO ?kTO ?aAN ?lAN ?cAN ?kAN ?aIN ?iIN ?lIN ?cIN ?kIN ?aBE ?iBE ?lBE ?cBE ?kBE ?aGR ?iGR ?lGR ?cGR ?kGR ?aWA ?iWA ?lWA ?cWA ?kWA ?aSH ?iSH ?lSH ?cSH ?kSH ?aLO ?iLO ?lLO ?cLO ?kLO ?aSU ?iSU ?lSU ?cSU ?kSU ?aLE ?iLE ?lLE ?cLE ?kLE ?aWO ?iWO ?lWO ?cWO ?kWO ?aFL ?iFL ?lFL ?cFL ?kFL ?aMV ?iMV ?lMV ?cMV ?kMV ?aBR ?iBR ?lBR ?cBR ?kBR ?aTA ?iTA ?lTA ?cTA ?kTA ?aWI ?iWI ?lWI ?cWI ?kWI ?aNE ?iNE ?lNE ?cNE ?kNE ?aDO ?iDO ?lDO ?cDO ?kDO ?aSP ?iSP ?lSP ?cSP ?kSP ?aSA ?iSA ?lSA ?cSA ?kSA ?aHA ?iHA ?lHA ?cHA ?kHA ?aBS ?iBS ?lBS ?cBS ?kBS ?aPD ?iPD ?lPD ?cPD ?kPD ?aID ?iID ?lID ?cID ?kID ?aIM ?iIM ?lIM ?cIM ?kIM ?aIB ?iIB ?lIB ?cIB ?kIB ?aCL ?iCL ?lCL ?cCL ?kCL ?aCO ?iCO ?lCO ?cCO ?kCO ?pg ?hd ?po ?sa ?mk ?kc ?n1 ?n2 ?n3 ?n4 ?n5 ?n6 ?n7 ?n8 ?cst0 ?cst1 ?cst2 ?cst3 ?cst4 ?cst5 ?cst6 ?cst7 ?gT ?hA ?m_len ?m_list ?m_range ?m_sum ?m_min ?m_zip ?m_reversed ?m_abs
    (case aC => k_is)
    (case aSQ => k_is)
    (case lSQ => k_is)
    (case cSQ => k_is)
    (case kSQ => k_is)
    (case aSB => k_is)
    (case lSB => k_is)
    (case cSB => k_is)
    (case kSB => k_is)
    (case aLC => k_is)
    (case lLC => k_is)
    (case cLC => k_is)
    (case kLC => k_is)
    (case aMC => k_is)
    (case lMC => k_is)
    (case cMC => k_is)
    (case kMC => k_is)
    (case aST => k_is)
    (case lST => k_is)
    (case cST => k_is)
    (case kST => k_is)
    (case aCS => k_is)
    (case lCS => k_is)
    (case cCS => k_is)
    (case kCS => k_is)
    (case aWN => k_is)
    (case lWN => k_is)
    (case cWN => k_is)
    (case kWN => k_is)
    (case aSE => k_is)
    (case lSE => k_is)
    (case cSE => k_is)
    (case kSE => k_is)
    (case aEX => k_is)
    (case lEX => k_is)
    (case cEX => k_is)
    (case kEX => k_is)
    (case aFR => k_is)
    (case lFR => k_is)
    (case cFR => k_is)
    (case kFR => k_is)
    (case aTO => k_is)
    (case lTO => k_is)
    (case cTO => k_is)
    (case kTO => k_is)
    (case aAN => k_is)
    (case lAN => k_is)
    (case cAN => k_is)
    (case kAN => k_is)
    (case aIN => k_is)
    (case iIN => k_is)
    (case lIN => k_is)
    (case cIN => k_is)
    (case kIN => k_is)
    (case aBE => k_is)
    (case iBE => k_is)
    (case lBE => k_is)
    (case cBE => k_is)
    (case kBE => k_is)
    (case aGR => k_is)
    (case iGR => k_is)
    (case lGR => k_is)
    (case cGR => k_is)
    (case kGR => k_is)
    (case aWA => k_is)
    (case iWA => k_is)
    (case lWA => k_is)
    (case cWA => k_is)
    (case kWA => k_is)
    (case aSH => k_is)
    (case iSH => k_is)
    (case lSH => k_is)
    (case cSH => k_is)
    (case kSH => k_is)
    (case aLO => k_is)
    (case iLO => k_is)
    (case lLO => k_is)
    (case cLO => k_is)
    (case kLO => k_is)
    (case aSU => k_is)
    (case iSU => k_is)
    (case lSU => k_is)
    (case cSU => k_is)
    (case kSU => k_is)
    (case aLE => k_is)
    (case iLE => k_is)
    (case lLE => k_is)
    (case cLE => k_is)
    (case kLE => k_is)
    (case aWO => k_is)
    (case iWO => k_is)
    (case lWO => k_is)
    (case cWO => k_is)
    (case kWO => k_is)
    (case aFL => k_is)
    (case iFL => k_is)
    (case lFL => k_is)
    (case cFL => k_is)
    (case kFL => k_is)
    (case aMV => k_is)
    (case iMV => k_is)
    (case lMV => k_is)
    (case cMV => k_is)
    (case kMV => k_is)
    (case aBR => k_is)
    (case iBR => k_is)
    (case lBR => k_is)
    (case cBR => k_is)
    (case kBR => k_is)
    (case aTA => k_is)
    (case iTA => k_is)
    (case lTA => k_is)
    (case cTA => k_is)
    (case kTA => k_is)
    (case aWI => k_is)
    (case iWI => k_is)
    (case lWI => k_is)
    (case cWI => k_is)
    (case kWI => k_is)
    (case aNE => k_is)
    (case iNE => k_is)
    (case lNE => k_is)
    (case cNE => k_is)
    (case kNE => k_is)
    (case aDO => k_is)
    (case iDO => k_is)
    (case lDO => k_is)
    (case cDO => k_is)
    (case kDO => k_is)
    (case aSP => k_is)
    (case iSP => k_is)
    (case lSP => k_is)
    (case cSP => k_is)
    (case kSP => k_is)
    (case aSA => k_is)
    (case iSA => k_is)
    (case lSA => k_is)
    (case cSA => k_is)
    (case kSA => k_is)
    (case aHA => k_is)
    (case iHA => k_is)
    (case lHA => k_is)
    (case cHA => k_is)
    (case kHA => k_is)
    (case aBS => k_is)
    (case iBS => k_is)
    (case lBS => k_is)
    (case cBS => k_is)
    (case kBS => k_is)
    (case aPD => k_is)
    (case iPD => k_is)
    (case lPD => k_is)
    (case cPD => k_is)
    (case kPD => k_is)
    (case aID => k_is)
    (case iID => k_is)
    (case lID => k_is)
    (case cID => k_is)
    (case kID => k_is)
    (case aIM => k_is)
    (case iIM => k_is)
    (case lIM => k_is)
    (case cIM => k_is)
    (case kIM => k_is)
    (case aIB => k_is)
    (case iIB => k_is)
    (case lIB => k_is)
    (case cIB => k_is)
    (case kIB => k_is)
    (case aCL => k_is)
    (case iCL => k_is)
    (case lCL => k_is)
    (case cCL => k_is)
    (case kCL => k_is)
    (case aCO => k_is)
    (case iCO => k_is)
    (case lCO => k_is)
    (case cCO => k_is)
    (case kCO => k_is)
    (case pg => k_is)
    (case hd => k_is)
    (case po => k_is)
    (case sa => k_is)
    (case mk => k_is)
    (case kc => k_is)
    (case n1 => k_is)
    (case n2 => k_is)
    (case n3 => k_is)
    (case n4 => k_is)
    (case n5 => k_is)
    (case n6 => k_is)
    (case n7 => k_is)
    (case n8 => k_is)
    (case cst0 => k_is)
    (case cst1 => k_is)
    (case cst2 => k_is)
    (case cst3 => k_is)
    (case cst4 => k_is)
    (case cst5 => k_is)
    (case cst6 => k_is)
    (case cst7 => k_is)
    (case gT => k_is)
    (case hA => exact fun H => .inr ⟨_, _, _, by k_is, rfl, rfl, by decide, by (first | exact .nil | refine .cons ⟨_, rfl⟩ ?_) <;> (repeat (first | exact .nil | refine .cons ⟨_, rfl⟩ ?_))⟩)
    (case m_len => k_is)
    (case m_list => k_is)
    (case m_range => k_is)
    (case m_sum => k_is)
    (case m_min => k_is)
    (case m_zip => k_is)
    (case m_reversed => k_is)
    (case m_abs => k_is)
  case S =>
    intro K H b a htab hwi hask hsq
    have q : ((Codec.inLen 0 2000 a.1 && a.1.all (Codec.inInt 0 4294967295)) && true) = true := hwi
    rw [Bool.and_eq_true, Bool.and_eq_true] at q
    refine ⟨b, a.1, rfl, hsq, ?_, ?_, (Codec.inNat_iff.mp q.1.1).2, hask, fun H' p hp => .lst (L2.SqL.of hp) (L2.dw_ints _)⟩
    · intro t ht
      rw [List.mem_singleton.1 ht]
      exact LamX.TabS.nil (htab (56, 54) (List.mem_singleton.2 rfl))
    · intro x hx
      exact (Codec.inInt_iff.mp (List.all_eq_true.mp q.1.2 x hx)).1
#print axioms PySem.Challenge.cw_earthmoved_s01_answers_holds

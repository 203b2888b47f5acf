/- Chapter 4, plain mathematics: calls as writes to cells. -/
import Derived.Test.YtdmipnnfoolelabMath1
import Derived.Test.YtdmipnnfoolelabMath3
namespace Go.Mk
open Go Go.RowKit

theorem ofCells_at (xs : List Int) (n i : Nat) (h : i < n) : (ofCells xs n).getD i (0, 0) = (xs.getD (1 + 2 * i) 0, xs.getD (1 + 2 * i + 1) 0) := by
  simp [ofCells, List.getD_eq_getElem?_getD, h]

/-! ### Right cells are cells whose names are right -/

theorem find_none (xs : List Int) (name : Int) : ∀ n i, findIn xs name n i < 0 ↔ ∀ j, i ≤ j → j < i + n → xs.getD (1 + 2 * j) 0 ≠ name
  | 0, i => by
    constructor
    · intro _ j h1 h2; omega
    · intro _; simp [findIn]
  | n + 1, i => by
    rw [findIn]
    by_cases h : xs.getD (1 + 2 * i) 0 = name
    · rw [if_pos h]
      constructor
      · intro h2; omega
      · intro h2; exact absurd h (h2 i (Nat.le_refl _) (by omega))
    · rw [if_neg h, find_none xs name n (i + 1)]
      constructor
      · intro h2 j h3 h4
        by_cases e : j = i
        · rw [e]; exact h
        · exact h2 j (by omega) (by omega)
      · intro h2 j h3 h4
        exact h2 j (by omega) (by omega)
theorem wrongIn_zero (xs : List Int) : ∀ n i, wrongIn xs n i = 0 ↔ ∀ j, i ≤ j → j < i + n → wrongAt xs j = 0
  | 0, i => by
    constructor
    · intro _ j h1 h2; omega
    · intro _; rfl
  | n + 1, i => by
    rw [wrongIn]
    by_cases h : wrongAt xs i = 0
    · rw [if_pos h, wrongIn_zero xs n (i + 1)]
      constructor
      · intro h2 j h3 h4
        by_cases e : j = i
        · rw [e]; exact h
        · exact h2 j (by omega) (by omega)
      · intro h2 j h3 h4
        exact h2 j (by omega) (by omega)
    · rw [if_neg h]
      constructor
      · intro h2; exact absurd h2 h
      · intro h2; exact absurd (h2 i (Nat.le_refl _) (by omega)) h
theorem wrongAt_zero (xs : List Int) (i : Nat) : wrongAt xs i = 0 ↔ (1 ≤ xs.getD (1 + 2 * i) 0 ∧ xs.getD (1 + 2 * i) 0 ≤ 255 ∧ -1073741824 ≤ xs.getD (1 + 2 * i + 1) 0 ∧ xs.getD (1 + 2 * i + 1) 0 ≤ 1073741824) ∧ ∀ j, j < i → xs.getD (1 + 2 * j) 0 ≠ xs.getD (1 + 2 * i) 0 := by
  unfold wrongAt
  rw [show 2 + 2 * i = 1 + 2 * i + 1 by omega]
  have hf := find_none xs (xs.getD (1 + 2 * i) 0) i 0
  by_cases h1 : ¬ (1 ≤ xs.getD (1 + 2 * i) 0 ∧ xs.getD (1 + 2 * i) 0 ≤ 255) ∨ ¬ (-1073741824 ≤ xs.getD (1 + 2 * i + 1) 0 ∧ xs.getD (1 + 2 * i + 1) 0 ≤ 1073741824)
  · rw [if_pos h1]
    constructor
    · intro h; cases h
    · intro h; omega
  · rw [if_neg h1]
    by_cases h2 : 0 ≤ findIn xs (xs.getD (1 + 2 * i) 0) i 0
    · rw [if_pos h2]
      constructor
      · intro h; cases h
      · intro h
        have := hf.2 (fun j _ h4 => h.2 j (by omega))
        omega
    · rw [if_neg h2]
      constructor
      · intro _
        exact ⟨by omega, fun j hj => hf.1 (by omega) j (Nat.zero_le _) (by omega)⟩
      · intro _; rfl
theorem right_iff (xs : List Int) : wrongOf xs = 0 ↔ xs.length = 11 ∧ 0 ≤ xs.getD 0 0 ∧ xs.getD 0 0 ≤ 5 ∧ Okn (ofCells xs (xs.getD 0 0).toNat) := by
  unfold wrongOf
  by_cases h1 : xs.length ≠ 11
  · rw [if_pos h1]
    constructor
    · intro h; cases h
    · intro h; exact absurd h.1 h1
  rw [if_neg h1]
  by_cases h2 : ¬ (0 ≤ xs.getD 0 0 ∧ xs.getD 0 0 ≤ 5)
  · rw [if_pos h2]
    constructor
    · intro h; cases h
    · intro h; exact absurd ⟨h.2.1, h.2.2.1⟩ h2
  rw [if_neg h2, wrongIn_zero]
  have hx : 0 ≤ xs.getD 0 0 ∧ xs.getD 0 0 ≤ 5 := by simpa using h2
  constructor
  · intro h
    refine ⟨by simpa using h1, hx.1, hx.2, okn_of (by rw [length_ofCells]; omega) (fun i hi => ?_) (fun i j hij hj => ?_)⟩
    · rw [length_ofCells] at hi
      rw [ofCells_at _ _ _ hi]
      exact ((wrongAt_zero xs i).1 (h i (Nat.zero_le _) (by omega))).1
    · rw [length_ofCells] at hj
      rw [ofCells_at _ _ _ hj, ofCells_at _ _ _ (by omega)]
      exact ((wrongAt_zero xs j).1 (h j (Nat.zero_le _) (by omega))).2 i hij
  · rintro ⟨_, _, _, hok⟩ j _ hj
    have hjl : j < (xs.getD 0 0).toNat := by omega
    rw [wrongAt_zero]
    have ha := hok.at (i := j) (by rw [length_ofCells]; exact hjl)
    rw [ofCells_at _ _ _ hjl] at ha
    refine ⟨ha, fun i hi e => ?_⟩
    have := hok.uni (i := i) (j := j) (by rw [length_ofCells]; omega) (by rw [length_ofCells]; exact hjl) (by rw [ofCells_at _ _ _ hjl, ofCells_at _ _ _ (by omega)]; exact e)
    omega
theorem find_at1 (xs : List Int) (name : Int) (n : Nat) : findIn xs name n 0 = if at1 (ofCells xs n) name < n then (at1 (ofCells xs n) name : Int) else -1 := by
  have key : ∀ m i, i + m = n → (∀ j, j < i → xs.getD (1 + 2 * j) 0 ≠ name) → findIn xs name m i = if at1 (ofCells xs n) name < n then (at1 (ofCells xs n) name : Int) else -1 := by
    intro m
    induction m with
    | zero =>
      intro i hi hb
      have : at1 (ofCells xs n) name = (ofCells xs n).length := at1_none (fun j hj => by rw [length_ofCells] at hj; rw [ofCells_at _ _ _ hj]; exact hb j (by omega))
      rw [length_ofCells] at this
      rw [findIn, if_neg (by omega)]
    | succ m ih =>
      intro i hi hb
      rw [findIn]
      by_cases h : xs.getD (1 + 2 * i) 0 = name
      · have : at1 (ofCells xs n) name = i := at1_of (by rw [length_ofCells]; omega) (by rw [ofCells_at _ _ _ (by omega)]; exact h) (fun j hj => by rw [ofCells_at _ _ _ (by omega)]; exact hb j hj)
        rw [if_pos h, this, if_pos (by omega)]
      · rw [if_neg h]
        refine ih (i + 1) (by omega) (fun j hj => ?_)
        by_cases e : j = i
        · rw [e]; exact h
        · exact hb j (by omega)
  exact key n 0 (by omega) (fun j hj => by omega)

/-! ### The writes of a call -/

/-- Cells whose names and numbers may be; names need not be unlike. -/
def Weak (xs : List Int) : Prop := xs.length = 11 ∧ 0 ≤ xs.getD 0 0 ∧ xs.getD 0 0 ≤ 5 ∧ Okw (ofCells xs (xs.getD 0 0).toNat)
theorem Weak.c {xs : List Int} (h : Weak xs) : xs.length = 11 ∧ 0 ≤ xs.getD 0 0 ∧ xs.getD 0 0 ≤ 5 := ⟨h.1, h.2.1, h.2.2.1⟩
theorem weak_of {xs : List Int} (h : wrongOf xs = 0) : Weak xs := by
  obtain ⟨h1, h2, h3, h4⟩ := (right_iff xs).1 h
  exact ⟨h1, h2, h3, h4.w⟩

def planX (l : List (Int × Int)) (c : Cl) : List (Int × Int) :=
  if c.kind = 1 then
    if at1 l c.name < l.length then [(2 + 2 * (at1 l c.name : Int), c.n)] else [(1 + 2 * (l.length : Int), c.name), (2 + 2 * (l.length : Int), c.n), (0, (l.length : Int) + 1)]
  else if c.kind = 3 then
    if at1 l c.name + 1 < l.length then [(1 + 2 * (at1 l c.name : Int), (l.getD (l.length - 1) (0, 0)).1), (2 + 2 * (at1 l c.name : Int), (l.getD (l.length - 1) (0, 0)).2), (0, (l.length : Int) - 1)] else [(0, (l.length : Int) - 1)]
  else if c.kind = 4 then [(2 + 2 * (at1 l c.name : Int), num l (at1 l c.name) + c.n)]
  else if c.kind = 6 then [(2 + 2 * (at1 l c.name : Int), num l (at1 l c.other)), (2 + 2 * (at1 l c.other : Int), num l (at1 l c.name))]
  else []

def planCl (l : List (Int × Int)) (c : Cl) : List (Int × Int) := if (doCl l c).2.err ≠ 0 then [] else planX l c

theorem plan_len (l : List (Int × Int)) (c : Cl) : (planCl l c).length ≤ 3 := by
  unfold planCl planX
  repeat' split
  all_goals simp

/-- Cells of which number and names are known. -/
theorem cells_are {ds : List Int} {l : List (Int × Int)} (h0 : ds.getD 0 0 = (l.length : Int)) (hp : ∀ i, i < l.length → ds.getD (1 + 2 * i) 0 = (l.getD i (0, 0)).1 ∧ ds.getD (1 + 2 * i + 1) 0 = (l.getD i (0, 0)).2) : ofCells ds (ds.getD 0 0).toNat = l := by
  rw [h0]
  refine ext_getD (by rw [length_ofCells]; omega) fun i hi => ?_
  rw [length_ofCells] at hi
  rw [ofCells_at _ _ _ hi]
  have := hp i (by omega)
  exact Prod.ext this.1 this.2

/-- What cells are behind all the writes. -/
theorem plan_of {xs : List Int} {c : Cl} {l : List (Int × Int)} (hl : xs.length = 11) (x0 : 0 ≤ xs.getD 0 0) (hll : xs.getD 0 0 = (l.length : Int)) (hat : ∀ i, i < l.length → xs.getD (1 + 2 * i) 0 = (l.getD i (0, 0)).1 ∧ xs.getD (1 + 2 * i + 1) 0 = (l.getD i (0, 0)).2)
    (hok : Okn l) (hc : wrongCl c = 0) :
    (setAll xs (planCl l c)).getD 0 0 = ((doCl l c).1.length : Int) ∧ ∀ i, i < (doCl l c).1.length → (setAll xs (planCl l c)).getD (1 + 2 * i) 0 = ((doCl l c).1.getD i (0, 0)).1 ∧ (setAll xs (planCl l c)).getD (1 + 2 * i + 1) 0 = ((doCl l c).1.getD i (0, 0)).2 := by
  have h5 := hok.len
  have hset : ∀ W j, j < 11 → (setAll xs W).getD j 0 = lastAt W j (xs.getD j 0) := fun W j hj => setAll_at xs W j (by omega)
  have hkk := okn_do hok hc
  by_cases he : (doCl l c).2.err ≠ 0
  · have e1 : planCl l c = [] := by unfold planCl; rw [if_pos he]
    have e2 : (doCl l c).1 = l := by
      rcases hkk.2.1 with h | h
      · exact absurd h he
      · exact h.2
    rw [e1, e2]
    exact ⟨hll, hat⟩
  have he' : (doCl l c).2.err = 0 := by simpa using he
  rw [show planCl l c = planX l c from if_neg he]
  clear hkk
  unfold planX
  obtain ⟨k, a, o, n⟩ := c
  simp only
  have hk : k = 1 ∨ k = 2 ∨ k = 3 ∨ k = 4 ∨ k = 5 ∨ k = 6 := by
    unfold wrongCl at hc
    split at hc
    · cases hc
    · rename_i h; simp at h; omega
  rcases hk with rfl | rfl | rfl | rfl | rfl | rfl
  · rw [if_pos rfl]
    have hd : doCl l ⟨1, a, o, n⟩ = if at1 l a < l.length then (put1 l (at1 l a) n, ⟨0, num l (at1 l a)⟩) else if 5 ≤ l.length then (l, ⟨9, 0⟩) else (l ++ [(a, n)], ⟨0, 0⟩) := rfl
    by_cases ha : at1 l a < l.length
    · rw [if_pos ha]
      rw [hd, if_pos ha]
      simp only [length_put1]
      refine ⟨?_, fun i hi => ?_⟩
      · rw [hset _ _ (by omega)]
        simp only [lastAt, List.foldl]
        rw [if_neg (by omega)]; exact hll
      · rw [hset _ _ (by omega), hset _ _ (by omega), fst_put1 _ _ _ _ ha, snd_put1 _ _ _ _ ha]
        simp only [lastAt, List.foldl]
        rw [if_neg (by omega)]
        refine ⟨(hat i hi).1, ?_⟩
        by_cases e : at1 l a = i
        · rw [if_pos (by omega), if_pos e]
        · rw [if_neg (by omega), if_neg e]; exact (hat i hi).2
    · rw [hd, if_neg ha] at he' ⊢
      rw [if_neg ha]
      by_cases hf : 5 ≤ l.length
      · rw [if_pos hf] at he'; simp at he'
      rw [if_neg hf]
      simp only [List.length_append, List.length_cons, List.length_nil]
      refine ⟨?_, fun i hi => ?_⟩
      · rw [hset _ _ (by omega)]
        simp only [lastAt, List.foldl]
        rw [if_pos (by omega)]; omega
      · rw [hset _ _ (by omega), hset _ _ (by omega)]
        simp only [lastAt, List.foldl]
        by_cases e : i < l.length
        · rw [if_neg (by omega), if_neg (by omega), if_neg (by omega), if_neg (by omega), if_neg (by omega), if_neg (by omega)]
          rw [List.getD_eq_getElem?_getD (l := l ++ [(a, n)]), List.getElem?_append_left e, ← List.getD_eq_getElem?_getD]
          exact hat i e
        · have e2 : i = l.length := by omega
          subst e2
          rw [if_neg (by omega), if_neg (by omega), if_pos (by omega), if_neg (by omega), if_pos (by omega)]
          simp
  · rw [if_neg (by decide), if_neg (by decide), if_neg (by decide), if_neg (by decide)]
    have hd : (doCl l ⟨2, a, o, n⟩).1 = l := by
      show (if ¬ at1 l a < l.length then (l, (⟨6, 0⟩ : Rp)) else (l, ⟨0, num l (at1 l a)⟩)).1 = l
      split <;> rfl
    rw [hd]
    exact ⟨hll, hat⟩
  · rw [if_neg (by decide), if_pos rfl]
    have hd : doCl l ⟨3, a, o, n⟩ = if ¬ at1 l a < l.length then (l, ⟨6, 0⟩) else ((l.set (at1 l a) (l.getD (l.length - 1) (0, 0))).take (l.length - 1), ⟨0, num l (at1 l a)⟩) := rfl
    by_cases ha : at1 l a < l.length
    case neg => rw [hd, if_pos ha] at he'; simp at he'
    rw [if_neg (by simpa using ha)] at hd
    rw [hd]
    simp only [length_dropped]
    have hpt : ∀ i, i < l.length - 1 → ((l.set (at1 l a) (l.getD (l.length - 1) (0, 0))).take (l.length - 1)).getD i (0, 0) = if at1 l a = i then l.getD (l.length - 1) (0, 0) else l.getD i (0, 0) := fun i hi => getD_dropped l _ i ha hi
    by_cases hb : at1 l a + 1 < l.length
    · rw [if_pos hb]
      refine ⟨?_, fun i hi => ?_⟩
      · rw [hset _ _ (by omega)]
        simp only [lastAt, List.foldl]
        rw [if_pos (by omega)]; omega
      · rw [hset _ _ (by omega), hset _ _ (by omega), hpt i hi]
        simp only [lastAt, List.foldl]
        by_cases e : at1 l a = i
        · rw [if_pos e]
          constructor
          · rw [if_neg (by omega), if_neg (by omega), if_pos (by omega)]
          · rw [if_neg (by omega), if_pos (by omega)]
        · rw [if_neg e]
          constructor
          · rw [if_neg (by omega), if_neg (by omega), if_neg (by omega)]; exact (hat i (by omega)).1
          · rw [if_neg (by omega), if_neg (by omega), if_neg (by omega)]; exact (hat i (by omega)).2
    · rw [if_neg hb]
      refine ⟨?_, fun i hi => ?_⟩
      · rw [hset _ _ (by omega)]
        simp only [lastAt, List.foldl]
        rw [if_pos (by omega)]; omega
      · rw [hset _ _ (by omega), hset _ _ (by omega), hpt i hi, if_neg (by omega)]
        simp only [lastAt, List.foldl]
        rw [if_neg (by omega), if_neg (by omega)]
        exact hat i (by omega)
  · rw [if_neg (by decide), if_neg (by decide), if_pos rfl]
    have hd : doCl l ⟨4, a, o, n⟩ = if ¬ at1 l a < l.length then (l, ⟨6, 0⟩) else if ¬ (-1073741824 ≤ num l (at1 l a) + n ∧ num l (at1 l a) + n ≤ 1073741824) then (l, ⟨3, 0⟩) else (put1 l (at1 l a) (num l (at1 l a) + n), ⟨0, num l (at1 l a) + n⟩) := rfl
    by_cases ha : at1 l a < l.length
    case neg => rw [hd, if_pos ha] at he'; simp at he'
    rw [hd, if_neg (by simpa using ha)] at he' ⊢
    by_cases hs : -1073741824 ≤ num l (at1 l a) + n ∧ num l (at1 l a) + n ≤ 1073741824
    case neg => rw [if_pos hs] at he'; simp at he'
    rw [if_neg (by simpa using hs)]
    simp only [length_put1]
    refine ⟨?_, fun i hi => ?_⟩
    · rw [hset _ _ (by omega)]
      simp only [lastAt, List.foldl]
      rw [if_neg (by omega)]; exact hll
    · rw [hset _ _ (by omega), hset _ _ (by omega), fst_put1 _ _ _ _ ha, snd_put1 _ _ _ _ ha]
      simp only [lastAt, List.foldl]
      rw [if_neg (by omega)]
      refine ⟨(hat i hi).1, ?_⟩
      by_cases e : at1 l a = i
      · rw [if_pos (by omega), if_pos e]
      · rw [if_neg (by omega), if_neg e]; exact (hat i hi).2
  · rw [if_neg (by decide), if_neg (by decide), if_neg (by decide), if_neg (by decide)]
    exact ⟨hll, hat⟩
  · rw [if_neg (by decide), if_neg (by decide), if_neg (by decide), if_pos rfl]
    have hd : doCl l ⟨6, a, o, n⟩ = if ¬ at1 l a < l.length then (l, ⟨6, 0⟩) else if ¬ at1 l o < l.length then (l, ⟨6, 0⟩)
      else (put1 (put1 l (at1 l a) (num l (at1 l o))) (at1 l o) (num l (at1 l a)), ⟨0, num l (at1 l o)⟩) := rfl
    by_cases ha : at1 l a < l.length
    case neg => rw [hd, if_pos ha] at he'; simp at he'
    rw [hd, if_neg (by simpa using ha)] at he' ⊢
    by_cases hb : at1 l o < l.length
    case neg => rw [if_pos hb] at he'; simp at he'
    rw [if_neg (by simpa using hb)]
    have hb2 : at1 l o < (put1 l (at1 l a) (num l (at1 l o))).length := by rw [length_put1]; exact hb
    simp only [length_put1]
    refine ⟨?_, fun i hi => ?_⟩
    · rw [hset _ _ (by omega)]
      simp only [lastAt, List.foldl]
      rw [if_neg (by omega), if_neg (by omega)]; exact hll
    · rw [hset _ _ (by omega), hset _ _ (by omega), fst_put1 _ _ _ _ hb2, fst_put1 _ _ _ _ ha, snd_put1 _ _ _ _ hb2, snd_put1 _ _ _ _ ha]
      simp only [lastAt, List.foldl]
      rw [if_neg (by omega), if_neg (by omega)]
      refine ⟨(hat i hi).1, ?_⟩
      by_cases e : at1 l o = i
      · rw [if_pos (by omega), if_pos e]
      · rw [if_neg (by omega), if_neg e]
        by_cases e2 : at1 l a = i
        · rw [if_pos (by omega), if_pos e2]
        · rw [if_neg (by omega), if_neg e2]; exact (hat i hi).2

/-- Bit by bit as at once. -/
theorem plan_model {xs : List Int} {c : Cl} (hx : wrongOf xs = 0) (hc : wrongCl c = 0) :
    wrongOf (setAll xs (planCl (ofCells xs (xs.getD 0 0).toNat) c)) = 0 ∧
    ofCells (setAll xs (planCl (ofCells xs (xs.getD 0 0).toNat) c)) ((setAll xs (planCl (ofCells xs (xs.getD 0 0).toNat) c)).getD 0 0).toNat = (doCl (ofCells xs (xs.getD 0 0).toNat) c).1 := by
  obtain ⟨hl, x0, x5, hok⟩ := (right_iff xs).1 hx
  have hll : xs.getD 0 0 = ((ofCells xs (xs.getD 0 0).toNat).length : Int) := by rw [length_ofCells]; omega
  obtain ⟨h1, h2⟩ := plan_of (c := c) hl x0 hll (fun i hi => by rw [length_ofCells] at hi; rw [ofCells_at _ _ _ hi]; exact ⟨rfl, rfl⟩) hok hc
  have e := cells_are h1 h2
  refine ⟨?_, e⟩
  have hd := okn_do hok hc
  rw [right_iff, e]
  have := hd.1.len
  exact ⟨by rw [length_setAll]; exact hl, by omega, by omega, hd.1⟩

/-- Nobody sees it ahead of time. -/
theorem plan_late {xs : List Int} {c : Cl} (hx : wrongOf xs = 0) {k : Nat} (hk : k < (planCl (ofCells xs (xs.getD 0 0).toNat) c).length) :
    (setAll xs ((planCl (ofCells xs (xs.getD 0 0).toNat) c).take k)).getD 0 0 = xs.getD 0 0 ∧
    (c.kind = 1 → ofCells (setAll xs ((planCl (ofCells xs (xs.getD 0 0).toNat) c).take k)) (xs.getD 0 0).toNat = ofCells xs (xs.getD 0 0).toNat) := by
  obtain ⟨hl, x0, x5, hok⟩ := (right_iff xs).1 hx
  have hset : ∀ W j, j < 11 → (setAll xs W).getD j 0 = lastAt W j (xs.getD j 0) := fun W j hj => setAll_at xs W j (by omega)
  have hln : (ofCells xs (xs.getD 0 0).toNat).length = (xs.getD 0 0).toNat := length_ofCells _ _
  have none : ∀ (V : List (Int × Int)) (j : Int) (x : Int), (∀ p ∈ V, p.1 ≠ j) → lastAt V j x = x := by
    intro V
    induction V with
    | nil => intro j x _; rfl
    | cons p V ih =>
      intro j x h
      show lastAt V j (if p.1 = j then p.2 else x) = x
      rw [if_neg (h p (by simp))]
      exact ih j x (fun q hq => h q (by simp [hq]))
  have keep : ∀ W : List (Int × Int), (∀ p ∈ W, 1 + 2 * ((xs.getD 0 0).toNat : Int) ≤ p.1) → ofCells (setAll xs W) (xs.getD 0 0).toNat = ofCells xs (xs.getD 0 0).toNat := fun W hW => by
    refine ext_getD (by rw [length_ofCells, length_ofCells]) fun i hi => ?_
    rw [length_ofCells] at hi
    rw [ofCells_at _ _ _ hi, ofCells_at _ _ _ hi, hset _ _ (by omega), hset _ _ (by omega), none _ _ _ (fun p hp => by have := hW p hp; omega), none _ _ _ (fun p hp => by have := hW p hp; omega)]
  have hold : ∀ W : List (Int × Int), (∀ p ∈ W, p.1 ≠ 0) → (setAll xs W).getD 0 0 = xs.getD 0 0 := fun W hW => by
    rw [hset _ _ (by omega)]
    exact none _ _ _ hW
  by_cases he : (doCl (ofCells xs (xs.getD 0 0).toNat) c).2.err ≠ 0
  · rw [show planCl (ofCells xs (xs.getD 0 0).toNat) c = [] from if_pos he] at hk
    simp at hk
  rw [show planCl (ofCells xs (xs.getD 0 0).toNat) c = planX (ofCells xs (xs.getD 0 0).toNat) c from if_neg he] at hk ⊢
  unfold planX at hk ⊢
  rw [hln] at hk ⊢
  generalize at1 (ofCells xs (xs.getD 0 0).toNat) c.name = A at *
  generalize at1 (ofCells xs (xs.getD 0 0).toNat) c.other = B at *
  by_cases h1 : c.kind = 1
  · simp only [h1, if_true] at hk ⊢
    by_cases ha : A < (xs.getD 0 0).toNat
    · rw [if_pos ha] at hk ⊢
      have : k = 0 := by simp at hk; exact hk
      subst this
      exact ⟨rfl, fun _ => rfl⟩
    · rw [if_neg ha] at hk ⊢
      have hin : ∀ p ∈ List.take k [(1 + 2 * ((xs.getD 0 0).toNat : Int), c.name), (2 + 2 * ((xs.getD 0 0).toNat : Int), c.n), (0, ((xs.getD 0 0).toNat : Int) + 1)], 1 + 2 * ((xs.getD 0 0).toNat : Int) ≤ p.1 := by
        intro p hp
        rcases k with _ | _ | _ | k
        · simp at hp
        · simp at hp; subst hp; simp
        · simp at hp; rcases hp with rfl | rfl <;> simp <;> omega
        · simp at hk; omega
      exact ⟨hold _ (fun p hp => by have := hin p hp; omega), fun _ => keep _ hin⟩
  refine ⟨hold _ (fun p hp => ?_), fun h => absurd h h1⟩
  rw [if_neg h1] at hk hp
  by_cases h3 : c.kind = 3
  · rw [if_pos h3] at hk hp
    by_cases ha : A + 1 < (xs.getD 0 0).toNat
    · rw [if_pos ha] at hk hp
      rcases k with _ | _ | _ | k
      · simp at hp
      · simp at hp; subst hp; simp; omega
      · simp at hp; rcases hp with rfl | rfl <;> simp <;> omega
      · simp at hk; omega
    · rw [if_neg ha] at hk hp
      have : k = 0 := by simp at hk; exact hk
      subst this
      simp at hp
  rw [if_neg h3] at hk hp
  by_cases h4 : c.kind = 4
  · rw [if_pos h4] at hk hp
    have : k = 0 := by simp at hk; exact hk
    subst this
    simp at hp
  rw [if_neg h4] at hk hp
  by_cases h6 : c.kind = 6
  · rw [if_pos h6] at hk hp
    have hm := List.mem_of_mem_take hp
    simp at hm
    rcases hm with rfl | rfl <;> simp <;> omega
  · rw [if_neg h6] at hk
    simp at hk

end Go.Mk

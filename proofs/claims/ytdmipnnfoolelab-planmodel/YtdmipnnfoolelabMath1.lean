/- Chapter 1, plain mathematics: cells as lists of numbers. -/
namespace Go.Mk

/-- As many entries as cell 0 tells, and as there is room for. -/
def entriesOf (xs : List Int) : Int := if xs.length = 0 then 0 else min (xs.getD 0 0) (((xs.length : Int) - 1) / 2)

/-- The first of n entries from i on that has that name. -/
def findIn (xs : List Int) (name : Int) : Nat → Nat → Int
  | 0, _ => -1
  | n + 1, i => if xs.getD (1 + 2 * i) 0 = name then (i : Int) else findIn xs name n (i + 1)

theorem findIn_hit {xs : List Int} {name n : Int} {k : Nat} (hlt : (k : Int) < n) (h : (xs.getD (1 + 2 * k) 0 == name) = true) : findIn xs name (n.toNat - k) k = (k : Int) := by
  obtain ⟨m, hm⟩ : ∃ m, n.toNat - k = m + 1 := ⟨n.toNat - k - 1, by omega⟩
  rw [hm, findIn, if_pos (by simpa using h)]
theorem findIn_miss {xs : List Int} {name n : Int} {k : Nat} (hlt : (k : Int) < n) (h : (xs.getD (1 + 2 * k) 0 == name) = false) : findIn xs name (n.toNat - k) k = findIn xs name (n.toNat - (k + 1)) (k + 1) := by
  obtain ⟨m, hm⟩ : ∃ m, n.toNat - k = m + 1 := ⟨n.toNat - k - 1, by omega⟩
  rw [hm, findIn, if_neg (by simpa using h), show n.toNat - (k + 1) = m by omega]
theorem findIn_end {xs : List Int} {name n : Int} {k : Nat} (hlt : ¬ (k : Int) < n) : findIn xs name (n.toNat - k) k = -1 := by
  rw [show n.toNat - k = 0 by omega, findIn]
theorem findIn_ge (xs : List Int) (name : Int) : ∀ n i, -1 ≤ findIn xs name n i
  | 0, _ => by simp [findIn]
  | n + 1, i => by
    rw [findIn]
    split
    · omega
    · exact findIn_ge xs name n (i + 1)
theorem findIn_lt (xs : List Int) (name : Int) : ∀ n i, findIn xs name n i < (i : Int) + n
  | 0, _ => by simp [findIn]; omega
  | n + 1, i => by
    rw [findIn]
    split
    · omega
    · have := findIn_lt xs name n (i + 1); omega

/-- What is wrong with entry i. -/
def wrongAt (xs : List Int) (i : Nat) : Int :=
  if ¬ (1 ≤ xs.getD (1 + 2 * i) 0 ∧ xs.getD (1 + 2 * i) 0 ≤ 255) ∨ ¬ (-1073741824 ≤ xs.getD (2 + 2 * i) 0 ∧ xs.getD (2 + 2 * i) 0 ≤ 1073741824) then 3
  else if 0 ≤ findIn xs (xs.getD (1 + 2 * i) 0) i 0 then 7 else 0

def wrongIn (xs : List Int) : Nat → Nat → Int
  | 0, _ => 0
  | n + 1, i => if wrongAt xs i = 0 then wrongIn xs n (i + 1) else wrongAt xs i

theorem wrongIn_bad {xs : List Int} {n : Int} {k : Nat} (hlt : (k : Int) < n) (h : (wrongAt xs k != 0) = true) : wrongIn xs (n.toNat - k) k = wrongAt xs k := by
  obtain ⟨m, hm⟩ : ∃ m, n.toNat - k = m + 1 := ⟨n.toNat - k - 1, by omega⟩
  rw [hm, wrongIn, if_neg (by simpa using h)]
theorem wrongIn_good {xs : List Int} {n : Int} {k : Nat} (hlt : (k : Int) < n) (h : (wrongAt xs k != 0) = false) : wrongIn xs (n.toNat - k) k = wrongIn xs (n.toNat - (k + 1)) (k + 1) := by
  obtain ⟨m, hm⟩ : ∃ m, n.toNat - k = m + 1 := ⟨n.toNat - k - 1, by omega⟩
  rw [hm, wrongIn, if_pos (by simpa using h), show n.toNat - (k + 1) = m by omega]
theorem wrongIn_end {xs : List Int} {n : Int} {k : Nat} (hlt : ¬ (k : Int) < n) : wrongIn xs (n.toNat - k) k = 0 := by
  rw [show n.toNat - k = 0 by omega, wrongIn]

/-- What is wrong with cells. -/
def wrongOf (xs : List Int) : Int :=
  if xs.length ≠ 11 then 5 else if ¬ (0 ≤ xs.getD 0 0 ∧ xs.getD 0 0 ≤ 5) then 3 else wrongIn xs (xs.getD 0 0).toNat 0

/-- One write: a cell that there is not is none. -/
def set1 (xs : List Int) (p : Int × Int) : List Int := if 0 ≤ p.1 ∧ p.1 < (xs.length : Int) then xs.set p.1.toNat p.2 else xs
/-- Write by write. -/
def setAll (xs : List Int) (l : List (Int × Int)) : List Int := l.foldl set1 xs
/-- What takes the writes back: the last one first. -/
def undoAll (xs : List Int) : List (Int × Int) → List (Int × Int)
  | [] => []
  | p :: l => undoAll (set1 xs p) l ++ (if 0 ≤ p.1 ∧ p.1 < (xs.length : Int) then [(p.1, xs.getD p.1.toNat 0)] else [])

theorem length_set1 (xs : List Int) (p : Int × Int) : (set1 xs p).length = xs.length := by unfold set1; split <;> simp
theorem length_setAll (xs : List Int) (l : List (Int × Int)) : (setAll xs l).length = xs.length := by
  induction l generalizing xs with
  | nil => rfl
  | cons p l ih => show (setAll (set1 xs p) l).length = _; rw [ih, length_set1]

/-- Taken back, it is as it was. -/
theorem set_undo (xs : List Int) (l : List (Int × Int)) : setAll (setAll xs l) (undoAll xs l) = xs := by
  induction l generalizing xs with
  | nil => rfl
  | cons p l ih =>
    show setAll (setAll (set1 xs p) l) (undoAll (set1 xs p) l ++ _) = xs
    unfold setAll at *
    rw [List.foldl_append, ih]
    by_cases h : 0 ≤ p.1 ∧ p.1 < (xs.length : Int)
    · rw [if_pos h]
      simp only [List.foldl_cons, List.foldl_nil]
      unfold set1
      simp only [h, and_self, if_true, List.length_set]
      rw [List.set_set]
      have hlt : p.1.toNat < xs.length := by omega
      rw [List.getD_eq_getElem?_getD, List.getElem?_eq_getElem hlt]
      exact List.set_getElem_self hlt
    · rw [if_neg h]
      simp only [List.foldl_nil]
      unfold set1
      rw [if_neg h]

/-- Who is apart may go first. -/
theorem set_apart (xs : List Int) (a b : Int × Int) (h : a.1 ≠ b.1) : setAll xs [a, b] = setAll xs [b, a] := by
  simp only [setAll, List.foldl_cons, List.foldl_nil]
  by_cases ha : 0 ≤ a.1 ∧ a.1 < (xs.length : Int) <;> by_cases hb : 0 ≤ b.1 ∧ b.1 < (xs.length : Int)
  · simp only [set1, ha, hb, and_self, if_true, List.length_set]
    rw [List.set_comm]
    omega
  all_goals simp [set1, ha, hb]

theorem setAll_snoc (xs : List Int) (l : List (Int × Int)) (p : Int × Int) : setAll xs (l ++ [p]) = set1 (setAll xs l) p := by simp [setAll]

theorem undoAll_snoc (xs : List Int) (l : List (Int × Int)) (p : Int × Int) :
    undoAll xs (l ++ [p]) = (if 0 ≤ p.1 ∧ p.1 < (xs.length : Int) then [(p.1, (setAll xs l).getD p.1.toNat 0)] else []) ++ undoAll xs l := by
  induction l generalizing xs with
  | nil => simp [undoAll, setAll]
  | cons q l ih =>
    show undoAll (set1 xs q) (l ++ [p]) ++ _ = _ ++ (undoAll (set1 xs q) l ++ _)
    rw [ih, length_set1, ← List.append_assoc]
    rfl

theorem undoAll_len (xs : List Int) (l : List (Int × Int)) : (undoAll xs l).length ≤ l.length := by
  induction l generalizing xs with
  | nil => simp [undoAll]
  | cons p l ih =>
    rw [undoAll, List.length_append]
    have := ih (set1 xs p)
    simp only [List.length_cons]
    split <;> simp <;> omega

/-- A list turned round, as far as k from both ends. -/
def rv (us : List (Int × Int)) (k : Nat) : List (Int × Int) := (List.range us.length).map fun i => if i < k ∨ us.length ≤ i + k then us.getD (us.length - 1 - i) (0, 0) else us.getD i (0, 0)
theorem length_rv (us : List (Int × Int)) (k : Nat) : (rv us k).length = us.length := by simp [rv]
theorem getElem?_rv (us : List (Int × Int)) (k i : Nat) : (rv us k)[i]? = if i < us.length then some (if i < k ∨ us.length ≤ i + k then us.getD (us.length - 1 - i) (0, 0) else us.getD i (0, 0)) else none := by
  unfold rv
  rw [List.getElem?_map]
  by_cases h : i < us.length
  · simp [h]
  · simp [h]
theorem rv_zero (us : List (Int × Int)) : rv us 0 = us := by
  apply List.ext_getElem?
  intro i
  rw [getElem?_rv]
  by_cases h : i < us.length
  · rw [if_pos h, if_neg (by omega)]
    simp [h]
  · rw [if_neg h]
    simp [h]
theorem rv_end (us : List (Int × Int)) (k : Nat) (h : us.length ≤ 2 * k + 1) : rv us k = us.reverse := by
  apply List.ext_getElem?
  intro i
  rw [getElem?_rv]
  by_cases hi : i < us.length
  · rw [if_pos hi, List.getElem?_reverse hi]
    have h1 : us.length - 1 - i < us.length := by omega
    by_cases hc : i < k ∨ us.length ≤ i + k
    · rw [if_pos hc]
      simp [h1]
    · rw [if_neg hc, show us.length - 1 - i = i by omega]
      simp [hi]
  · rw [if_neg hi]
    rw [List.getElem?_eq_none (by simp; omega)]
theorem rv_step (us : List (Int × Int)) (k : Nat) (h : 2 * k + 1 < us.length) : rv us (k + 1) = ((rv us k).set k (us.getD (us.length - 1 - k) (0, 0))).set (us.length - 1 - k) (us.getD k (0, 0)) := by
  apply List.ext_getElem?
  intro i
  rw [getElem?_rv, List.getElem?_set, List.length_set, length_rv, List.getElem?_set, length_rv, getElem?_rv]
  by_cases hi : i < us.length
  · rw [if_pos hi]
    by_cases h1 : us.length - 1 - k = i
    · rw [if_pos h1, if_pos (by omega), if_pos (by omega), show us.length - 1 - i = k by omega]
    · rw [if_neg h1]
      by_cases h2 : k = i
      · subst h2
        rw [if_pos rfl, if_pos hi, if_pos (by omega)]
      · rw [if_neg h2, if_pos hi]
        by_cases h3 : i < k ∨ us.length ≤ i + k
        · rw [if_pos h3, if_pos (by omega)]
        · rw [if_neg h3, if_neg (by omega)]
  · rw [if_neg hi, if_neg (by omega), if_neg (by omega), if_neg hi]
theorem rv_at (us : List (Int × Int)) (k : Nat) (h : 2 * k + 1 < us.length) : (rv us k).getD k (0, 0) = us.getD k (0, 0) ∧ (rv us k).getD (us.length - 1 - k) (0, 0) = us.getD (us.length - 1 - k) (0, 0) := by
  constructor
  · rw [List.getD_eq_getElem?_getD, getElem?_rv, if_pos (by omega), if_neg (by omega)]; rfl
  · rw [List.getD_eq_getElem?_getD, getElem?_rv, if_pos (by omega), if_neg (by omega)]; rfl

/-- What cell i has behind the writes, write by write. -/
def lastAt (l : List (Int × Int)) (i : Int) (n : Int) : Int := l.foldl (fun n p => if p.1 = i then p.2 else n) n
theorem lastAt_snoc (l : List (Int × Int)) (p : Int × Int) (i n : Int) : lastAt (l ++ [p]) i n = if p.1 = i then p.2 else lastAt l i n := by simp [lastAt]
theorem set1_at (xs : List Int) (p : Int × Int) (i : Nat) (hi : i < xs.length) : (set1 xs p).getD i 0 = if p.1 = (i : Int) then p.2 else xs.getD i 0 := by
  unfold set1
  by_cases h : 0 ≤ p.1 ∧ p.1 < (xs.length : Int)
  · rw [if_pos h]
    by_cases he : p.1 = (i : Int)
    · rw [if_pos he, show p.1.toNat = i by omega]
      simp [hi]
    · rw [if_neg he, List.getD_eq_getElem?_getD, List.getElem?_set_ne (by omega), List.getD_eq_getElem?_getD]
  · rw [if_neg h, if_neg (by omega)]
theorem setAll_at (xs : List Int) (l : List (Int × Int)) (i : Nat) (hi : i < xs.length) : (setAll xs l).getD i 0 = lastAt l i (xs.getD i 0) := by
  induction l generalizing xs with
  | nil => rfl
  | cons p l ih =>
    show (setAll (set1 xs p) l).getD i 0 = lastAt l i (if p.1 = (i : Int) then p.2 else xs.getD i 0)
    rw [ih _ (by rw [length_set1]; exact hi), set1_at xs p i hi]
theorem setAll_take (xs : List Int) (l : List (Int × Int)) (k : Nat) (hk : k < xs.length) : (setAll xs l).take (k + 1) = (setAll xs l).take k ++ [lastAt l k (xs.getD k 0)] := by
  rw [← setAll_at xs l k hk, List.take_add_one]
  have : k < (setAll xs l).length := by rw [length_setAll]; exact hk
  simp [this]

end Go.Mk

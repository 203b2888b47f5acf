/- Chapter 2, plain mathematics: names that have numbers, calls, and what is told. -/
import Derived.Test.YtdmipnnfoolelabDoorMem
namespace Go.Mk
open Go Go.RowKit

structure Cl where
  kind : Int
  name : Int
  other : Int
  n : Int
structure Rp where
  err : Int
  n : Int
structure Rq where
  client : Int
  token : Int
  call : Cl
abbrev Cl.val (c : Cl) : Value := .agg #[I c.kind, I c.name, I c.other, I c.n]
abbrev Rp.val (r : Rp) : Value := .agg #[I r.err, I r.n]

/-- What is wrong with a call. -/
def wrongCl (c : Cl) : Int :=
  if ¬ (1 ≤ c.kind ∧ c.kind ≤ 6) then 1
  else if c.kind = 5 ∧ c.name ≠ 0 ∨ c.kind ≠ 5 ∧ ¬ (1 ≤ c.name ∧ c.name ≤ 255) then 7
  else if c.kind = 6 ∧ ¬ (1 ≤ c.other ∧ c.other ≤ 255) ∨ c.kind ≠ 6 ∧ c.other ≠ 0 then 7
  else if (c.kind = 1 ∨ c.kind = 4) ∧ ¬ (-1073741824 ≤ c.n ∧ c.n ≤ 1073741824) ∨ ¬ (c.kind = 1 ∨ c.kind = 4) ∧ c.n ≠ 0 then 3
  else 0

/-- Where a name is; as many as there are, if it is not there. -/
def at1 (l : List (Int × Int)) (name : Int) : Nat := l.findIdx (fun p => p.1 == name)
/-- The number at a place. -/
def num (l : List (Int × Int)) (i : Nat) : Int := (l.getD i (0, 0)).2
def put1 (l : List (Int × Int)) (i : Nat) (n : Int) : List (Int × Int) := l.set i ((l.getD i (0, 0)).1, n)

def doCl (l : List (Int × Int)) (c : Cl) : List (Int × Int) × Rp :=
  if c.kind = 5 then (l, ⟨0, l.length⟩)
  else if c.kind = 1 then
    if at1 l c.name < l.length then (put1 l (at1 l c.name) c.n, ⟨0, num l (at1 l c.name)⟩)
    else if 5 ≤ l.length then (l, ⟨9, 0⟩) else (l ++ [(c.name, c.n)], ⟨0, 0⟩)
  else if ¬ at1 l c.name < l.length then (l, ⟨6, 0⟩)
  else if c.kind = 2 then (l, ⟨0, num l (at1 l c.name)⟩)
  else if c.kind = 3 then ((l.set (at1 l c.name) (l.getD (l.length - 1) (0, 0))).take (l.length - 1), ⟨0, num l (at1 l c.name)⟩)
  else if c.kind = 4 then
    if ¬ (-1073741824 ≤ num l (at1 l c.name) + c.n ∧ num l (at1 l c.name) + c.n ≤ 1073741824) then (l, ⟨3, 0⟩)
    else (put1 l (at1 l c.name) (num l (at1 l c.name) + c.n), ⟨0, num l (at1 l c.name) + c.n⟩)
  else if ¬ at1 l c.other < l.length then (l, ⟨6, 0⟩)
  else (put1 (put1 l (at1 l c.name) (num l (at1 l c.other))) (at1 l c.other) (num l (at1 l c.name)), ⟨0, num l (at1 l c.other)⟩)

/-- Names that are unlike, no more than may be, and numbers that may be. -/
def Okn (l : List (Int × Int)) : Prop := l.length ≤ 5 ∧ (∀ p ∈ l, 1 ≤ p.1 ∧ p.1 ≤ 255 ∧ -1073741824 ≤ p.2 ∧ p.2 ≤ 1073741824) ∧ (l.map Prod.fst).Nodup

/-- No more names than may be, and numbers that may be; names need not be unlike. -/
def Okw (l : List (Int × Int)) : Prop := l.length ≤ 5 ∧ ∀ p ∈ l, 0 ≤ p.1 ∧ p.1 ≤ 255 ∧ -1073741824 ≤ p.2 ∧ p.2 ≤ 1073741824
theorem Okn.w {l : List (Int × Int)} (h : Okn l) : Okw l := ⟨h.1, fun p hp => by have := h.2.1 p hp; omega⟩
theorem Okw.len {l : List (Int × Int)} (h : Okw l) : l.length ≤ 5 := h.1
theorem Okw.at {l : List (Int × Int)} (h : Okw l) {i : Nat} (hi : i < l.length) : 0 ≤ (l.getD i (0, 0)).1 ∧ (l.getD i (0, 0)).1 ≤ 255 ∧ -1073741824 ≤ (l.getD i (0, 0)).2 ∧ (l.getD i (0, 0)).2 ≤ 1073741824 := by
  rw [List.getD_eq_getElem?_getD, List.getElem?_eq_getElem hi]
  exact h.2 _ (List.getElem_mem hi)

theorem at1_le (l : List (Int × Int)) (name : Int) : at1 l name ≤ l.length := List.findIdx_le_length
theorem at1_hit {l : List (Int × Int)} {name : Int} (h : at1 l name < l.length) : (l.getD (at1 l name) (0, 0)).1 = name := by
  have := List.findIdx_getElem (w := h)
  rw [List.getD_eq_getElem?_getD, List.getElem?_eq_getElem h]
  exact eq_of_beq this
/-- The search, place by place. -/
theorem at1_of {l : List (Int × Int)} {name : Int} {k : Nat} (hk : k < l.length) (h : (l.getD k (0, 0)).1 = name) (hb : ∀ j, j < k → (l.getD j (0, 0)).1 ≠ name) : at1 l name = k := by
  unfold at1
  rw [List.findIdx_eq hk]
  refine ⟨by simpa [List.getD_eq_getElem?_getD, hk] using h, fun j hj => ?_⟩
  have := hb j hj
  simpa [List.getD_eq_getElem?_getD, Nat.lt_trans hj hk] using this
theorem at1_none {l : List (Int × Int)} {name : Int} (hb : ∀ j, j < l.length → (l.getD j (0, 0)).1 ≠ name) : at1 l name = l.length := by
  unfold at1
  rw [List.findIdx_eq_length]
  intro p hp
  obtain ⟨j, hj, rfl⟩ := List.mem_iff_getElem.1 hp
  have := hb j hj
  simpa [List.getD_eq_getElem?_getD, hj] using this
theorem at1_before {l : List (Int × Int)} {name : Int} {j : Nat} (h : j < at1 l name) : (l.getD j (0, 0)).1 ≠ name := by
  have hl : j < l.length := Nat.lt_of_lt_of_le h (at1_le l name)
  have := List.not_of_lt_findIdx h
  simpa [List.getD_eq_getElem?_getD, hl] using this

theorem Okn.len {l : List (Int × Int)} (h : Okn l) : l.length ≤ 5 := h.1
theorem Okn.at {l : List (Int × Int)} (h : Okn l) {i : Nat} (hi : i < l.length) : 1 ≤ (l.getD i (0, 0)).1 ∧ (l.getD i (0, 0)).1 ≤ 255 ∧ -1073741824 ≤ (l.getD i (0, 0)).2 ∧ (l.getD i (0, 0)).2 ≤ 1073741824 := by
  rw [List.getD_eq_getElem?_getD, List.getElem?_eq_getElem hi]
  exact h.2.1 _ (List.getElem_mem hi)
theorem Okn.uni {l : List (Int × Int)} (h : Okn l) {i j : Nat} (hi : i < l.length) (hj : j < l.length) (e : (l.getD i (0, 0)).1 = (l.getD j (0, 0)).1) : i = j := by
  have h2 := h.2.2
  rw [List.nodup_iff_pairwise_ne, List.pairwise_iff_getElem] at h2
  rw [List.getD_eq_getElem?_getD, List.getElem?_eq_getElem hi, List.getD_eq_getElem?_getD, List.getElem?_eq_getElem hj] at e
  rcases Nat.lt_trichotomy i j with hlt | heq | hgt
  · exact absurd (by rw [List.getElem_map, List.getElem_map]; exact e) (h2 i j (by simpa using hi) (by simpa using hj) hlt)
  · exact heq
  · exact absurd (by rw [List.getElem_map, List.getElem_map]; exact e.symm) (h2 j i (by simpa using hj) (by simpa using hi) hgt)
theorem okn_of {l : List (Int × Int)} (h1 : l.length ≤ 5) (h2 : ∀ i, i < l.length → 1 ≤ (l.getD i (0, 0)).1 ∧ (l.getD i (0, 0)).1 ≤ 255 ∧ -1073741824 ≤ (l.getD i (0, 0)).2 ∧ (l.getD i (0, 0)).2 ≤ 1073741824)
    (h3 : ∀ i j, i < j → j < l.length → (l.getD i (0, 0)).1 ≠ (l.getD j (0, 0)).1) : Okn l := by
  refine ⟨h1, fun p hp => ?_, ?_⟩
  · obtain ⟨i, hi, rfl⟩ := List.mem_iff_getElem.1 hp
    have := h2 i hi
    rwa [List.getD_eq_getElem?_getD, List.getElem?_eq_getElem hi] at this
  · rw [List.nodup_iff_pairwise_ne, List.pairwise_iff_getElem]
    intro i j hi hj hij
    have := h3 i j hij (by simpa using hj)
    rw [List.length_map] at hi hj
    rw [List.getD_eq_getElem?_getD, List.getElem?_eq_getElem hi, List.getD_eq_getElem?_getD, List.getElem?_eq_getElem hj] at this
    simpa using this

theorem length_put1 (l : List (Int × Int)) (i : Nat) (n : Int) : (put1 l i n).length = l.length := by simp [put1]
theorem getD_put1 (l : List (Int × Int)) (i j : Nat) (n : Int) (hi : i < l.length) : (put1 l i n).getD j (0, 0) = if i = j then ((l.getD j (0, 0)).1, n) else l.getD j (0, 0) := by
  unfold put1
  rw [List.getD_eq_getElem?_getD, List.getElem?_set]
  by_cases h : i = j
  · subst h; rw [if_pos rfl, if_pos hi, if_pos rfl]; rfl
  · rw [if_neg h, if_neg h, List.getD_eq_getElem?_getD]
theorem fst_put1 (l : List (Int × Int)) (i j : Nat) (n : Int) (hi : i < l.length) : ((put1 l i n).getD j (0, 0)).1 = (l.getD j (0, 0)).1 := by
  rw [getD_put1 l i j n hi]; split <;> rfl
theorem snd_put1 (l : List (Int × Int)) (i j : Nat) (n : Int) (hi : i < l.length) : ((put1 l i n).getD j (0, 0)).2 = if i = j then n else (l.getD j (0, 0)).2 := by
  rw [getD_put1 l i j n hi]; split <;> rfl
theorem num_put1 (l : List (Int × Int)) (i j : Nat) (n : Int) (hi : i < l.length) : num (put1 l i n) j = if i = j then n else num l j := snd_put1 l i j n hi
theorem ext_getD {l m : List (Int × Int)} (h : l.length = m.length) (hj : ∀ j, j < l.length → l.getD j (0, 0) = m.getD j (0, 0)) : l = m := by
  refine List.ext_getElem h fun i h1 h2 => ?_
  have := hj i h1
  rwa [List.getD_eq_getElem?_getD, List.getElem?_eq_getElem h1, List.getD_eq_getElem?_getD, List.getElem?_eq_getElem h2] at this
theorem okn_put1 {l : List (Int × Int)} (h : Okn l) {i : Nat} (hi : i < l.length) {n : Int} (h1 : -1073741824 ≤ n) (h2 : n ≤ 1073741824) : Okn (put1 l i n) := by
  refine okn_of (by rw [length_put1]; exact h.1) (fun j hj => ?_) (fun j k hjk hk => ?_)
  · rw [length_put1] at hj
    rw [fst_put1 l i j n hi, snd_put1 l i j n hi]
    have := h.at hj
    split <;> omega
  · rw [length_put1] at hk
    rw [fst_put1 l i j n hi, fst_put1 l i k n hi]
    intro e
    have := h.uni (by omega) hk e
    omega
theorem at1_put1 (l : List (Int × Int)) (i : Nat) (n : Int) (hi : i < l.length) (name : Int) : at1 (put1 l i n) name = at1 l name := by
  by_cases h : at1 l name < l.length
  · refine at1_of (by rw [length_put1]; exact h) (by rw [fst_put1 _ _ _ _ hi]; exact at1_hit h) (fun j hj => by rw [fst_put1 _ _ _ _ hi]; exact at1_before hj)
  · have e : at1 l name = l.length := by have := at1_le l name; omega
    rw [e, ← length_put1 l i n]
    exact at1_none (fun j hj => by rw [fst_put1 _ _ _ _ hi]; rw [length_put1] at hj; exact at1_before (by omega))

theorem getD_dropped (l : List (Int × Int)) (i j : Nat) (hi : i < l.length) (hj : j < l.length - 1) : ((l.set i (l.getD (l.length - 1) (0, 0))).take (l.length - 1)).getD j (0, 0) = if i = j then l.getD (l.length - 1) (0, 0) else l.getD j (0, 0) := by
  rw [List.getD_eq_getElem?_getD, List.getElem?_take, if_pos hj, List.getElem?_set]
  by_cases h : i = j
  · rw [if_pos h, if_pos hi, if_pos h]; rfl
  · rw [if_neg h, if_neg h, ← List.getD_eq_getElem?_getD]
theorem length_dropped (l : List (Int × Int)) (i : Nat) (p : Int × Int) : ((l.set i p).take (l.length - 1)).length = l.length - 1 := by simp

theorem len_do {l : List (Int × Int)} {c : Cl} (h : l.length ≤ 5) : (doCl l c).1.length ≤ 5 := by
  unfold doCl
  repeat' split
  all_goals first | exact h | (simp only [length_put1, length_dropped, List.length_append, List.length_cons, List.length_nil]; omega)

/-- What may be stays so. -/
theorem okn_do {l : List (Int × Int)} {c : Cl} (h : Okn l) (hc : wrongCl c = 0) : Okn (doCl l c).1 ∧ ((doCl l c).2.err = 0 ∨ (doCl l c).2.n = 0 ∧ (doCl l c).1 = l) ∧ -1073741824 ≤ (doCl l c).2.n ∧ (doCl l c).2.n ≤ 1073741824 := by
  have hl := h.len
  have hnum : ∀ i, i < l.length → -1073741824 ≤ num l i ∧ num l i ≤ 1073741824 := fun i hi => (h.at hi).2.2
  unfold wrongCl at hc
  by_cases k1 : 1 ≤ c.kind ∧ c.kind ≤ 6
  case neg => rw [if_pos k1] at hc; cases hc
  rw [if_neg (by simpa using k1)] at hc
  split at hc
  · cases hc
  rename_i hn
  split at hc
  · cases hc
  rename_i ho
  split at hc
  · cases hc
  rename_i hm
  unfold doCl
  by_cases h5 : c.kind = 5
  · rw [if_pos h5]
    exact ⟨h, .inl rfl, by simp only; omega, by simp only; omega⟩
  rw [if_neg h5]
  by_cases h1 : c.kind = 1
  · rw [if_pos h1]
    by_cases ha : at1 l c.name < l.length
    · rw [if_pos ha]
      exact ⟨okn_put1 h ha (by omega) (by omega), .inl rfl, (hnum _ ha).1, (hnum _ ha).2⟩
    · rw [if_neg ha]
      by_cases hf : 5 ≤ l.length
      · rw [if_pos hf]
        exact ⟨h, .inr ⟨rfl, rfl⟩, by simp only; omega, by simp only; omega⟩
      · rw [if_neg hf]
        have e : at1 l c.name = l.length := by have := at1_le l c.name; omega
        refine ⟨okn_of (by simp; omega) (fun j hj => ?_) (fun j k hjk hk => ?_), .inl rfl, by simp only; omega, by simp only; omega⟩
        · simp only [List.length_append, List.length_cons, List.length_nil] at hj
          by_cases hj' : j < l.length
          · rw [List.getD_eq_getElem?_getD, List.getElem?_append_left hj', ← List.getD_eq_getElem?_getD]
            exact h.at hj'
          · rw [List.getD_eq_getElem?_getD, List.getElem?_append_right (by omega), show j - l.length = 0 by omega]
            show 1 ≤ c.name ∧ c.name ≤ 255 ∧ -1073741824 ≤ c.n ∧ c.n ≤ 1073741824
            omega
        · simp only [List.length_append, List.length_cons, List.length_nil] at hk
          rw [List.getD_eq_getElem?_getD, List.getElem?_append_left (by omega), ← List.getD_eq_getElem?_getD]
          by_cases hk' : k < l.length
          · rw [List.getD_eq_getElem?_getD (i := k), List.getElem?_append_left hk', ← List.getD_eq_getElem?_getD]
            intro he
            have := h.uni (by omega) hk' he
            omega
          · rw [List.getD_eq_getElem?_getD (i := k), List.getElem?_append_right (by omega), show k - l.length = 0 by omega]
            exact at1_before (name := c.name) (by omega)
  rw [if_neg h1]
  by_cases ha : at1 l c.name < l.length
  case neg => rw [if_pos ha]; exact ⟨h, .inr ⟨rfl, rfl⟩, by simp only; omega, by simp only; omega⟩
  rw [if_neg (by simpa using ha)]
  by_cases h2 : c.kind = 2
  · rw [if_pos h2]; exact ⟨h, .inl rfl, (hnum _ ha).1, (hnum _ ha).2⟩
  rw [if_neg h2]
  by_cases h3 : c.kind = 3
  · rw [if_pos h3]
    refine ⟨okn_of (by rw [length_dropped]; omega) (fun j hj => ?_) (fun j k hjk hk => ?_), .inl rfl, (hnum _ ha).1, (hnum _ ha).2⟩
    · rw [length_dropped] at hj
      rw [getD_dropped l _ j ha hj]
      split
      · exact h.at (by omega)
      · exact h.at (by omega)
    · rw [length_dropped] at hk
      rw [getD_dropped l _ j ha (by omega), getD_dropped l _ k ha hk]
      intro he
      by_cases ej : at1 l c.name = j
      · rw [if_pos ej, if_neg (by omega)] at he
        have := h.uni (by omega) (by omega) he
        omega
      · rw [if_neg ej] at he
        by_cases ek : at1 l c.name = k
        · rw [if_pos ek] at he
          have := h.uni (by omega) (by omega) he
          omega
        · rw [if_neg ek] at he
          have := h.uni (by omega) (by omega) he
          omega
  rw [if_neg h3]
  by_cases h4 : c.kind = 4
  · rw [if_pos h4]
    by_cases hs : -1073741824 ≤ num l (at1 l c.name) + c.n ∧ num l (at1 l c.name) + c.n ≤ 1073741824
    · rw [if_neg (by simpa using hs)]
      exact ⟨okn_put1 h ha hs.1 hs.2, .inl rfl, hs.1, hs.2⟩
    · rw [if_pos hs]; exact ⟨h, .inr ⟨rfl, rfl⟩, by simp only; omega, by simp only; omega⟩
  rw [if_neg h4]
  by_cases hb : at1 l c.other < l.length
  case neg => rw [if_pos hb]; exact ⟨h, .inr ⟨rfl, rfl⟩, by simp only; omega, by simp only; omega⟩
  rw [if_neg (by simpa using hb)]
  exact ⟨okn_put1 (okn_put1 h ha (hnum _ hb).1 (hnum _ hb).2) (by rw [length_put1]; exact hb) (hnum _ ha).1 (hnum _ ha).2, .inl rfl, (hnum _ hb).1, (hnum _ hb).2⟩

theorem doCl_swap (l : List (Int × Int)) (a b : Int) : doCl l ⟨6, a, b, 0⟩ = if ¬ at1 l a < l.length then (l, ⟨6, 0⟩) else if ¬ at1 l b < l.length then (l, ⟨6, 0⟩)
    else (put1 (put1 l (at1 l a) (num l (at1 l b))) (at1 l b) (num l (at1 l a)), ⟨0, num l (at1 l b)⟩) := rfl
/-- Turned twice it is as it was. -/
theorem swap_twice (l : List (Int × Int)) (a b : Int) : (doCl (doCl l ⟨6, a, b, 0⟩).1 ⟨6, b, a, 0⟩).1 = l ∧ (doCl (doCl l ⟨6, a, b, 0⟩).1 ⟨6, b, a, 0⟩).2.err = (doCl l ⟨6, a, b, 0⟩).2.err := by
  rw [doCl_swap l a b]
  by_cases ha : at1 l a < l.length
  case neg =>
    rw [if_pos ha]
    simp only
    rw [doCl_swap l b a]
    by_cases hb : at1 l b < l.length
    · rw [if_neg (by simpa using hb), if_pos ha]; exact ⟨rfl, rfl⟩
    · rw [if_pos hb]; exact ⟨rfl, rfl⟩
  rw [if_neg (by simpa using ha)]
  by_cases hb : at1 l b < l.length
  case neg =>
    rw [if_pos hb]
    simp only
    rw [doCl_swap l b a, if_pos hb]; exact ⟨rfl, rfl⟩
  rw [if_neg (by simpa using hb)]
  simp only
  have hb1 : at1 l b < (put1 l (at1 l a) (num l (at1 l b))).length := by rw [length_put1]; exact hb
  have ha2 : at1 l a < (put1 (put1 l (at1 l a) (num l (at1 l b))) (at1 l b) (num l (at1 l a))).length := by rw [length_put1, length_put1]; exact ha
  have hb2 : at1 l b < (put1 (put1 l (at1 l a) (num l (at1 l b))) (at1 l b) (num l (at1 l a))).length := by rw [length_put1, length_put1]; exact hb
  rw [doCl_swap _ b a, at1_put1 _ _ _ hb1, at1_put1 _ _ _ ha, at1_put1 _ _ _ hb1, at1_put1 _ _ _ ha, if_neg (by simpa using hb2), if_neg (by simpa using ha2)]
  refine ⟨?_, rfl⟩
  have hb3 : at1 l b < (put1 (put1 (put1 l (at1 l a) (num l (at1 l b))) (at1 l b) (num l (at1 l a))) (at1 l b) (num (put1 (put1 l (at1 l a) (num l (at1 l b))) (at1 l b) (num l (at1 l a))) (at1 l a))).length := by rw [length_put1]; exact hb2
  have ha3 : at1 l a < (put1 (put1 (put1 l (at1 l a) (num l (at1 l b))) (at1 l b) (num l (at1 l a))) (at1 l b) (num (put1 (put1 l (at1 l a) (num l (at1 l b))) (at1 l b) (num l (at1 l a))) (at1 l a))).length := by rw [length_put1]; exact ha2
  refine ext_getD (by simp only [length_put1]) fun j hj => ?_
  refine Prod.ext ?_ ?_
  · rw [fst_put1 _ _ _ _ ha3, fst_put1 _ _ _ _ hb2, fst_put1 _ _ _ _ hb1, fst_put1 _ _ _ _ ha]
  · rw [snd_put1 _ _ _ _ ha3, snd_put1 _ _ _ _ hb2, snd_put1 _ _ _ _ hb1, snd_put1 _ _ _ _ ha, num_put1 _ _ _ _ hb1, num_put1 _ _ _ _ ha, num_put1 _ _ _ _ hb1]
    by_cases e1 : at1 l a = j
    · rw [if_pos e1]
      subst e1
      rw [if_pos rfl]
      rfl
    · rw [if_neg e1]
      by_cases e2 : at1 l b = j
      · rw [if_pos e2]
        subst e2
        rw [if_neg (fun e => e1 e.symm), num_put1 _ _ _ _ ha, if_pos rfl]
        rfl
      · rw [if_neg e2, if_neg e2, if_neg e1]

end Go.Mk

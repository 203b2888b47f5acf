/- Chapter 3, plain mathematics: how texts are cut, at the first sign, at most so often; and joined. -/
import Derived.Test.YtdmipnnfoolelabDoorMath4
import Derived.Lib.Split
import Derived.Lib.Join
namespace Go.Mk
open Go Go.RowKit Go.Lib

theorem first_of {c : UInt8} : ∀ {s : Bs}, c ∈ s → ∃ w r, s = w ++ c :: r ∧ c ∉ w
  | [], h => by simp at h
  | b :: s, h => by
    by_cases hb : c = b
    · exact ⟨[], s, by rw [hb]; rfl, by simp⟩
    · have hm : c ∈ s := by simpa [hb] using h
      obtain ⟨w, r, e, hw⟩ := first_of hm
      exact ⟨b :: w, r, by rw [e]; rfl, by simp [hb, hw]⟩
theorem indexOne : ∀ (s : Bs) (c : UInt8), Lib.index s [c] = Lib.indexByte s c
  | [], c => rfl
  | b :: l, c => by
    have e : ([c].isPrefixOf (b :: l)) = (b == c) := by
      rw [List.isPrefixOf]
      simp [List.isPrefixOf]
      exact Bool.beq_comm
    unfold Lib.index Lib.indexByte
    rw [e, indexOne l c]
theorem indexByte_none : ∀ {s : Bs} {c : UInt8}, c ∉ s → Lib.indexByte s c = -1
  | [], c, _ => rfl
  | b :: l, c, h => by
    simp only [List.mem_cons, not_or] at h
    unfold Lib.indexByte
    rw [if_neg (by simp; exact fun e => h.1 e.symm), indexByte_none h.2]
    rfl
theorem indexByte_first : ∀ {w r : Bs} {c : UInt8}, c ∉ w → Lib.indexByte (w ++ c :: r) c = w.length
  | [], r, c, _ => by simp [Lib.indexByte]
  | b :: w, r, c, h => by
    simp only [List.mem_cons, not_or] at h
    rw [List.cons_append]
    unfold Lib.indexByte
    rw [if_neg (by simp; exact fun e => h.1 e.symm), indexByte_first h.2]
    rw [if_neg (by simp)]
    simp
theorem split_first {c : UInt8} {w r : Bs} (h : c ∉ w) : splitB c (w ++ c :: r) = w :: splitB c r := by
  rw [split_word c w h, splitB, if_pos rfl]
  simp
theorem splitK_none {c : UInt8} {s : Bs} (h : c ∉ s) (k : Nat) : Lib.splitK [c] 0 k s = [s] := by
  cases k with
  | zero => rfl
  | succ k => unfold Lib.splitK; rw [indexOne, indexByte_none h]; rfl
theorem splitK_first {c : UInt8} {w r : Bs} (h : c ∉ w) (k : Nat) : Lib.splitK [c] 0 (k + 1) (w ++ c :: r) = w :: Lib.splitK [c] 0 k r := by
  rw [Lib.splitK, indexOne, indexByte_first h, if_neg (by simp)]
  have e : (w ++ c :: r).drop (w.length + 1) = r := by
    rw [← List.drop_drop]
    simp
  simp only [Int.toNat_natCast, List.length_singleton, Nat.add_zero]
  rw [e]
  simp
theorem length_split (c : UInt8) : ∀ (s : Bs), (splitB c s).length ≤ s.length + 1
  | [] => by simp [splitB]
  | b :: s => by
    have := length_split c s
    unfold splitB
    split
    · simpa using this
    · obtain ⟨w, ws, e⟩ := splitB_form c s
      rw [e] at this ⊢
      simp at this ⊢
      omega
theorem splitK_all (c : UInt8) : ∀ (k : Nat) (s : Bs), (splitB c s).length ≤ k + 1 → Lib.splitK [c] 0 k s = splitB c s
  | 0, s, h => by
    by_cases hc : c ∈ s
    · obtain ⟨w, r, rfl, hw⟩ := first_of hc
      rw [split_first hw] at h
      obtain ⟨v, vs, e⟩ := splitB_form c r
      rw [e] at h
      simp at h
    · rw [splitK_none hc, split_one c s hc]
  | k + 1, s, h => by
    by_cases hc : c ∈ s
    · obtain ⟨w, r, rfl, hw⟩ := first_of hc
      rw [split_first hw] at h ⊢
      rw [splitK_first hw, splitK_all c k r (by simpa using h)]
    · rw [splitK_none hc, split_one c s hc]
theorem splitK_more (c : UInt8) : ∀ (k : Nat) (s : Bs), k + 1 < (splitB c s).length → (Lib.splitK [c] 0 k s).length = k + 1 ∧ (1 ≤ k → (Lib.splitK [c] 0 k s).headD [] = (splitB c s).headD [])
  | 0, s, _ => ⟨rfl, fun h => absurd h (by decide)⟩
  | k + 1, s, h => by
    by_cases hc : c ∈ s
    · obtain ⟨w, r, rfl, hw⟩ := first_of hc
      rw [split_first hw] at h ⊢
      rw [splitK_first hw]
      refine ⟨?_, fun _ => rfl⟩
      rw [List.length_cons, (splitK_more c k r (by simpa using h)).1]
    · rw [split_one c s hc] at h
      simp at h
theorem argc_le (k : Int) : argc k ≤ 2 := by
  unfold argc
  repeat' split
  all_goals decide
theorem readW2_long {w : Bs} {r r' : List Bs} (h : 2 < r.length) (h' : 2 < r'.length) : readW2 w r = readW2 w r' := by
  have := argc_le (kindOf w)
  unfold readW2
  rw [if_pos (c := r.length ≠ _) (by omega), if_pos (c := r'.length ≠ _) (by omega)]
/-- The first four words are enough. -/
theorem readWs_four (s : Bs) : readWs (Lib.splitK [32] 0 (min 4 (s.length + 1) - 1) s) = readCl s := by
  unfold readCl
  by_cases h : (splitB 32 s).length ≤ min 4 (s.length + 1) - 1 + 1
  · rw [splitK_all 32 _ s h]
  · have h1 := length_split 32 s
    have h3 : min 4 (s.length + 1) - 1 = 3 := by omega
    rw [h3] at h ⊢
    obtain ⟨a1, a2⟩ := splitK_more 32 3 s (by omega)
    unfold readWs
    rw [a2 (by decide)]
    refine readW2_long ?_ ?_
    · rw [List.length_tail]; omega
    · rw [List.length_tail]; omega

/-! ### Line by line -/

def parseFrom (acc : List Cl) (s : Bs) : List Cl × Int :=
  if (readLines (splitB 10 s).dropLast).2 ≠ 0 then ([], (readLines (splitB 10 s).dropLast).2)
  else if (splitB 10 s).getLastD [] ≠ [] then ([], 8)
  else if 8 < acc.length + (readLines (splitB 10 s).dropLast).1.length then ([], 5)
  else (acc ++ (readLines (splitB 10 s).dropLast).1, 0)
theorem parse_from (s : Bs) : parseCl s = parseFrom [] s := by
  unfold parseCl parseFrom
  simp
theorem from_nil (acc : List Cl) : parseFrom acc [] = if 8 < acc.length then ([], 5) else (acc, 0) := by
  simp [parseFrom, splitB, readLines]
theorem from_end (acc : List Cl) {s : Bs} (h0 : s ≠ []) (h : (10 : UInt8) ∉ s) : parseFrom acc s = ([], 8) := by
  unfold parseFrom
  rw [split_one 10 s h]
  simp [readLines, h0]
theorem from_cut (acc : List Cl) {w r : Bs} (h : (10 : UInt8) ∉ w) : parseFrom acc (w ++ 10 :: r) = if (readCl w).2 ≠ 0 then ([], (readCl w).2) else parseFrom (acc ++ [(readCl w).1]) r := by
  unfold parseFrom
  rw [split_first h]
  obtain ⟨v, vs, e⟩ := splitB_form 10 r
  have e1 : (w :: splitB 10 r).dropLast = w :: (splitB 10 r).dropLast := by rw [e]; rfl
  have e2 : (w :: splitB 10 r).getLastD [] = (splitB 10 r).getLastD [] := by rw [e]; simp [List.getLastD_eq_getLast?]
  rw [e1, e2, readLines]
  by_cases h1 : (readCl w).2 ≠ 0
  · rw [if_pos h1, if_pos h1, if_pos h1]
  · rw [if_neg h1, if_neg h1]
    by_cases h2 : (readLines (splitB 10 r).dropLast).2 ≠ 0
    · rw [if_pos h2, if_pos h2, if_pos h2]
    · rw [if_neg h2, if_neg h2]
      simp only [ne_eq, not_true_eq_false, if_false, List.length_cons, List.length_append, List.length_nil, List.append_assoc, List.singleton_append]
      rw [show acc.length + ((readLines (splitB 10 r).dropLast).1.length + 1) = acc.length + (0 + 1) + (readLines (splitB 10 r).dropLast).1.length by omega]

/-! ### Words as they come -/

/-- Words of a text: those ahead, and those from here on. -/
theorem split_at {c : UInt8} {s : Bs} {pre : List Bs} {a i : Nat} (h : splitB c s = pre ++ splitB c (s.drop a)) (hi : a ≤ i) (hs : s[i]? = some c) (hn : c ∉ (s.drop a).take (i - a)) : splitB c s = (pre ++ [(s.drop a).take (i - a)]) ++ splitB c (s.drop (i + 1)) := by
  have hl := (List.getElem?_eq_some_iff.1 hs).1
  have e : s.drop a = (s.drop a).take (i - a) ++ c :: s.drop (i + 1) := by
    have h1 : (s.drop a).drop (i - a) = c :: s.drop (i + 1) := by
      rw [List.drop_drop, show a + (i - a) = i by omega, List.drop_eq_getElem_cons hl, (List.getElem?_eq_some_iff.1 hs).2]
    rw [← h1, List.take_append_drop]
  rw [h]
  rw [e, split_first hn]
  have e3 : ((s.drop a).take (i - a) ++ c :: s.drop (i + 1)).take (i - a) = (s.drop a).take (i - a) := by rw [← e]
  rw [e3]
  simp
theorem split_end {c : UInt8} {s : Bs} {pre : List Bs} {a : Nat} (h : splitB c s = pre ++ splitB c (s.drop a)) (hn : c ∉ s.drop a) : splitB c s = pre ++ [s.drop a] := by
  rw [h, split_one c _ hn]
theorem take_next {c : UInt8} {s : Bs} {a i : Nat} (hi : a ≤ i) (hs : s[i]? ≠ some c) (hn : c ∉ (s.drop a).take (i - a)) : c ∉ (s.drop a).take (i + 1 - a) := by
  rw [show i + 1 - a = (i - a) + 1 by omega, List.take_add_one]
  simp only [List.mem_append, not_or]
  refine ⟨hn, ?_⟩
  rw [List.getElem?_drop, show a + (i - a) = i by omega]
  intro hm
  apply hs
  simpa using hm
theorem parse_at {s : Bs} {acc : List Cl} {a i : Nat} (h : parseCl s = parseFrom acc (s.drop a)) (hi : a ≤ i) (hs : s[i]? = some 10) (hn : (10 : UInt8) ∉ (s.drop a).take (i - a)) :
    parseCl s = if (readCl ((s.drop a).take (i - a))).2 ≠ 0 then ([], (readCl ((s.drop a).take (i - a))).2) else parseFrom (acc ++ [(readCl ((s.drop a).take (i - a))).1]) (s.drop (i + 1)) := by
  have hl := (List.getElem?_eq_some_iff.1 hs).1
  have e : s.drop a = (s.drop a).take (i - a) ++ 10 :: s.drop (i + 1) := by
    have h1 : (s.drop a).drop (i - a) = 10 :: s.drop (i + 1) := by
      rw [List.drop_drop, show a + (i - a) = i by omega, List.drop_eq_getElem_cons hl, (List.getElem?_eq_some_iff.1 hs).2]
    rw [← h1, List.take_append_drop]
  rw [h, e, from_cut acc hn]
  have e3 : ((s.drop a).take (i - a) ++ 10 :: s.drop (i + 1)).take (i - a) = (s.drop a).take (i - a) := by rw [← e]
  rw [e3]

/-! ### Joined -/

theorem join_lib : ∀ (ws : List Bs), Lib.join ws [32] = joinB 32 ws
  | [] => rfl
  | [w] => by simp [Lib.join, joinB]
  | w :: v :: ws => by
    have := join_lib (v :: ws)
    simp [Lib.join, joinB] at this ⊢
    exact this
theorem join_two (a b : Bs) : joinB 32 [a, b] = a ++ 32 :: b := rfl
theorem join_three (a b c : Bs) : joinB 32 [a, b, c] = a ++ 32 :: (b ++ 32 :: c) := rfl

end Go.Mk

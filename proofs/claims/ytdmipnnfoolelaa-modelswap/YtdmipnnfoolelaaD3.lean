/- Walks over what the document says of cells: what the laws take of it. -/
import Derived.Test.YtdmipnnfoolelaaD2
namespace Go.Proofs.Ytdmipnnfoolelaa
open Go.RowKit Go.Mk

theorem sameInts_eq {u v : Value} {xs ys : List Int} {w : World} (e : xs = ys) (hu : Ints w u xs) (hv : Ints w v ys) : Gives Try.prog 9 #[u, v] w fun r _ => r = .bool true := by
  have := gives_drawn (sameInts_any u v xs ys w hu hv)
  rwa [decide_eq_true e] at this

theorem sameWrites_eq {u v : Value} {xs ys : List (Int × Int)} {w : World} (e : xs = ys) (hu : Writes w u xs) (hv : Writes w v ys) : Gives Try.prog 15 #[u, v] w fun r _ => r = .bool true := by
  have := gives_drawn (sameWrites_any u v xs ys w hu hv)
  rwa [decide_eq_true e] at this

theorem refFind_eq {v : Value} {xs : List Int} {name : Int} {w : World} (hv : Ints w v xs) (h : wrongOf xs = 0) : Gives Try.prog 19 #[v, I name] w fun r _ => r = I (findIn xs name (entriesOf xs).toNat 0) := by
  unfold wrongOf at h
  by_cases hl : xs.length = 11
  · rw [if_neg (by simp [hl])] at h
    by_cases h0 : 0 ≤ xs.getD 0 0 ∧ xs.getD 0 0 ≤ 5
    · have he : entriesOf xs = xs.getD 0 0 := by unfold entriesOf; rw [if_neg (by omega)]; omega
      rw [he]
      exact gives_same (refFind_any v xs name w hv hl h0.1 h0.2)
    · rw [if_pos h0] at h; cases h
  · rw [if_pos hl] at h; cases h

theorem right_len {xs : List Int} (h : wrongOf xs = 0) : xs.length = 11 := by
  unfold wrongOf at h
  by_cases hl : xs.length = 11
  · exact hl
  · rw [if_pos hl] at h; cases h

end Go.Proofs.Ytdmipnnfoolelaa

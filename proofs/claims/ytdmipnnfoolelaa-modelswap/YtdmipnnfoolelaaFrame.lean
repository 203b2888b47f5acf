/- What every row's proof takes of the program's tables, and what the reach says of a slice. -/
import Derived.Test.YtdmipnnfoolelaaRows
import Derived.Test.YtdmipnnfoolelaaRead
namespace Go.Proofs.Ytdmipnnfoolelaa
open Go.RowKit Go.Mk

theorem Try.own : ownKnob Try.prog.godebug = none := by kernel_rfl
theorem Try.laidOut : laidOutB Try.prog = true := by kernel_rfl
theorem Try.cellsInt : Try.prog.cellsOf 3 = 1 := by kernel_rfl
theorem Try.cellsWrite : Try.prog.cellsOf 34 = 2 := by kernel_rfl
theorem Try.bytesInt : Try.prog.bytesOf 3 = 8 := by kernel_rfl
theorem Try.bytesWrite : Try.prog.bytesOf 34 = 16 := by kernel_rfl

/-- What the reach says of a slice. -/
theorem reach_of {H : Type} {P : Program} {ts : List TypeId} {ds : List (DataW H)} {j : Nat} {t e : TypeId} {d : DataW H} {n k : Nat} (h : (DataW.weightsEach P ts ds).all (· ≤ reachBytes) = true) (ht : ts[j]? = some t) (hd : ds[j]? = some d) (hu : P.underlying t = some (.slice e)) (hb : P.bytesOf e = k)
    (hs : n = 0 ∨ ∃ elems spare, d = .slice elems spare ∧ elems.length = n) : n * k ≤ 140737488355328 := by
  rcases hs with rfl | ⟨elems, spare, rfl, rfl⟩
  · omega
  · have := sized_slice h ht hd hu
    rw [hb] at this
    have h2 : elems.length * k ≤ (elems.length + spare.length) * k := Nat.mul_le_mul_right _ (by omega)
    unfold reachBytes at this
    omega
theorem len_or {α : Type} {H : Type} {l : List α} {d : DataW H} (h : l = [] ∨ ∃ elems spare, d = .slice elems spare ∧ elems.length = l.length) : l.length = 0 ∨ ∃ elems spare, d = .slice elems spare ∧ elems.length = l.length := by
  rcases h with h | h
  · exact .inl (by rw [h]; rfl)
  · exact .inr h

end Go.Proofs.Ytdmipnnfoolelaa

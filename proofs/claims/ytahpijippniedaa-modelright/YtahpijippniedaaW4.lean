/- Walks: the document's answers that make memory. -/
import Derived.Test.YtahpijippniedaaW3
import Derived.Test.YtahpijippniedaaD3
namespace Go.Proofs.Ytahpijippniedaa
open Go.RowKit Go.Mk

set_option maxHeartbeats 400000 in
theorem New_any (w : World) : Gives Try.prog 10 #[] w fun r w' => Ints w' r (List.replicate 11 0) := by
  unfold Gives
  have hmk : ∀ w, (Instr.makeSlice 22 (.int .i64 11) (.int .i64 11)).run Try.prog w = .ok (.slice (some ⟨w.heap.size, 0, none⟩) 11 11) (w.alloc (.cells (List.replicate 11 (I 0)).toArray 3)) := fun _ => by kernel_rfl
  go_enter Try.func10, Try.ntmps10
  go_wp2
  go_ret
  exact ⟨_, rfl, (Ext.refl _).alloc _, ints_lit _ _ _ 11 rfl rfl (by decide)⟩

end Go.Proofs.Ytahpijippniedaa

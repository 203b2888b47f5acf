/- Walks: the document's answers that make memory. -/
import Derived.Test.YtdmipnnfoolelaaW3
import Derived.Test.YtdmipnnfoolelaaD3
namespace Go.Proofs.Ytdmipnnfoolelaa
open Go.RowKit Go.Mk

set_option maxHeartbeats 400000 in
theorem New_own (w : World) : Gives Try.prog 10 #[] w fun r w' => ∃ n, w'.ownsRow w.heap.size 3 1 r n ((List.replicate 11 (0 : Int)).map I) := by
  unfold Gives
  have hmk : ∀ w, (Instr.makeSlice 22 (.int .i64 11) (.int .i64 11)).run Try.prog w = .ok (.slice (some ⟨w.heap.size, 0, none⟩) 11 11) (w.alloc (.cells (List.replicate 11 (I 0)).toArray 3)) := fun _ => by kernel_rfl
  go_enter Try.func10, Try.ntmps10
  go_wp2
  go_ret
  exact ⟨_, rfl, (Ext.refl _).alloc _, 11, World.ownsRow_lit (base := w.heap.size) (e := 3) (size := 1) w _ 11 (Nat.le_refl _) (by decide) rfl⟩

theorem New_any (w : World) : Gives Try.prog 10 #[] w fun r w' => Ints w' r (List.replicate 11 0) := (New_own w).mono fun _ _ _ ⟨_, h⟩ => ints_of_owns h

end Go.Proofs.Ytdmipnnfoolelaa

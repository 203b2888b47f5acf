/- Walks: what the document says is wrong with calls. -/
import Derived.Test.YtdmipnnfoolelabBase
namespace Go.Proofs.Ytdmipnnfoolelab
open Go.RowKit Go.Mk

set_option maxHeartbeats 2000000 in
theorem refWrongCall_any (k a o n : Int) (w : World) : Calls Try.prog 7 #[.agg #[I k, I a, I o, I n]] w fun e w' => e = .returned (I (wrongCl ⟨k, a, o, n⟩)) ∧ Ext w w' := by
  have hk2 : k < 1 ∨ 6 < k ∨ k = 1 ∨ k = 2 ∨ k = 3 ∨ k = 4 ∨ k = 5 ∨ k = 6 := by omega
  rcases hk2 with hk | hk | rfl | rfl | rfl | rfl | rfl | rfl
  all_goals
    go_enter Try.func7, Try.ntmps7
    go_wp2
  all_goals
    go_ret
    refine ⟨ret_int ?_, (Ext.refl w).alloc _⟩
    unfold wrongCl
    dsimp only
    repeat' split
    all_goals omega

end Go.Proofs.Ytdmipnnfoolelab

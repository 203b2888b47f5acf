/- Walks: what is wrong with calls, and finding names. -/
import Derived.Test.YtdmipnnfoolelabBase
import Derived.Test.YtdmipnnfoolelabMath2
import Derived.BigRegion
namespace Go.Proofs.Ytdmipnnfoolelab
open Go.RowKit Go.Mk

set_option maxHeartbeats 400000 in
theorem mwithin_any (n a b : Int) (w : World) :
    Calls Try.prog 48 #[I n, I a, I b] w fun e w' => e = .returned (.bool (decide (a ≤ n ∧ n ≤ b))) ∧ w' = w := by
  by_cases hi : a ≤ n
  · go_enter Try.func48, Try.ntmps48
    go_wp2
    go_ret
    exact ⟨by simp [hi], rfl⟩
  · go_enter Try.func48, Try.ntmps48
    go_wp2
    go_ret
    exact ⟨by simp; omega, rfl⟩

theorem wrongCl_of {k a o n r : Int} (h : wrongCl ⟨k, a, o, n⟩ = r) : (Ending.returned (I r)) = .returned (I (wrongCl ⟨k, a, o, n⟩)) := by rw [h]

end Go.Proofs.Ytdmipnnfoolelab

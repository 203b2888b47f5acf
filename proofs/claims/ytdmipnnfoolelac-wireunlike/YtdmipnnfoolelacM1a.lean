/- Walks: what is wrong with calls, and finding names. -/
import Derived.Test.YtdmipnnfoolelacBase
import Derived.Test.YtdmipnnfoolelacMath2
import Derived.BigRegion
namespace Go.Proofs.Ytdmipnnfoolelac
open Go.RowKit Go.Mk

set_option maxHeartbeats 400000 in
theorem mwithin_any (n a b : Int) (w : World) :
    Calls Try.prog 60 #[I n, I a, I b] w fun e w' => e = .returned (.bool (decide (a ≤ n ∧ n ≤ b))) ∧ w' = w := by
  by_cases hi : a ≤ n
  · go_enter Try.func60, Try.ntmps60
    go_wp2
    go_ret
    exact ⟨by simp [hi], rfl⟩
  · go_enter Try.func60, Try.ntmps60
    go_wp2
    go_ret
    exact ⟨by simp; omega, rfl⟩

set_option maxHeartbeats 400000 in
theorem rightName_any (n : Int) (has : Bool) (w : World) :
    Calls Try.prog 61 #[I n, .bool has] w fun e w' => e = .returned (.bool (if has then decide (1 ≤ n ∧ n ≤ 255) else n == 0)) ∧ w' = w := by
  cases has
  · go_enter Try.func61, Try.ntmps61
    go_wp2
    go_ret
    exact ⟨by simp, rfl⟩
  · go_enter Try.func61, Try.ntmps61
    go_wp2_with (go_at_call 60; refine Calls.same (mwithin_any _ _ _ _) ?_)
    go_ret
    exact ⟨by simp, rfl⟩

set_option maxHeartbeats 400000 in
theorem rightNumber_any (n : Int) (has : Bool) (w : World) :
    Calls Try.prog 62 #[I n, .bool has] w fun e w' => e = .returned (.bool (if has then decide (-1073741824 ≤ n ∧ n ≤ 1073741824) else n == 0)) ∧ w' = w := by
  cases has
  · go_enter Try.func62, Try.ntmps62
    go_wp2
    go_ret
    exact ⟨by simp, rfl⟩
  · go_enter Try.func62, Try.ntmps62
    go_wp2_with (go_at_call 60; refine Calls.same (mwithin_any _ _ _ _) ?_)
    go_ret
    exact ⟨by simp, rfl⟩

theorem wrongCl_of {k a o n r : Int} (h : wrongCl ⟨k, a, o, n⟩ = r) : (Ending.returned (I r)) = .returned (I (wrongCl ⟨k, a, o, n⟩)) := by rw [h]

set_option maxHeartbeats 2000000 in
theorem mWrong_any (k a o n : Int) (w : World) : Gives Try.prog 37 #[.agg #[I k, I a, I o, I n]] w fun r _ => r = I (wrongCl ⟨k, a, o, n⟩) := by
  unfold Gives
  by_cases hk : 1 ≤ k ∧ k ≤ 6
  case neg =>
    have hk' : decide (1 ≤ k ∧ k ≤ 6) = false := by simpa using hk
    go_enter Try.func37, Try.ntmps37
    go_wp2_with (go_at_call 60; refine Calls.same (mwithin_any _ _ _ _) ?_)
    go_ret
    exact gives_ret ((Ext.refl w).alloc _) (congrArg I (show 1 = _ by simp only [wrongCl]; rw [if_pos hk]))
  have hk2 : k = 1 ∨ k = 2 ∨ k = 3 ∨ k = 4 ∨ k = 5 ∨ k = 6 := by omega
  clear hk
  rcases hk2 with rfl | rfl | rfl | rfl | rfl | rfl
  all_goals
    go_enter Try.func37, Try.ntmps37
    go_wp2_with (first
      | (go_at_call 60; refine Calls.same (mwithin_any _ _ _ _) ?_)
      | (go_at_call 61; refine Calls.same (rightName_any _ _ _) ?_)
      | (go_at_call 62; refine Calls.same (rightNumber_any _ _ _) ?_))
  all_goals
    go_ret
    refine gives_ret ((Ext.refl w).alloc _) ?_
    first | refine congrArg I (show 0 = _ from ?_) | refine congrArg I (show 7 = _ from ?_) | refine congrArg I (show 3 = _ from ?_)
    simp only [Bool.not_eq_eq_eq_not, Bool.not_true, Bool.not_false, decide_eq_true_eq, decide_eq_false_iff_not, beq_iff_eq, beq_eq_false_iff_ne] at *
    unfold wrongCl
    dsimp only
    repeat' split
    all_goals omega

end Go.Proofs.Ytdmipnnfoolelac

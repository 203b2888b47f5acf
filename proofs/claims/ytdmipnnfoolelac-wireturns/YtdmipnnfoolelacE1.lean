/- Walks: what is wrong with requests and answers; the document's word on it. -/
import Derived.Test.YtdmipnnfoolelacBase
import Derived.Test.YtdmipnnfoolelacMem2
import Derived.Test.YtdmipnnfoolelacMath7
import Derived.Test.YtdmipnnfoolelacM1a
import Derived.Test.YtdmipnnfoolelacM1b
import Derived.Lib.Hide
namespace Go.Proofs.Ytdmipnnfoolelac
open Go.RowKit Go.Mk

/-- A request and an answer as values. -/
abbrev RQ (r : Rq) : Value := .agg #[I r.client, I r.token, I r.call.kind, I r.call.name, I r.call.other, I r.call.n]
abbrev AN (a : An) : Value := .agg #[I a.client, I a.token, I a.reply.err, I a.reply.n]

set_option maxHeartbeats 400000 in
theorem wwithin_any (n a b : Int) (w : World) :
    Calls Try.prog 59 #[I n, I a, I b] w fun e w' => e = .returned (.bool (decide (a ≤ n ∧ n ≤ b))) ∧ w' = w := by
  by_cases hi : a ≤ n
  · go_enter Try.func59, Try.ntmps59
    go_wp2
    go_ret
    exact ⟨by simp [hi], rfl⟩
  · go_enter Try.func59, Try.ntmps59
    go_wp2
    go_ret
    exact ⟨by simp; omega, rfl⟩

set_option maxHeartbeats 400000 in
theorem rightTurn_any (c t : Int) (w : World) :
    Calls Try.prog 36 #[I c, I t] w fun e w' => e = .returned (.bool (decide (0 ≤ c ∧ c < 3 ∧ 0 ≤ t ∧ t < 8))) ∧ w' = w := by
  by_cases hi : 0 ≤ c ∧ c ≤ 2
  · have hi' : decide (0 ≤ c ∧ c ≤ 2) = true := by simp [hi]
    go_enter Try.func36, Try.ntmps36
    go_wp2_with (go_at_call 59; refine Calls.same (wwithin_any _ _ _ _) ?_)
    go_ret
    exact ⟨ret_bool (by rw [Bool.eq_iff_iff]; simp; omega), rfl⟩
  · have hi' : decide (0 ≤ c ∧ c ≤ 2) = false := by simpa using hi
    go_enter Try.func36, Try.ntmps36
    go_wp2_with (go_at_call 59; refine Calls.same (wwithin_any _ _ _ _) ?_)
    go_ret
    exact ⟨ret_bool (by rw [Bool.eq_iff_iff]; simp; omega), rfl⟩

set_option maxHeartbeats 400000 in
theorem who_any (c t : Int) (w : World) :
    Calls Try.prog 38 #[I c, I t] w fun e w' => e = .returned (.bool (decide (0 ≤ c ∧ c < 3 ∧ 0 ≤ t ∧ t < 8))) ∧ w' = w := by
  by_cases h0 : 0 ≤ c
  · by_cases h1 : c < 3
    · by_cases h2 : 0 ≤ t
      · go_enter Try.func38, Try.ntmps38
        go_wp2
        go_ret
        exact ⟨ret_bool (by rw [Bool.eq_iff_iff]; simp; omega), rfl⟩
      · go_enter Try.func38, Try.ntmps38
        go_wp2
        go_ret
        exact ⟨ret_bool (by rw [Bool.eq_iff_iff]; simp; omega), rfl⟩
    · go_enter Try.func38, Try.ntmps38
      go_wp2
      go_ret
      exact ⟨ret_bool (by rw [Bool.eq_iff_iff]; simp; omega), rfl⟩
  · go_enter Try.func38, Try.ntmps38
    go_wp2
    go_ret
    exact ⟨ret_bool (by rw [Bool.eq_iff_iff]; simp; omega), rfl⟩

set_option maxHeartbeats 400000 in
theorem rightReply_any (e0 n : Int) (w : World) :
    Calls Try.prog 40 #[.agg #[I e0, I n]] w fun e w' => e = .returned (.bool (decide (¬ (e0 < 0 ∨ 12 < e0 ∨ 1073741824 < n ∨ n < -1073741824 ∨ (0 < e0 ∧ n ≠ 0))))) ∧ Ext w w' := by
  by_cases hz : e0 = 0
  · subst hz
    go_enter Try.func40, Try.ntmps40
    go_wp2_with (go_at_call 59; refine Calls.same (wwithin_any _ _ _ _) ?_)
    go_ret
    exact ⟨ret_bool (by rw [Bool.eq_iff_iff]; simp; omega), (Ext.refl w).alloc _⟩
  have hz' : (e0 == 0) = false := by simpa using hz
  by_cases hi : 0 ≤ e0 ∧ e0 ≤ 12
  · have hi' : decide (0 ≤ e0 ∧ e0 ≤ 12) = true := by simp [hi]
    go_enter Try.func40, Try.ntmps40
    go_wp2_with (go_at_call 59; refine Calls.same (wwithin_any _ _ _ _) ?_)
    go_ret
    refine ⟨ret_bool ?_, (Ext.refl w).alloc _⟩
    rw [Bool.eq_iff_iff]; simp; omega
  · have hi' : decide (0 ≤ e0 ∧ e0 ≤ 12) = false := by simpa using hi
    go_enter Try.func40, Try.ntmps40
    go_wp2_with (go_at_call 59; refine Calls.same (wwithin_any _ _ _ _) ?_)
    go_ret
    exact ⟨ret_bool (by rw [Bool.eq_iff_iff]; simp; omega), (Ext.refl w).alloc _⟩

end Go.Proofs.Ytdmipnnfoolelac

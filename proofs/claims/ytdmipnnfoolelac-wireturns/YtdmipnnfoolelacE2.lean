/- Walks: what is wrong with requests and answers. -/
import Derived.Test.YtdmipnnfoolelacE1
namespace Go.Proofs.Ytdmipnnfoolelac
open Go.RowKit Go.Mk

theorem wrongRq_no {c t k a o n : Int} (h : ¬ (0 ≤ c ∧ c < 3 ∧ 0 ≤ t ∧ t < 8)) : wrongRq ⟨c, t, ⟨k, a, o, n⟩⟩ = 3 := if_pos h
theorem wrongRq_yes {c t k a o n : Int} (h : 0 ≤ c ∧ c < 3 ∧ 0 ≤ t ∧ t < 8) : wrongRq ⟨c, t, ⟨k, a, o, n⟩⟩ = wrongCl ⟨k, a, o, n⟩ := if_neg (by simp [h])

set_option maxHeartbeats 400000 in
theorem WrongRequest_any (c t k a o n : Int) (w : World) :
    Calls Try.prog 9 #[RQ ⟨c, t, ⟨k, a, o, n⟩⟩] w fun e w' => e = .returned (I (wrongRq ⟨c, t, ⟨k, a, o, n⟩⟩)) ∧ Ext w w' := by
  by_cases hi : 0 ≤ c ∧ c < 3 ∧ 0 ≤ t ∧ t < 8
  · have hi' : decide (0 ≤ c ∧ c < 3 ∧ 0 ≤ t ∧ t < 8) = true := decide_eq_true hi
    rw [wrongRq_yes hi]
    clear hi
    go_enter Try.func9, Try.ntmps9
    go_wp2_with (go_at_call 36; refine Calls.same (rightTurn_any _ _ _) ?_)
    refine (mWrong_any k a o n _).to fun r w1 e1 hr => ?_
    subst hr
    go_wp2
    go_ret
    exact ⟨rfl, ((Ext.refl w).alloc _).trans e1⟩
  · have hi' : decide (0 ≤ c ∧ c < 3 ∧ 0 ≤ t ∧ t < 8) = false := decide_eq_false hi
    rw [wrongRq_no hi]
    clear hi
    go_enter Try.func9, Try.ntmps9
    go_wp2_with (go_at_call 36; refine Calls.same (rightTurn_any _ _ _) ?_)
    go_ret
    exact ⟨rfl, (Ext.refl w).alloc _⟩

set_option maxHeartbeats 400000 in
theorem refWrongRequest_any (c t k a o n : Int) (w : World) :
    Calls Try.prog 10 #[RQ ⟨c, t, ⟨k, a, o, n⟩⟩] w fun e w' => e = .returned (I (wrongRq ⟨c, t, ⟨k, a, o, n⟩⟩)) ∧ Ext w w' := by
  by_cases hi : 0 ≤ c ∧ c < 3 ∧ 0 ≤ t ∧ t < 8
  · have hi' : decide (0 ≤ c ∧ c < 3 ∧ 0 ≤ t ∧ t < 8) = true := decide_eq_true hi
    rw [wrongRq_yes hi]
    clear hi
    go_enter Try.func10, Try.ntmps10
    go_wp2_with (go_at_call 38; refine Calls.same (who_any _ _ _) ?_)
    refine Calls.exts (refWrongCall_any k a o n _) (fun w1 e1 => ?_)
    go_wp2
    go_ret
    exact ⟨rfl, ((Ext.refl w).alloc _).trans e1⟩
  · have hi' : decide (0 ≤ c ∧ c < 3 ∧ 0 ≤ t ∧ t < 8) = false := decide_eq_false hi
    rw [wrongRq_no hi]
    clear hi
    go_enter Try.func10, Try.ntmps10
    go_wp2_with (go_at_call 38; refine Calls.same (who_any _ _ _) ?_)
    go_ret
    exact ⟨rfl, (Ext.refl w).alloc _⟩

theorem wrongAn_no {c t e n : Int} (h : ¬ (0 ≤ c ∧ c < 3 ∧ 0 ≤ t ∧ t < 8)) : wrongAn ⟨c, t, ⟨e, n⟩⟩ = 3 := if_pos (.inl h)
theorem wrongAn_yes {c t e n : Int} (_h : 0 ≤ c ∧ c < 3 ∧ 0 ≤ t ∧ t < 8) (h2 : e < 0 ∨ 12 < e ∨ 1073741824 < n ∨ n < -1073741824 ∨ (0 < e ∧ n ≠ 0)) : wrongAn ⟨c, t, ⟨e, n⟩⟩ = 3 := if_pos (.inr h2)
theorem wrongAn_ok {c t e n : Int} (h : 0 ≤ c ∧ c < 3 ∧ 0 ≤ t ∧ t < 8) (h2 : ¬ (e < 0 ∨ 12 < e ∨ 1073741824 < n ∨ n < -1073741824 ∨ (0 < e ∧ n ≠ 0))) : wrongAn ⟨c, t, ⟨e, n⟩⟩ = 0 := if_neg (not_or.2 ⟨by simp [h], h2⟩)

set_option maxHeartbeats 400000 in
theorem WrongAnswer_any (c t e0 n : Int) (w : World) :
    Calls Try.prog 11 #[AN ⟨c, t, ⟨e0, n⟩⟩] w fun e w' => e = .returned (I (wrongAn ⟨c, t, ⟨e0, n⟩⟩)) ∧ Ext w w' := by
  by_cases hi : 0 ≤ c ∧ c < 3 ∧ 0 ≤ t ∧ t < 8
  case neg =>
    have hi' : decide (0 ≤ c ∧ c < 3 ∧ 0 ≤ t ∧ t < 8) = false := decide_eq_false hi
    rw [wrongAn_no hi]
    clear hi
    go_enter Try.func11, Try.ntmps11
    go_wp2_with (go_at_call 36; refine Calls.same (rightTurn_any _ _ _) ?_)
    go_ret
    exact ⟨rfl, (Ext.refl w).alloc _⟩
  have hi' : decide (0 ≤ c ∧ c < 3 ∧ 0 ≤ t ∧ t < 8) = true := decide_eq_true hi
  by_cases hj : e0 < 0 ∨ 12 < e0 ∨ 1073741824 < n ∨ n < -1073741824 ∨ (0 < e0 ∧ n ≠ 0)
  · have hj' : decide (¬ (e0 < 0 ∨ 12 < e0 ∨ 1073741824 < n ∨ n < -1073741824 ∨ (0 < e0 ∧ n ≠ 0))) = false := decide_eq_false (fun h => h hj)
    rw [wrongAn_yes hi hj]
    have hR := fun wx => rightReply_any e0 n wx
    rw [hj'] at hR
    clear hi hj hj'
    go_enter Try.func11, Try.ntmps11
    go_wp2_with (first | (go_at_call 36; refine Calls.same (rightTurn_any _ _ _) ?_) | (go_at_call 40; refine Calls.exts (hR _) (fun w1 e1 => ?_)))
    go_ret
    exact ⟨rfl, ((Ext.refl w).alloc _).trans e1⟩
  · have hj' : decide (¬ (e0 < 0 ∨ 12 < e0 ∨ 1073741824 < n ∨ n < -1073741824 ∨ (0 < e0 ∧ n ≠ 0))) = true := decide_eq_true hj
    rw [wrongAn_ok hi hj]
    have hR := fun wx => rightReply_any e0 n wx
    rw [hj'] at hR
    clear hi hj hj'
    go_enter Try.func11, Try.ntmps11
    go_wp2_with (first | (go_at_call 36; refine Calls.same (rightTurn_any _ _ _) ?_) | (go_at_call 40; refine Calls.exts (hR _) (fun w1 e1 => ?_)))
    go_ret
    exact ⟨rfl, ((Ext.refl w).alloc _).trans e1⟩

set_option maxHeartbeats 1000000 in
theorem refWrongAnswer_any (c t e0 n : Int) (w : World) :
    Calls Try.prog 12 #[AN ⟨c, t, ⟨e0, n⟩⟩] w fun e w' => e = .returned (I (wrongAn ⟨c, t, ⟨e0, n⟩⟩)) ∧ Ext w w' := by
  by_cases hi : 0 ≤ c ∧ c < 3 ∧ 0 ≤ t ∧ t < 8
  case neg =>
    have hi' : decide (0 ≤ c ∧ c < 3 ∧ 0 ≤ t ∧ t < 8) = false := decide_eq_false hi
    rw [wrongAn_no hi]
    clear hi
    go_enter Try.func12, Try.ntmps12
    go_wp2_with (go_at_call 38; refine Calls.same (who_any _ _ _) ?_)
    go_ret
    exact ⟨rfl, (((Ext.refl w).alloc _).alloc _)⟩
  have hi' : decide (0 ≤ c ∧ c < 3 ∧ 0 ≤ t ∧ t < 8) = true := decide_eq_true hi
  have h5 : e0 < 0 ∨ 12 < e0 ∨ 1073741824 < n ∨ n < -1073741824 ∨ (0 < e0 ∧ n ≠ 0) ∨ ¬ (e0 < 0 ∨ 12 < e0 ∨ 1073741824 < n ∨ n < -1073741824 ∨ (0 < e0 ∧ n ≠ 0)) := by omega
  have e1 : Ext w (((w.alloc (.cells #[I c, I t, I e0, I n] 30)).alloc (.cells #[I e0, I n] 28))) := (((Ext.refl w).alloc _).alloc _)
  have HI := Lib.hid hi
  clear hi
  by_cases q1 : e0 < 0
  · rw [wrongAn_yes HI.out (.inl q1)]
    go_enter Try.func12, Try.ntmps12
    go_wp2_with (go_at_call 38; refine Calls.same (who_any _ _ _) ?_)
    go_ret
    exact ⟨rfl, e1⟩
  by_cases q2 : 12 < e0
  · rw [wrongAn_yes HI.out (.inr (.inl q2))]
    go_enter Try.func12, Try.ntmps12
    go_wp2_with (go_at_call 38; refine Calls.same (who_any _ _ _) ?_)
    go_ret
    exact ⟨rfl, e1⟩
  by_cases q3 : 1073741824 < n
  · rw [wrongAn_yes HI.out (.inr (.inr (.inl q3)))]
    go_enter Try.func12, Try.ntmps12
    go_wp2_with (go_at_call 38; refine Calls.same (who_any _ _ _) ?_)
    go_ret
    exact ⟨rfl, e1⟩
  by_cases q4 : n < -1073741824
  · rw [wrongAn_yes HI.out (.inr (.inr (.inr (.inl q4))))]
    go_enter Try.func12, Try.ntmps12
    go_wp2_with (go_at_call 38; refine Calls.same (who_any _ _ _) ?_)
    go_ret
    exact ⟨rfl, e1⟩
  by_cases q5 : 0 < e0
  · by_cases q6 : n = 0
    · rw [wrongAn_ok HI.out (by omega)]
      have q7 : (n != 0) = false := by simp [q6]
      go_enter Try.func12, Try.ntmps12
      go_wp2_with (go_at_call 38; refine Calls.same (who_any _ _ _) ?_)
      go_ret
      exact ⟨rfl, (((Ext.refl w).alloc _).alloc _)⟩
    · rw [wrongAn_yes HI.out (.inr (.inr (.inr (.inr ⟨q5, q6⟩))))]
      have q7 : (n != 0) = true := by simpa using q6
      go_enter Try.func12, Try.ntmps12
      go_wp2_with (go_at_call 38; refine Calls.same (who_any _ _ _) ?_)
      go_ret
      exact ⟨rfl, e1⟩
  · rw [wrongAn_ok HI.out (by omega)]
    go_enter Try.func12, Try.ntmps12
    go_wp2_with (go_at_call 38; refine Calls.same (who_any _ _ _) ?_)
    go_ret
    exact ⟨rfl, e1⟩

end Go.Proofs.Ytdmipnnfoolelac

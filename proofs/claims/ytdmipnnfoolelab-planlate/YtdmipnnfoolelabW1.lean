/- Walks over the functions of package cell that only look, and over what the document says of them. -/
import Derived.Test.YtdmipnnfoolelabD1
namespace Go.Proofs.Ytdmipnnfoolelab
open Go.RowKit Go.Mk

set_option maxHeartbeats 400000 in
theorem nameCell_any (i : Int) (w : World) (h0 : 0 ≤ i) (h1 : i ≤ 4000000000000000000) :
    Calls Try.prog 27 #[I i] w fun e w' => e = .returned (I (1 + 2 * i)) ∧ w' = w := by
  go_enter Try.func27, Try.ntmps27
  go_wp2
  go_ret
  exact ⟨rfl, rfl⟩

set_option maxHeartbeats 400000 in
theorem numberCell_any (i : Int) (w : World) (h0 : 0 ≤ i) (h1 : i ≤ 4000000000000000000) :
    Calls Try.prog 28 #[I i] w fun e w' => e = .returned (I (1 + 2 * i + 1)) ∧ w' = w := by
  go_enter Try.func28, Try.ntmps28
  go_wp2_with fail
  refine Calls.same (nameCell_any _ _ (by omega) (by omega)) ?_
  go_wp2
  go_ret
  exact ⟨rfl, rfl⟩

set_option maxHeartbeats 400000 in
theorem entries_any (v : Value) (xs : List Int) (w : World) (hv : Ints w v xs) :
    Calls Try.prog 26 #[v] w fun e w' => e = .returned (I (entriesOf xs)) ∧ w' = w := by
  obtain ⟨ao, cap, rfl, h1, h2, h3⟩ := hv.form
  unfold maxLen at h2
  clear hv
  by_cases hz : xs.length = 0
  · go_enter Try.func26, Try.ntmps26
    go_wp2
    go_ret
    exact ⟨by simp [entriesOf, hz], rfl⟩
  · obtain ⟨b, off, rfl, hc⟩ := h3 0 (by omega)
    clear h3
    simp only [Nat.add_zero] at hc
    go_enter Try.func26, Try.ntmps26
    go_wp2
    all_goals
      go_ret
      refine ⟨ret_int ?_, rfl⟩
      unfold entriesOf
      rw [if_neg hz, List.getD_eq_getElem?_getD]
      omega

set_option maxHeartbeats 400000 in
theorem findAmong_any (v : Value) (xs : List Int) (n name : Int) (w : World) (hv : Ints w v xs) (hn : n ≤ 1000000000000000000) (hb : n ≤ 0 ∨ 2 * n < (xs.length : Int)) :
    Calls Try.prog 32 #[v, I n, I name] w fun e w' => e = .returned (I (findIn xs name n.toNat 0)) ∧ w' = w := by
  obtain ⟨ao, cap, rfl, h1, h2, h3⟩ := hv.form
  unfold maxLen at h2
  clear hv
  go_enter Try.func32, Try.ntmps32
  go_wp2
  go_loop [9] (fun i => ∃ k : Nat, (k : Int) ≤ max n 0 ∧ i = I k ∧ findIn xs name n.toNat 0 = findIn xs name (n.toNat - k) k) (fun i => n.toNat - (intOf i).toNat)
  case atStart => exact ⟨0, by omega, rfl, rfl⟩
  case round =>
    obtain ⟨k, hk, rfl, hf⟩ := hrel
    have HF : Hid (findIn xs name n.toNat 0 = findIn xs name (n.toNat - k) k) := hf
    clear hf
    by_cases hlt : (k : Int) < n
    · obtain ⟨b, off, rfl, hc⟩ := h3 (1 + 2 * k) (by omega)
      clear h3
      go_wp2_with (go_at_call 27; refine Calls.same (nameCell_any _ _ (by omega) (by omega)) ?_)
      · go_ret
        exact ⟨ret_int (by rw [HF.out, findIn_hit hlt (by rw [List.getD_eq_getElem?_getD]; assumption)]), rfl⟩
      · go_round
        case rel => exact ⟨k + 1, by omega, by go_num, by rw [HF.out, findIn_miss hlt (by rw [List.getD_eq_getElem?_getD]; assumption)]⟩
        case measure => simp [intOf]; omega
    · go_wp2
      go_ret
      exact ⟨ret_int (by rw [HF.out, findIn_end (by omega)]), rfl⟩

set_option maxHeartbeats 400000 in
theorem Find_any (v : Value) (xs : List Int) (name : Int) (w : World) (hv : Ints w v xs) (hl : xs.length ≤ 1000000000000000000) :
    Calls Try.prog 18 #[v, I name] w fun e w' => e = .returned (I (findIn xs name (entriesOf xs).toNat 0)) ∧ w' = w := by
  go_enter Try.func18, Try.ntmps18
  go_wp2_with fail
  refine Calls.same (entries_any v xs _ hv) ?_
  have he : entriesOf xs ≤ 1000000000000000000 := by unfold entriesOf; split <;> omega
  have hb : entriesOf xs ≤ 0 ∨ 2 * entriesOf xs < (xs.length : Int) := by unfold entriesOf; split <;> omega
  go_wp2_with fail
  refine Calls.same (findAmong_any v xs (entriesOf xs) name _ hv he hb) ?_
  go_wp2
  go_ret
  exact ⟨rfl, rfl⟩

end Go.Proofs.Ytdmipnnfoolelab

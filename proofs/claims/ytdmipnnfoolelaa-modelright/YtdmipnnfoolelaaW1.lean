/- Walks over the functions of package cell that only look, and over what the document says of them. -/
import Derived.Test.YtdmipnnfoolelaaD1
namespace Go.Proofs.Ytdmipnnfoolelaa
open Go.RowKit Go.Mk

set_option maxHeartbeats 400000 in
theorem nameCell_any (i : Int) (w : World) (h0 : 0 ≤ i) (h1 : i ≤ 4000000000000000000) :
    Calls Try.prog 46 #[I i] w fun e w' => e = .returned (I (1 + 2 * i)) ∧ w' = w := by
  go_enter Try.func46, Try.ntmps46
  go_wp2
  go_ret
  exact ⟨rfl, rfl⟩

set_option maxHeartbeats 400000 in
theorem numberCell_any (i : Int) (w : World) (h0 : 0 ≤ i) (h1 : i ≤ 4000000000000000000) :
    Calls Try.prog 47 #[I i] w fun e w' => e = .returned (I (1 + 2 * i + 1)) ∧ w' = w := by
  go_enter Try.func47, Try.ntmps47
  go_wp2_with fail
  refine Calls.same (nameCell_any _ _ (by omega) (by omega)) ?_
  go_wp2
  go_ret
  exact ⟨rfl, rfl⟩

set_option maxHeartbeats 400000 in
theorem has_any (v : Value) (xs : List Int) (i : Int) (w : World) (hv : Ints w v xs) :
    Calls Try.prog 34 #[v, I i] w fun e w' => e = .returned (.bool (decide (0 ≤ i ∧ i < (xs.length : Int)))) ∧ w' = w := by
  obtain ⟨ao, cap, rfl, h1, h2, h3⟩ := hv.form
  unfold maxLen at h2
  clear h3 hv
  by_cases hi : 0 ≤ i
  · go_enter Try.func34, Try.ntmps34
    go_wp2
    go_ret
    exact ⟨by simp [hi], rfl⟩
  · go_enter Try.func34, Try.ntmps34
    go_wp2
    go_ret
    exact ⟨by simp; omega, rfl⟩

set_option maxHeartbeats 400000 in
theorem within_any (n a b : Int) (w : World) :
    Calls Try.prog 31 #[I n, I a, I b] w fun e w' => e = .returned (.bool (decide (a ≤ n ∧ n ≤ b))) ∧ w' = w := by
  by_cases hi : a ≤ n
  · go_enter Try.func31, Try.ntmps31
    go_wp2
    go_ret
    exact ⟨by simp [hi], rfl⟩
  · go_enter Try.func31, Try.ntmps31
    go_wp2
    go_ret
    exact ⟨by simp; omega, rfl⟩

set_option maxHeartbeats 400000 in
theorem entries_any (v : Value) (xs : List Int) (w : World) (hv : Ints w v xs) :
    Calls Try.prog 37 #[v] w fun e w' => e = .returned (I (entriesOf xs)) ∧ w' = w := by
  obtain ⟨ao, cap, rfl, h1, h2, h3⟩ := hv.form
  unfold maxLen at h2
  clear hv
  by_cases hz : xs.length = 0
  · go_enter Try.func37, Try.ntmps37
    go_wp2
    go_ret
    exact ⟨by simp [entriesOf, hz], rfl⟩
  · obtain ⟨b, off, rfl, hc⟩ := h3 0 (by omega)
    clear h3
    simp only [Nat.add_zero] at hc
    go_enter Try.func37, Try.ntmps37
    go_wp2
    all_goals
      go_ret
      refine ⟨ret_int ?_, rfl⟩
      unfold entriesOf
      rw [if_neg hz, List.getD_eq_getElem?_getD]
      omega

set_option maxHeartbeats 400000 in
theorem findAmong_any (v : Value) (xs : List Int) (n name : Int) (w : World) (hv : Ints w v xs) (hn : n ≤ 1000000000000000000) (hb : n ≤ 0 ∨ 2 * n < (xs.length : Int)) :
    Calls Try.prog 36 #[v, I n, I name] w fun e w' => e = .returned (I (findIn xs name n.toNat 0)) ∧ w' = w := by
  obtain ⟨ao, cap, rfl, h1, h2, h3⟩ := hv.form
  unfold maxLen at h2
  clear hv
  go_enter Try.func36, Try.ntmps36
  go_wp2
  go_loop [9] (fun i => ∃ k : Nat, (k : Int) ≤ max n 0 ∧ i = I k ∧ findIn xs name n.toNat 0 = findIn xs name (n.toNat - k) k) (fun i => n.toNat - (intOf i).toNat)
  case atStart => exact ⟨0, by omega, rfl, rfl⟩
  case round =>
    obtain ⟨k, hk, rfl, hf⟩ := hrel
    have HF : Hid (findIn xs name n.toNat 0 = findIn xs name (n.toNat - k) k) := hf
    clear hf
    by_cases hlt : (k : Int) < n
    · obtain ⟨b, off, rfl, hc⟩ := h3 (1 + 2 * k) (by omega)
      clear h3
      go_wp2_with (go_at_call 46; refine Calls.same (nameCell_any _ _ (by omega) (by omega)) ?_)
      · go_ret
        exact ⟨ret_int (by rw [HF.out, findIn_hit hlt (by rw [List.getD_eq_getElem?_getD]; assumption)]), rfl⟩
      · go_round
        case rel => exact ⟨k + 1, by omega, by go_num, by rw [HF.out, findIn_miss hlt (by rw [List.getD_eq_getElem?_getD]; assumption)]⟩
        case measure => simp [intOf]; omega
    · go_wp2
      go_ret
      exact ⟨ret_int (by rw [HF.out, findIn_end (by omega)]), rfl⟩

set_option maxHeartbeats 400000 in
theorem Find_any (v : Value) (xs : List Int) (name : Int) (w : World) (hv : Ints w v xs) (hl : xs.length ≤ 1000000000000000000) :
    Calls Try.prog 18 #[v, I name] w fun e w' => e = .returned (I (findIn xs name (entriesOf xs).toNat 0)) ∧ w' = w := by
  go_enter Try.func18, Try.ntmps18
  go_wp2_with fail
  refine Calls.same (entries_any v xs _ hv) ?_
  have he : entriesOf xs ≤ 1000000000000000000 := by unfold entriesOf; split <;> omega
  have hb : entriesOf xs ≤ 0 ∨ 2 * entriesOf xs < (xs.length : Int) := by unfold entriesOf; split <;> omega
  go_wp2_with fail
  refine Calls.same (findAmong_any v xs (entriesOf xs) name _ hv he hb) ?_
  go_wp2
  go_ret
  exact ⟨rfl, rfl⟩

set_option maxHeartbeats 400000 in
theorem wrongEntry_any (v : Value) (xs : List Int) (i : Nat) (w : World) (hv : Ints w v xs) (hl : xs.length = 11) (hi : i < 5) :
    Calls Try.prog 32 #[v, I i] w fun e w' => e = .returned (I (wrongAt xs i)) ∧ ∃ n, w' = w.drewN n := by
  obtain ⟨ao, cap, rfl, h1, h2, h3⟩ := hv.form
  unfold maxLen at h2
  obtain ⟨b, off, rfl, hc1⟩ := h3 (1 + 2 * i) (by omega)
  obtain ⟨b', off', he, hc2⟩ := h3 (2 + 2 * i) (by omega)
  simp only [Option.some.injEq, Addr.mk.injEq, and_true] at he
  obtain ⟨rfl, rfl⟩ := he
  clear h3
  have HL : Hid (xs.length = 11) := hl
  rw [hl] at hv h1 ⊢
  clear hl
  have a1 : (0 : Int) ≤ 1 + 2 * (i : Int) := by omega
  have a2 : 1 + 2 * (i : Int) < 11 := by omega
  have a3 : (1 + 2 * (i : Int)).toNat = 1 + 2 * i := by omega
  have a4 : (0 : Int) ≤ 1 + 2 * (i : Int) + 1 := by omega
  have a5 : 1 + 2 * (i : Int) + 1 < 11 := by omega
  have a6 : (1 + 2 * (i : Int) + 1).toNat = 2 + 2 * i := by omega
  generalize hX : xs.getD (1 + 2 * i) 0 = x at *
  generalize hY : xs.getD (2 + 2 * i) 0 = y at *
  have HX : Hid (xs.getD (1 + 2 * i) 0 = x) := hX
  have HY : Hid (xs.getD (2 + 2 * i) 0 = y) := hY
  clear hX hY
  go_enter Try.func32, Try.ntmps32
  go_wp2_with fail
  go_quiet (first | (go_at_call 46; exact Calls.quiet_of_same (nameCell_any _ _ (by omega) (by omega))) | (go_at_call 47; exact Calls.quiet_of_same (numberCell_any _ _ (by omega) (by omega))))
  clear hc1 hc2 a1 a2 a3 a4 a5 a6
  by_cases hx : 1 ≤ x ∧ x ≤ 255
  · have hx' : decide (1 ≤ x ∧ x ≤ 255) = true := by simp [hx]
    by_cases hy : -1073741824 ≤ y ∧ y ≤ 1073741824
    · have hy' : decide (-1073741824 ≤ y ∧ y ≤ 1073741824) = true := by simp [hy]
      go_wp2_with (go_at_call 31; refine Calls.same (within_any _ _ _ _) ?_)
      refine Calls.same (findAmong_any _ xs i x _ (hv.ext (Ext.of_drewN _ _)) (by omega) (by have := HL.out; omega)) ?_
      go_wp2
      all_goals
        go_ret
        refine ⟨ret_int ?_, _, rfl⟩
        unfold wrongAt
        rw [HX.out, HY.out, if_neg (by simp [hx, hy])]
        first | rw [if_pos (by assumption)] | rw [if_neg (by omega)]
    · have hy' : decide (-1073741824 ≤ y ∧ y ≤ 1073741824) = false := by simpa using hy
      go_wp2_with (go_at_call 31; refine Calls.same (within_any _ _ _ _) ?_)
      go_ret
      refine ⟨ret_int ?_, _, rfl⟩
      unfold wrongAt
      rw [HX.out, HY.out, if_pos (Or.inr hy)]
  · have hx' : decide (1 ≤ x ∧ x ≤ 255) = false := by simpa using hx
    go_wp2_with (go_at_call 31; refine Calls.same (within_any _ _ _ _) ?_)
    go_ret
    refine ⟨ret_int ?_, _, rfl⟩
    unfold wrongAt
    rw [HX.out, HY.out, if_pos (Or.inl hx)]

set_option maxHeartbeats 400000 in
theorem Wrong_any (v : Value) (xs : List Int) (w : World) (hv : Ints w v xs) :
    Calls Try.prog 11 #[v] w fun e w' => e = .returned (I (wrongOf xs)) ∧ ∃ n, w' = w.drewN n := by
  obtain ⟨ao, cap, rfl, h1, h2, h3⟩ := hv.form
  unfold maxLen at h2
  by_cases hl : xs.length = 11
  · obtain ⟨b, off, rfl, hc⟩ := h3 0 (by omega)
    clear h3
    have HL : Hid (xs.length = 11) := hl
    rw [hl] at hv h1 ⊢
    clear hl
    simp only [Nat.add_zero] at hc
    have HW : Hid (wrongOf xs = if ¬ (0 ≤ xs.getD 0 0 ∧ xs.getD 0 0 ≤ 5) then 3 else wrongIn xs (xs.getD 0 0).toNat 0) := by unfold Hid wrongOf; rw [if_neg (by simp [HL.out])]
    generalize hX : xs.getD 0 0 = x at *
    clear hX
    by_cases hx : 0 ≤ x ∧ x ≤ 5
    · have hx' : decide (0 ≤ x ∧ x ≤ 5) = true := by simp [hx]
      obtain ⟨x0, x5⟩ := hx
      go_enter Try.func11, Try.ntmps11
      go_wp2_with (go_at_call 31; refine Calls.same (within_any _ _ _ _) ?_)
      go_loopw [16] (fun i wr => ∃ k : Nat, (k : Int) ≤ x ∧ i = I k ∧ wrongIn xs x.toNat 0 = wrongIn xs (x.toNat - k) k ∧ ∃ n, wr = w.drewN n) (fun i _ => x.toNat - (intOf i).toNat)
      case atStart => exact ⟨0, by omega, rfl, rfl, 0, rfl⟩
      case round =>
        obtain ⟨k, hk, rfl, hf, n, rfl⟩ := hrel
        have HF : Hid (wrongIn xs x.toNat 0 = wrongIn xs (x.toNat - k) k) := hf
        clear hf
        by_cases hlt : (k : Int) < x
        · go_wp2_with fail
          refine Calls.drawn (wrongEntry_any _ xs k _ (hv.ext (Ext.of_drewN _ _)) HL.out (by omega)) (fun m => ?_)
          go_wp2
          · go_ret
            exact ⟨ret_int (by rw [HW.out, if_neg (by omega), HF.out, wrongIn_bad hlt (by assumption)]), _, rfl⟩
          · go_roundw
            case rel => exact ⟨k + 1, by omega, by go_num, by rw [HF.out, wrongIn_good hlt (by assumption)], _, rfl⟩
            case measure => simp [intOf]; omega
        · go_wp2
          go_ret
          exact ⟨ret_int (by rw [HW.out, if_neg (by omega), HF.out, wrongIn_end (by omega)]), _, rfl⟩
    · have hx' : decide (0 ≤ x ∧ x ≤ 5) = false := by simpa using hx
      go_enter Try.func11, Try.ntmps11
      go_wp2_with (go_at_call 31; refine Calls.same (within_any _ _ _ _) ?_)
      go_ret
      exact ⟨ret_int (by rw [HW.out, if_pos hx]), 0, rfl⟩
  · have hne : (((xs.length : Int)) != 11) = true := by rw [bne_iff_ne]; omega
    go_enter Try.func11, Try.ntmps11
    go_wp2
    go_ret
    exact ⟨ret_int (by unfold wrongOf; rw [if_pos hl]), 0, rfl⟩

end Go.Proofs.Ytdmipnnfoolelaa

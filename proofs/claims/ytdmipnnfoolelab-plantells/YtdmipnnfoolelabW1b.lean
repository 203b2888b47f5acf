/- Walks over what the document says of chapter 1, and over comparing. -/
import Derived.Test.YtdmipnnfoolelabD1
namespace Go.Proofs.Ytdmipnnfoolelab
open Go.RowKit Go.Mk

set_option maxHeartbeats 1000000 in
theorem refWrong_any (v : Value) (xs : List Int) (w : World) (hv : Ints w v xs) :
    Calls Try.prog 6 #[v] w fun e w' => e = .returned (I (wrongOf xs)) ∧ ∃ n, w' = w.drewN n := by
  obtain ⟨ao, cap, rfl, h1, h2, h3⟩ := hv.form
  unfold maxLen at h2
  by_cases hl : xs.length = 11
  · obtain ⟨b, off, rfl, hc⟩ := h3 0 (by omega)
    have H3 : Hid (∀ k, k < 11 → w.cell? ⟨b, off + k, none⟩ = some (I (xs.getD k 0))) := fun k hk => by
      obtain ⟨b', off', he, hc⟩ := h3 k (by omega)
      simp only [Option.some.injEq, Addr.mk.injEq, and_true] at he
      obtain ⟨rfl, rfl⟩ := he
      exact hc
    clear h3
    have HL : Hid (xs.length = 11) := hl
    rw [hl] at hv h1 ⊢
    clear hl
    simp only [Nat.add_zero] at hc
    have HW : Hid (wrongOf xs = if ¬ (0 ≤ xs.getD 0 0 ∧ xs.getD 0 0 ≤ 5) then 3 else wrongIn xs (xs.getD 0 0).toNat 0) := by unfold Hid wrongOf; rw [if_neg (by simp [HL.out])]
    generalize hX : xs.getD 0 0 = x at hc HW
    clear hX
    by_cases hx : 0 ≤ x ∧ x ≤ 5
    · obtain ⟨x0, x5⟩ := hx
      go_enter Try.func6, Try.ntmps6
      go_wp2
      go_loopw [3, 4] (fun i _ wr => ∃ k : Nat, (k : Int) ≤ x ∧ i = I (1 + 2 * k) ∧ wrongIn xs x.toNat 0 = wrongIn xs (x.toNat - k) k ∧ ∃ n, wr = w.drewN n) (fun i _ _ => 20 - (intOf i).toNat)
      case atStart => exact ⟨0, by omega, rfl, rfl, 0, rfl⟩
      case round =>
        obtain ⟨k, hk, rfl, hf, n, rfl⟩ := hrel
        have HF : Hid (wrongIn xs x.toNat 0 = wrongIn xs (x.toNat - k) k) := hf
        clear hf
        by_cases hlt : (k : Int) < x
        · have hc1 := H3.out (1 + 2 * k) (by omega)
          have hc2 := H3.out (1 + 2 * k + 1) (by omega)
          have HA : Hid (wrongAt xs k = if ¬ (1 ≤ xs.getD (1 + 2 * k) 0 ∧ xs.getD (1 + 2 * k) 0 ≤ 255) ∨ ¬ (-1073741824 ≤ xs.getD (1 + 2 * k + 1) 0 ∧ xs.getD (1 + 2 * k + 1) 0 ≤ 1073741824) then 3
            else if 0 ≤ findIn xs (xs.getD (1 + 2 * k) 0) k 0 then 7 else 0) := by unfold Hid wrongAt; rw [show 2 + 2 * k = 1 + 2 * k + 1 by omega]
          generalize hY : xs.getD (1 + 2 * k) 0 = y at hc1 HA
          generalize hZ : xs.getD (1 + 2 * k + 1) 0 = z at hc2 HA
          clear hY hZ
          by_cases hy1 : y < 1
          · go_wp2
            go_ret
            exact ⟨ret_int (by rw [HW.out, if_neg (by omega), HF.out, wrongIn_bad hlt (by rw [HA.out, if_pos (by omega)]; rfl), HA.out, if_pos (by omega)]), _, rfl⟩
          by_cases hy2 : 255 < y
          · go_wp2
            go_ret
            exact ⟨ret_int (by rw [HW.out, if_neg (by omega), HF.out, wrongIn_bad hlt (by rw [HA.out, if_pos (by omega)]; rfl), HA.out, if_pos (by omega)]), _, rfl⟩
          by_cases hz1 : z < -1073741824
          · go_wp2
            go_ret
            exact ⟨ret_int (by rw [HW.out, if_neg (by omega), HF.out, wrongIn_bad hlt (by rw [HA.out, if_pos (by omega)]; rfl), HA.out, if_pos (by omega)]), _, rfl⟩
          by_cases hz2 : 1073741824 < z
          · go_wp2
            go_ret
            exact ⟨ret_int (by rw [HW.out, if_neg (by omega), HF.out, wrongIn_bad hlt (by rw [HA.out, if_pos (by omega)]; rfl), HA.out, if_pos (by omega)]), _, rfl⟩
          have HA' : Hid (wrongAt xs k = if 0 ≤ findIn xs y k 0 then 7 else 0) := by unfold Hid; rw [HA.out, if_neg (by omega)]
          clear HA
          go_wp2
          go_loopw [4] (fun j wr => ∃ m : Nat, m ≤ k ∧ j = I (1 + 2 * m) ∧ findIn xs y k 0 = findIn xs y (k - m) m ∧ ∃ n, wr = w.drewN n) (fun j _ => 20 - (intOf j).toNat)
          case atStart => exact ⟨0, by omega, rfl, rfl, n, rfl⟩
          case round =>
            obtain ⟨m, hm, rfl, hg, n', rfl⟩ := hrel
            have HG : Hid (findIn xs y k 0 = findIn xs y (k - m) m) := hg
            clear hg
            by_cases hmk : m < k
            · have hcm := H3.out (1 + 2 * m) (by omega)
              generalize hU : xs.getD (1 + 2 * m) 0 = u at hcm
              have HU : Hid (xs.getD (1 + 2 * m) 0 = u) := hU
              clear hU
              have b1 : (0 : Int) ≤ 1 + 2 * (m : Int) := by omega
              have b2 : 1 + 2 * (m : Int) < 11 := by omega
              have b3 : (1 + 2 * (m : Int)).toNat = 1 + 2 * m := by omega
              have b4 : (0 : Int) ≤ 1 + 2 * (k : Int) := by omega
              have b5 : 1 + 2 * (k : Int) < 11 := by omega
              have b6 : (1 + 2 * (k : Int)).toNat = 1 + 2 * k := by omega
              by_cases huy : u = y
              · have hb : (u == y) = true := by simp [huy]
                have HUY : Hid (u = y) := huy
                clear huy
                go_wp2_with fail
                go_quiet (fail)
                go_wp2
                go_ret
                have hfk : findIn xs y k 0 = (m : Int) := by
                  rw [HG.out, show k - m = (k : Int).toNat - m by omega, findIn_hit (n := (k : Int)) (by omega) (by rw [HU.out]; exact hb)]
                exact ⟨ret_int (by rw [HW.out, if_neg (by omega), HF.out, wrongIn_bad hlt (by rw [HA'.out, hfk, if_pos (by omega)]; rfl), HA'.out, hfk, if_pos (by omega)]), _, World.drewN_drewN _ _ _⟩
              · have hb : (u == y) = false := by simpa using huy
                clear huy
                go_wp2_with fail
                go_quiet (fail)
                go_wp2
                go_roundw
                case rel => exact ⟨m + 1, by omega, by go_num, by rw [HG.out, show k - m = (k : Int).toNat - m by omega, findIn_miss (n := (k : Int)) (by omega) (by rw [HU.out]; exact hb)]; rfl, _, rfl⟩
                case measure => simp [intOf]; omega
            · go_wp2
              have hfk : findIn xs y k 0 = -1 := by
                rw [HG.out, show k - m = 0 by omega]; rfl
              have hwk : wrongAt xs k = 0 := by rw [HA'.out, hfk, if_neg (by omega)]
              go_roundw
              case rel => exact ⟨k + 1, by omega, by go_num, by rw [HF.out, wrongIn_good hlt (by rw [hwk]; rfl)], _, rfl⟩
              case measure => simp [intOf]; omega
        · go_wp2
          go_ret
          exact ⟨ret_int (by rw [HW.out, if_neg (by omega), HF.out, wrongIn_end (by omega)]), _, rfl⟩
    · by_cases hx0 : x < 0
      all_goals
        go_enter Try.func6, Try.ntmps6
        go_wp2
        go_ret
        exact ⟨ret_int (by rw [HW.out, if_pos (by omega)]), 0, rfl⟩
  · have hne : (((xs.length : Int)) != 11) = true := by rw [bne_iff_ne]; omega
    go_enter Try.func6, Try.ntmps6
    go_wp2
    go_ret
    exact ⟨ret_int (by unfold wrongOf; rw [if_pos hl]), 0, rfl⟩

end Go.Proofs.Ytdmipnnfoolelab

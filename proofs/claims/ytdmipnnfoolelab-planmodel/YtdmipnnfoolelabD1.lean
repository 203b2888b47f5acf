/- Walks over what the document says of cells: finding. -/
import Derived.Test.YtdmipnnfoolelabBase
namespace Go.Proofs.Ytdmipnnfoolelab
open Go.RowKit Go.Mk

set_option maxHeartbeats 400000 in
theorem refFind_any (v : Value) (xs : List Int) (name : Int) (w : World) (hv : Ints w v xs) (hl : xs.length = 11) (h0 : 0 ≤ xs.getD 0 0) (h5 : xs.getD 0 0 ≤ 5) :
    Calls Try.prog 19 #[v, I name] w fun e w' => e = .returned (I (findIn xs name (xs.getD 0 0).toNat 0)) ∧ w' = w := by
  obtain ⟨ao, cap, rfl, h1, h2, h3⟩ := hv.form
  unfold maxLen at h2
  clear hv
  rw [hl] at *
  obtain ⟨b, off, rfl, hc0⟩ := h3 0 (by omega)
  have h3' : ∀ k, k < 11 → w.cell? ⟨b, off + k, none⟩ = some (I (xs.getD k 0)) := fun k hk => by
    obtain ⟨b', off', he, hc⟩ := h3 k hk
    simp only [Option.some.injEq, Addr.mk.injEq, and_true] at he
    obtain ⟨rfl, rfl⟩ := he
    exact hc
  have H3 : Hid (∀ k, k < 11 → w.cell? ⟨b, off + k, none⟩ = some (I (xs.getD k 0))) := h3'
  clear h3 h3' hl
  generalize hn : xs.getD 0 0 = n at *
  have HN : Hid (xs.getD 0 0 = n) := hn
  clear hn
  simp only [Nat.add_zero] at hc0
  go_enter Try.func19, Try.ntmps19
  go_wp2
  go_loop [5] (fun i => ∃ k : Nat, (k : Int) ≤ n ∧ i = I (1 + 2 * k) ∧ findIn xs name n.toNat 0 = findIn xs name (n.toNat - k) k) (fun i => 20 - (intOf i).toNat)
  case atStart => exact ⟨0, by omega, rfl, rfl⟩
  case round =>
    obtain ⟨k, hk, rfl, hf⟩ := hrel
    have HF : Hid (findIn xs name n.toNat 0 = findIn xs name (n.toNat - k) k) := hf
    clear hf
    by_cases hlt : (k : Int) < n
    · have hc := H3.out (1 + 2 * k) (by omega)
      go_wp2
      · go_ret
        exact ⟨ret_int (by rw [HF.out, findIn_hit hlt (by rw [List.getD_eq_getElem?_getD]; assumption)]; omega), rfl⟩
      · go_round
        case rel => exact ⟨k + 1, by omega, by go_num, by rw [HF.out, findIn_miss hlt (by rw [List.getD_eq_getElem?_getD]; assumption)]⟩
        case measure => simp [intOf]; omega
    · go_wp2
      go_ret
      exact ⟨ret_int (by rw [HF.out, findIn_end (by omega)]), rfl⟩

end Go.Proofs.Ytdmipnnfoolelab

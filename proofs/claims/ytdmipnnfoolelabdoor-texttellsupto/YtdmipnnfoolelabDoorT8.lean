/- Walks: the same calls are found the same. -/
import Derived.Test.YtdmipnnfoolelabDoorT7
namespace Go.Proofs.YtdmipnnfoolelabDoor
open Go.RowKit Go.Mk

set_option maxHeartbeats 1000000 in
theorem sameCalls_any (u v : Value) (l : List Cl) (w : World) (hu : Cls w u l) (hv : Cls w v l) :
    Calls Tryd.prog 10 #[u, v] w fun e w' => e = .returned (.bool true) ∧ Ext w w' := by
  obtain ⟨ao, cap, rfl, h1, h2, h3⟩ := hu.form
  obtain ⟨bo, cap', rfl, g1, g2, g3⟩ := hv.form
  unfold maxLen at h2 g2
  clear hu hv
  go_enter Tryd.func10, Tryd.ntmps10
  go_wp2
  go_loopw [13] (fun i wr => ∃ k : Nat, k ≤ l.length ∧ i = I k ∧ ∃ n, wr = w.drewN n) (fun i _ => l.length - (intOf i).toNat)
  case atStart => exact ⟨0, by omega, rfl, 0, rfl⟩
  case round =>
    obtain ⟨k, hk, rfl, n, rfl⟩ := hrel
    by_cases hlt : k < l.length
    · obtain ⟨b, off, rfl, c1, c2, c3, c4⟩ := h3 k hlt
      obtain ⟨b', off', rfl, d1, d2, d3, d4⟩ := g3 k hlt
      clear h3 g3
      generalize l.getD k zeroCl = c at *
      obtain ⟨ck, ca, co, cn⟩ := c
      simp only [] at c1 c2 c3 c4 d1 d2 d3 d4
      have b1 : (0 : Int) ≤ (k : Int) := by omega
      have b2 : (k : Int) < (l.length : Int) := by omega
      have hst : Tryd.prog.stoodInHeld 23 = false := by kernel_rfl
      have hgd : Tryd.prog.eqGuardType Tryd.prog.depth 23 = false := by kernel_rfl
      go_wp2_with fail
      go_quiet (fail)
      go_wp2
      go_roundw
      case rel => exact ⟨k + 1, by omega, by go_num, _, rfl⟩
      case measure => simp [intOf]; omega
    · clear h3 g3
      go_wp2
      go_ret
      exact ⟨rfl, Ext.of_drewN w n⟩

end Go.Proofs.YtdmipnnfoolelabDoor

/- Walks over the functions of package cell that make memory. -/
import Derived.Test.YtdmipnnfoolelaaW1
import Derived.Test.YtdmipnnfoolelaaW1b
namespace Go.Proofs.Ytdmipnnfoolelaa
open Go.RowKit Go.Mk

set_option maxRecDepth 100000 in
set_option maxHeartbeats 400000 in
theorem own_any (v : Value) (xs : List Int) (w : World) (hv : Ints w v xs) (hr : xs.length * 8 ≤ 140737488355328) :
    Calls Try.prog 33 #[v] w fun e w' => e = .returned (.slice (some ⟨w.heap.size, 0, none⟩) xs.length xs.length) ∧ w'.ownsRow w.heap.size 3 1 (.slice (some ⟨w.heap.size, 0, none⟩) xs.length xs.length) xs.length (xs.map I) ∧ Ext w w' := by
  obtain ⟨i0, hi, hz0, hz1, hz2⟩ := info_parts Try.infoInt
  obtain ⟨hlen, ao, cap, rfl, h1, h2, h0, h3⟩ := hv
  unfold maxLen at h2
  go_enter Try.func33, Try.ntmps33
  go_wp2_with (at_make; refine wpList_make_full _ rfl _ _ 22 rfl w.heap.size 3 i0 (.int .i64 0) 1 Try.underlying22 hi hz0 hz1 .i64 .i64 _ _ xs.length rfl rfl rfl rfl (by rw [hz2]; omega) (by unfold maxLen; omega) (Nat.le_refl _) ?_; intro w1 hown hgrow)
  have he1 : Ext w w1 := (Ext.refl w).grown hgrow (fun k hk => by cases hk)
  obtain ⟨w2, hrun, hown2, hgrow2⟩ := run_copy_all (P := Try.prog) w1 22 3 3 Try.underlying22 Try.infoInt1 w.heap.size w.heap.size xs.length _ (xs.map I) _ hown (Row.ext ⟨hlen, ao, cap, rfl, h1, h2, h0, h3⟩ he1) (mapI_one xs)
  have he2 : Ext w w2 := he1.grown hgrow2 (fun k hk => by cases hk; exact Nat.le_refl _)
  rw [hrun]
  clear hrun hown hgrow hgrow2 he1 h3
  go_wp2
  go_ret
  exact ⟨rfl, hown2, he2⟩

set_option maxRecDepth 100000 in
set_option maxHeartbeats 1000000 in
theorem Set_own (v u : Value) (xs : List Int) (l : List (Int × Int)) (w : World) (hv : Ints w v xs) (hu : Writes w u l) (hr : xs.length * 8 ≤ 140737488355328) (hr2 : l.length * 16 ≤ 140737488355328) :
    Gives Try.prog 13 #[v, u] w fun r w' => ∃ n, w'.ownsRow w.heap.size 3 1 r n ((setAll xs l).map I) := by
  unfold Gives
  obtain ⟨ao, cap, rfl, h1, h2, h3⟩ := hu.form
  unfold maxLen at h2
  go_enter Try.func13, Try.ntmps13
  go_wp2_with fail
  refine (own_any v xs _ hv hr).mono ?_
  rintro e w1 ⟨rfl, hown, he⟩
  generalize hg : w.heap.size = g at hown ⊢
  have HG : Hid (w.heap.size = g) := hg
  clear hg
  go_wp2_with fail
  go_loopw [12] (fun i wr => ∃ k : Nat, k ≤ l.length ∧ i = I k ∧ wr.ownsRow g 3 1 (.slice (some ⟨g, 0, none⟩) xs.length xs.length) xs.length ((setAll xs (l.take k)).map I) ∧ Ext w wr) (fun i _ => l.length - (intOf i).toNat)
  case atStart => exact ⟨0, by omega, rfl, hown, he⟩
  case round =>
    obtain ⟨k, hk, rfl, hown', he'⟩ := hrel
    clear hown he
    by_cases hlt : k < l.length
    · obtain ⟨b, off, rfl, hc1, hc2⟩ := h3 k hlt
      clear h3
      have hd1 := he'.cell hc1
      have hd2 := he'.cell hc2
      clear hc1 hc2
      generalize hp : l.getD k (0, 0) = p at hd1 hd2
      have HP : Hid (l[k]? = some p) := by unfold Hid; rw [← hp]; simp [hlt]
      clear hp
      obtain ⟨at_, n⟩ := p
      simp only [] at hd1 hd2
      have hyl : (setAll xs (l.take k)).length = xs.length := length_setAll _ _
      have HN : Hid (setAll xs (l.take (k + 1)) = set1 (setAll xs (l.take k)) (at_, n)) := by unfold Hid; rw [List.take_add_one, HP.out]; exact setAll_snoc _ _ _
      generalize setAll xs (l.take k) = ys at hown' HN hyl
      have HYL : Hid (ys.length = xs.length) := hyl
      clear hyl
      have hown2 := fun o => hown'.alloc o
      have fz : ∀ o, (wr.alloc o).frozen? ⟨g, at_.toNat, none⟩ = false := fun o => (hown2 o).frozenAt _
      by_cases hin : 0 ≤ at_ ∧ at_ < (xs.length : Int)
      · obtain ⟨i1, i2⟩ := hin
        have hc : ∀ o, (wr.alloc o).cell? ⟨g, at_.toNat, none⟩ = some (I (ys.getD at_.toNat 0)) := fun o => by
          rw [(hown2 o).cellAt _ (by omega)]
          have : at_.toNat < ys.length := by rw [HYL.out]; omega
          simp [this]
        have i3 : at_ < (ys.length : Int) := by rw [HYL.out]; exact i2
        go_wp2_with (go_at_call 34; refine Calls.same (has_any _ ys at_ _ (ints_of_owns (hown2 _))) ?_)
        go_roundw
        case rel =>
          refine ⟨k + 1, by omega, by go_num, ?_, (he'.alloc _).setCell (by rw [HG.out]; exact Nat.le_refl _) _⟩
          rw [HN.out]
          unfold set1
          rw [if_pos ⟨i1, i3⟩, List.map_set]
          exact ((hown2 _).stored _ _).1
        case measure => simp [intOf]; omega
      · have hdc : decide (0 ≤ at_ ∧ at_ < (ys.length : Int)) = false := by rw [HYL.out]; simp; omega
        go_wp2_with (go_at_call 34; refine Calls.same (has_any _ ys at_ _ (ints_of_owns (hown2 _))) ?_)
        go_roundw
        case rel =>
          refine ⟨k + 1, by omega, by go_num, ?_, he'.alloc _⟩
          rw [HN.out]
          unfold set1
          rw [if_neg (by rw [HYL.out]; exact hin)]
          exact hown2 _
        case measure => simp [intOf]; omega
    · go_wp2_with fail
      go_ret
      refine ⟨_, rfl, he', xs.length, ?_⟩
      rw [List.take_of_length_le (by omega)] at hown'
      rw [HG.out]
      exact hown'

theorem Set_any (v u : Value) (xs : List Int) (l : List (Int × Int)) (w : World) (hv : Ints w v xs) (hu : Writes w u l) (hr : xs.length * 8 ≤ 140737488355328) (hr2 : l.length * 16 ≤ 140737488355328) :
    Gives Try.prog 13 #[v, u] w fun r w' => Ints w' r (setAll xs l) := (Set_own v u xs l w hv hu hr hr2).mono fun _ _ _ ⟨_, h⟩ => ints_of_owns h

end Go.Proofs.Ytdmipnnfoolelaa

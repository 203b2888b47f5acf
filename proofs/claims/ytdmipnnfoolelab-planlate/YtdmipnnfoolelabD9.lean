/- Walks over what the document says of cells: writes, one by one. -/
import Derived.Test.YtdmipnnfoolelabD3
namespace Go.Proofs.Ytdmipnnfoolelab
open Go.RowKit Go.Mk

theorem setAll_one (xs : List Int) (l : List (Int × Int)) (p : Int × Int) : setAll (setAll xs l) [p] = setAll xs (l ++ [p]) := by
  rw [setAll_snoc]
  rfl

set_option maxHeartbeats 1000000 in
theorem refSet2_any (v u : Value) (xs : List Int) (l : List (Int × Int)) (w : World) (hv : Ints w v xs) (hu : Writes w u l) (hr : xs.length * 8 ≤ 140737488355328) :
    Gives Try.prog 12 #[v, u] w fun r w' => Ints w' r (setAll xs l) := by
  unfold Gives
  obtain ⟨bo, cap', rfl, g1, g2, g3⟩ := hu.form
  unfold maxLen at g2
  clear hu
  go_enter Try.func12, Try.ntmps12
  go_wp2
  go_loopw [0, 9] (fun cv i wr => ∃ k : Nat, k ≤ l.length ∧ i = I k ∧ Ints wr cv (setAll xs (l.take k)) ∧ Ext w wr) (fun _ i _ => l.length - (intOf i).toNat)
  case atStart => exact ⟨0, by omega, rfl, hv, Ext.refl _⟩
  case round =>
    obtain ⟨k, hk, rfl, hc, he⟩ := hrel
    clear hv
    by_cases hlt : k < l.length
    · obtain ⟨b, off, rfl, c1, c2⟩ := g3 k hlt
      replace c1 := he.cell c1
      replace c2 := he.cell c2
      have HT : Hid (setAll xs (l.take (k + 1)) = setAll (setAll xs (l.take k)) [l.getD k (0, 0)]) := by
        unfold Hid
        rw [setAll_one, List.take_add_one, List.getElem?_eq_getElem hlt, List.getD_eq_getElem?_getD, List.getElem?_eq_getElem hlt]
        rfl
      generalize l.getD k (0, 0) = p at *
      obtain ⟨p1, p2⟩ := p
      simp only [] at c1 c2
      have hlen : (setAll xs (l.take k)).length * 8 ≤ 140737488355328 := by rw [length_setAll]; exact hr
      generalize setAll xs (l.take k) = ys at *
      clear g3
      go_wp2_with fail
      refine (refSet_any u0 _ ys [(p1, p2)] _ (hc.ext (((Ext.refl wr).alloc _).alloc _)) (writes_lit1 _ _ [(p1, p2)] _ 1 rfl rfl (by decide)) hlen (by simp)).to fun r w2 he2 hr2 => ?_
      clear c1 c2
      go_wp2
      go_roundw
      case rel => exact ⟨k + 1, by omega, by go_num, by rw [HT.out]; exact hr2, he.trans ((((Ext.refl wr).alloc _).alloc _).trans he2)⟩
      case measure => simp [intOf]; omega
    · go_wp2
      go_ret
      rw [List.take_of_length_le (by omega)] at hc
      exact ⟨_, rfl, he, hc⟩

end Go.Proofs.Ytdmipnnfoolelab

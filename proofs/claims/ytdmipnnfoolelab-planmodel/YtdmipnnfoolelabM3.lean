/- Walks: names: a copy of one's own, and whether they are right. -/
import Derived.Test.YtdmipnnfoolelabM2
namespace Go.Proofs.Ytdmipnnfoolelab
open Go.RowKit Go.Mk

set_option maxHeartbeats 400000 in
theorem mown_any (v : Value) (l : List (Int × Int)) (w : World) (hv : Writes w v l) (hr : l.length * 16 ≤ 140737488355328) :
    Calls Try.prog 25 #[v] w fun e w' => e = .returned (.slice (some ⟨w.heap.size, 0, none⟩) l.length l.length) ∧ w'.ownsRow w.heap.size 43 2 (.slice (some ⟨w.heap.size, 0, none⟩) l.length l.length) l.length (cells2 l) ∧ Ext w w' := by
  obtain ⟨i0, hi, hz0, hz1, hz2⟩ := info_parts Try.infoWrite2
  obtain ⟨hlen, ao, cap, rfl, h1, h2, h0, h3⟩ := hv
  unfold maxLen at h2
  go_enter Try.func25, Try.ntmps25
  go_wp2_with (at_make; refine wpList_make_full _ rfl _ _ 28 rfl w.heap.size 43 i0 (.agg #[.int .i64 0, .int .i64 0]) 2 Try.underlying28 hi hz0 hz1 .i64 .i64 _ _ l.length rfl rfl rfl rfl (by rw [hz2]; omega) (by unfold maxLen; omega) (Nat.le_refl _) ?_; intro w1 hown hgrow)
  have he1 : Ext w w1 := (Ext.refl w).grown hgrow (fun k hk => by cases hk)
  obtain ⟨w2, hrun, hown2, hgrow2⟩ := run_copy_all2 (P := Try.prog) w1 28 3 43 Try.underlying28 Try.infoWriteSz w.heap.size w.heap.size l.length _ (cells2 l) _ hown (Row.ext ⟨hlen, ao, cap, rfl, h1, h2, h0, h3⟩ he1) (cells2_one l)
  have he2 : Ext w w2 := he1.grown hgrow2 (fun k hk => by cases hk; exact Nat.le_refl _)
  rw [hrun]
  clear hrun hown hgrow hgrow2 he1 h3
  go_wp2
  go_ret
  exact ⟨rfl, hown2, he2⟩

/-- It tells whether names are right. -/
def OknB (l : List (Int × Int)) (e : Ending) : Prop := ∃ b, e = .returned (.bool b) ∧ (b = true ↔ Okn l)

theorem oknB_true {l : List (Int × Int)} (h : Okn l) : OknB l (.returned (.bool true)) := ⟨true, rfl, by simp [h]⟩

theorem oknB_false {l : List (Int × Int)} (h : ¬ Okn l) : OknB l (.returned (.bool false)) := ⟨false, rfl, by simp [h]⟩

end Go.Proofs.Ytdmipnnfoolelab

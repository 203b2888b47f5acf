/- Walks: answers out of bytes. -/
import Derived.Test.YtdmipnnfoolelacE7
namespace Go.Proofs.Ytdmipnnfoolelac
open Go.RowKit Go.Mk

set_option maxHeartbeats 1000000 in
theorem ReadAnswer_form (v : Value) (l : List UInt8) (w : World) (hv : Bytes w v l) (hf : ¬ (l.length = 8 ∧ l.getD 0 0 = 97)) :
    Calls Try.prog 19 #[v] w fun e w' => e = .returned (.tuple #[AN (readAn l).1, I (readAn l).2]) ∧ Ext w w' := by
  have hff : decide (l.length = 8 ∧ l.getD 0 0 = 97) = false := decide_eq_false hf
  have hF := fun wx (h : Ext w wx) => formed_any v l 97 8 (by decide) wx (hv.ext h)
  rw [hff] at hF
  rw [readAn_form hf]
  clear hv hf hff
  go_enter Try.func19, Try.ntmps19
  go_wp2_with fail
  refine Calls.same (hF _ ((Ext.refl w).alloc _)) ?_
  go_wp2
  refine bodyPost_ret (by simp [results, Try.results19, go_sem]; rfl) rfl ?_
  exact ⟨rfl, (Ext.refl w).alloc _⟩

set_option maxHeartbeats 1000000 in
theorem ReadAnswer_read (v : Value) (b1 b2 b3 b4 b5 b6 b7 : UInt8) (w : World) (hv : Bytes w v [97, b1, b2, b3, b4, b5, b6, b7]) :
    Calls Try.prog 19 #[v] w fun e w' => e = .returned (.tuple #[AN (readAn [97, b1, b2, b3, b4, b5, b6, b7]).1, I (readAn [97, b1, b2, b3, b4, b5, b6, b7]).2]) ∧ Ext w w' := by
  have hF := fun wx (h : Ext w wx) => formed_any v _ 97 8 (by decide) wx (hv.ext h)
  have hneg : wrongAn ⟨b1.toNat, b2.toNat, ⟨b3.toNat, numB [b4, b5, b6, b7]⟩⟩ = 0 → readAn [97, b1, b2, b3, b4, b5, b6, b7] = (⟨b1.toNat, b2.toNat, ⟨b3.toNat, numB [b4, b5, b6, b7]⟩⟩, 0) := fun h => if_neg (show ¬ (wrongAn ⟨b1.toNat, b2.toNat, ⟨b3.toNat, numB [b4, b5, b6, b7]⟩⟩ ≠ 0) from fun k => k h)
  have hpos : ¬ wrongAn ⟨b1.toNat, b2.toNat, ⟨b3.toNat, numB [b4, b5, b6, b7]⟩⟩ = 0 → readAn [97, b1, b2, b3, b4, b5, b6, b7] = (zeroAn, wrongAn ⟨b1.toNat, b2.toNat, ⟨b3.toNat, numB [b4, b5, b6, b7]⟩⟩) := fun h => if_pos (show wrongAn ⟨b1.toNat, b2.toNat, ⟨b3.toNat, numB [b4, b5, b6, b7]⟩⟩ ≠ 0 from h)
  have hff : decide ([97, b1, b2, b3, b4, b5, b6, b7].length = 8 ∧ [97, b1, b2, b3, b4, b5, b6, b7].getD 0 0 = 97) = true := rfl
  rw [hff] at hF
  clear hff
  generalize readAn [97, b1, b2, b3, b4, b5, b6, b7] = RR at *
  obtain ⟨R, E⟩ := RR
  obtain ⟨b, off, cap, rfl, hc1, hc2, ⟨-, c1, c2, c3⟩, h6⟩ := bytes8 hv
  have hN := fun wx (h : Ext w wx) => number_any _ b4 b5 b6 b7 wx (h6.ext h)
  unfold maxLen at hc2
  clear hv h6
  generalize numB [b4, b5, b6, b7] = n at *
  have HN := Lib.hid hneg
  have HP := Lib.hid hpos
  clear hneg hpos
  have hk6 : ¬ cap = 4 := by omega
  have hbw := wrap_byte
  have e0 : Ext w (w.alloc (.cells #[I 0, I 0, I 0, I 0] 30)) := (Ext.refl w).alloc _
  have HB := Lib.hid (fun wx (h : Ext (w.alloc (.cells #[I 0, I 0, I 0, I 0] 30)) wx) => block_ext h)
  go_enter Try.func19, Try.ntmps19
  go_wp2_with fail
  refine Calls.same (hF _ e0) ?_
  go_wp2_with fail
  clear hF
  generalize hw0 : w.alloc (.cells #[I 0, I 0, I 0, I 0] 30) = w0 at *
  have HW0 := Lib.hid hw0
  clear hw0
  replace c1 := e0.cell c1
  replace c2 := e0.cell c2
  replace c3 := e0.cell c3
  refine wp_region_mono_tail 9 [none, none, none, none, none, none, some (.inl (I n)), none, some (.inr (BoxC w0.heap.size 28 #[I 0, I 0]))] (by kernel_rfl) (by kernel_rfl) ?_ ?_
  · exact ⟨trivial, trivial, trivial, trivial, trivial, trivial, trivial, trivial, monoBoxC _ _ _, trivial⟩
  iterate 2 (refine wpM_p (fun K hK => ?_); go_simp; refine hK _ ?_; clear hK K)
  refine wpM_q (U b3) rfl (fun w' hw' => by have q0 := hw'.cell c3; go_simp) ?_
  iterate 3 (refine wpM_p (fun K hK => ?_); go_simp; refine hK _ ?_; clear hK K)
  refine wpM_x _ rfl (fun w' hw' _ => ?_) ?_
  · have hg := gives_exts (hN w' (e0.trans hw'))
    unfold makes
    go_simp
    exact ⟨Ext.refl _, hg⟩
  iterate 1 (refine wpM_p (fun K hK => ?_); go_simp; refine hK _ ?_; clear hK K)
  refine wpM_l _ rfl (fun w' hw' hk => ?_) (fun v4 => ?_)
  · clear hk
    unfold makes
    go_simp
    exact ⟨(Ext.refl _).alloc _, boxC_new hw'.size⟩
  refine wpM_nil ?_
  intro w1 e1 hX
  obtain ⟨d, rfl, hd0, hd1⟩ : BoxC w0.heap.size 28 #[I 0, I 0] v4 w1 := hX 4
  clear hX hN
  obtain ⟨x0, x1, f0, f1⟩ := box2 hd1
  have e2 := ext_set2 e1 hd0 (I b3.toNat) (I n)
  have hd2 := set2 hd1 (I b3.toNat) (I n)
  go_wp2_with fail
  clear x0 x1 f0 f1 c3 hd1 e1
  generalize hw2 : (w1.setCell ⟨d, 0, none⟩ (I b3.toNat)).setCell ⟨d, 1, none⟩ (I n) = w2 at *
  clear hw2
  replace c1 := e2.cell c1
  replace c2 := e2.cell c2
  obtain ⟨x0, x1, -⟩ := box2 hd2
  clear hd2
  refine wp_region_mono_tail 11 [none, none, none, none, none, none, none, none, none, none, some (.inr (BoxC w0.heap.size 30 #[I 0, I 0, I 0, I 0]))] (by kernel_rfl) (by kernel_rfl) ?_ ?_
  · exact ⟨trivial, trivial, trivial, trivial, trivial, trivial, trivial, trivial, trivial, trivial, monoBoxC _ _ _, trivial⟩
  iterate 2 (refine wpM_p (fun K hK => ?_); go_simp; refine hK _ ?_; clear hK K)
  refine wpM_q (U b1) rfl (fun w' hw' => by have q0 := hw'.cell c1; go_simp) ?_
  iterate 3 (refine wpM_p (fun K hK => ?_); go_simp; refine hK _ ?_; clear hK K)
  refine wpM_q (U b2) rfl (fun w' hw' => by have q0 := hw'.cell c2; go_simp) ?_
  iterate 1 (refine wpM_p (fun K hK => ?_); go_simp; refine hK _ ?_; clear hK K)
  refine wpM_q (.agg #[I b3.toNat, I n]) rfl (fun w' hw' => by have q0 := hw'.cell x0; have q1 := hw'.cell x1; go_simp) ?_
  iterate 1 (refine wpM_p (fun K hK => ?_); go_simp; refine hK _ ?_; clear hK K)
  refine wpM_l _ rfl (fun w' hw' hk => ?_) (fun v5 => ?_)
  · clear hk
    unfold makes
    go_simp
    exact ⟨(Ext.refl _).alloc _, boxC_new (Nat.le_trans e2.size hw'.size)⟩
  refine wpM_nil ?_
  intro w3 e3 hX
  obtain ⟨g, rfl, hg0, hg1⟩ : BoxC w0.heap.size 30 #[I 0, I 0, I 0, I 0] v5 w3 := hX 5
  clear hX x0 x1 c1 c2
  obtain ⟨x0, x1, x2, x3, f0, f1, f2, f3⟩ := box4 hg1
  have e4 := ext_set4 (e2.trans e3) hg0 (I b1.toNat) (I b2.toNat) (I b3.toNat) (I n)
  have hg2 := set4 hg1 (I b1.toNat) (I b2.toNat) (I b3.toNat) (I n)
  go_wp2_with fail
  clear x0 x1 x2 x3 f0 f1 f2 f3 hg1 e3
  generalize hw4 : (((w3.setCell ⟨g, 0, none⟩ (I b1.toNat)).setCell ⟨g, 1, none⟩ (I b2.toNat)).setCell ⟨g, 2, none⟩ (I b3.toNat)).setCell ⟨g, 3, none⟩ (I n) = w4 at *
  clear hw4 hbw
  refine Calls.exts (WrongAnswer_any (b1.toNat : Int) b2.toNat b3.toNat n w4) (fun w5 e5 => ?_)
  have rb := HB.out w5 (e4.trans e5)
  obtain ⟨z0, z1, z2, z3, f0, f1, f2, f3⟩ := box4 rb
  have m5 : Ext w w5 := e0.trans (e4.trans e5)
  by_cases hz : wrongAn ⟨b1.toNat, b2.toNat, ⟨b3.toNat, n⟩⟩ = 0
  · rw [hz]
    obtain ⟨x0, x1, x2, x3, -⟩ := box4 (block_of hg2 e5)
    have HZ := Lib.hid hz
    clear hz
    go_wp2
    have rb2 := set4 rb (I b1.toNat) (I b2.toNat) (I b3.toNat) (I n)
    obtain ⟨q0, q1, q2, q3, -⟩ := box4 rb2
    have m6 := ext_set4 m5 (Nat.le_refl w.heap.size) (I b1.toNat) (I b2.toNat) (I b3.toNat) (I n)
    clear x0 x1 x2 x3 z0 z1 z2 z3 f0 f1 f2 f3
    refine bodyPost_ret (by simp [results, Try.results19, go_sem, q0, q1, q2, q3]; rfl) rfl ?_
    obtain ⟨h1, h2⟩ := Prod.mk.inj (HN.out HZ.out)
    rw [h1, h2]
    exact ⟨rfl, m6⟩
  · have hb : (wrongAn ⟨b1.toNat, b2.toNat, ⟨b3.toNat, n⟩⟩ != 0) = true := by simpa using hz
    have HZ := Lib.hid hz
    clear hz
    go_wp2
    have rb2 := set4 rb (I 0) (I 0) (I 0) (I 0)
    obtain ⟨q0, q1, q2, q3, -⟩ := box4 rb2
    have m6 := ext_set4 m5 (Nat.le_refl w.heap.size) (I 0) (I 0) (I 0) (I 0)
    clear z0 z1 z2 z3 f0 f1 f2 f3
    refine bodyPost_ret (by simp [results, Try.results19, go_sem, q0, q1, q2, q3]; rfl) rfl ?_
    obtain ⟨h1, h2⟩ := Prod.mk.inj (HP.out HZ.out)
    rw [h1, h2]
    exact ⟨rfl, m6⟩

theorem ReadAnswer_any (v : Value) (l : List UInt8) (w : World) (hv : Bytes w v l) :
    Calls Try.prog 19 #[v] w fun e w' => e = .returned (.tuple #[AN (readAn l).1, I (readAn l).2]) ∧ Ext w w' := by
  by_cases hf : l.length = 8 ∧ l.getD 0 0 = 97
  · obtain ⟨b1, b2, b3, b4, b5, b6, b7, rfl⟩ := eight_of hf
    exact ReadAnswer_read v b1 b2 b3 b4 b5 b6 b7 w hv
  · exact ReadAnswer_form v l w hv hf

end Go.Proofs.Ytdmipnnfoolelac

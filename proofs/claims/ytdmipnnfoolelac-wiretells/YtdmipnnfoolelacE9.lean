/- Walks: requests and answers out of bytes, as the document has them. -/
import Derived.Test.YtdmipnnfoolelacE8
namespace Go.Proofs.Ytdmipnnfoolelac
open Go.RowKit Go.Mk

set_option maxHeartbeats 1000000 in
theorem refReadRequest_form (v : Value) (l : List UInt8) (w : World) (hv : Bytes w v l) (hf : ¬ (l.length = 10 ∧ l.getD 0 0 = 113)) :
    Calls Try.prog 18 #[v] w fun e w' => e = .returned (.tuple #[RQ (readRq l).1, I (readRq l).2]) ∧ Ext w w' := by
  rw [readRq_form hf]
  obtain ⟨ao, cap, rfl, h1, h2, h3⟩ := hv.form
  unfold maxLen at h2
  clear hv
  by_cases hl : l.length = 10
  · obtain ⟨b, off, rfl, hc⟩ := h3 0 (by omega)
    have hm : ¬ l.getD 0 0 = 113 := fun h => hf ⟨hl, h⟩
    clear h3 hf
    simp only [Nat.add_zero] at hc
    rw [hl] at h1 ⊢
    generalize l.getD 0 0 = x at *
    have hu : ((x.toNat : Int) != 113) = true := by
      rw [bne_iff_ne]
      intro h
      exact hm (UInt8.toNat_inj.1 (show x.toNat = 113 by omega))
    replace hc := ((Ext.refl w).alloc (.cells #[I 0, I 0, I 0, I 0, I 0, I 0] 25)).cell hc
    clear hm hl
    go_enter Try.func18, Try.ntmps18
    go_wp2
    refine bodyPost_ret (by simp [results, Try.results18, go_sem]; rfl) rfl ?_
    exact ⟨rfl, (Ext.refl w).alloc _⟩
  · have hne : (((l.length : Int)) != 10) = true := by rw [bne_iff_ne]; omega
    clear h3 hf hl
    go_enter Try.func18, Try.ntmps18
    go_wp2
    refine bodyPost_ret (by simp [results, Try.results18, go_sem]; rfl) rfl ?_
    exact ⟨rfl, (Ext.refl w).alloc _⟩

set_option maxHeartbeats 1000000 in
theorem refReadRequest_read (v : Value) (b1 b2 b3 b4 b5 b6 b7 b8 b9 : UInt8) (w : World) (hv : Bytes w v [113, b1, b2, b3, b4, b5, b6, b7, b8, b9]) :
    Calls Try.prog 18 #[v] w fun e w' => e = .returned (.tuple #[RQ (readRq [113, b1, b2, b3, b4, b5, b6, b7, b8, b9]).1, I (readRq [113, b1, b2, b3, b4, b5, b6, b7, b8, b9]).2]) ∧ Ext w w' := by
  have hneg : wrongRq ⟨b1.toNat, b2.toNat, ⟨b3.toNat, b4.toNat, b5.toNat, numB [b6, b7, b8, b9]⟩⟩ = 0 → readRq [113, b1, b2, b3, b4, b5, b6, b7, b8, b9] = (⟨b1.toNat, b2.toNat, ⟨b3.toNat, b4.toNat, b5.toNat, numB [b6, b7, b8, b9]⟩⟩, 0) := fun h => if_neg (show ¬ (wrongRq ⟨b1.toNat, b2.toNat, ⟨b3.toNat, b4.toNat, b5.toNat, numB [b6, b7, b8, b9]⟩⟩ ≠ 0) from fun k => k h)
  have hpos : ¬ wrongRq ⟨b1.toNat, b2.toNat, ⟨b3.toNat, b4.toNat, b5.toNat, numB [b6, b7, b8, b9]⟩⟩ = 0 → readRq [113, b1, b2, b3, b4, b5, b6, b7, b8, b9] = (zeroRq, wrongRq ⟨b1.toNat, b2.toNat, ⟨b3.toNat, b4.toNat, b5.toNat, numB [b6, b7, b8, b9]⟩⟩) := fun h => if_pos (show wrongRq ⟨b1.toNat, b2.toNat, ⟨b3.toNat, b4.toNat, b5.toNat, numB [b6, b7, b8, b9]⟩⟩ ≠ 0 from h)
  generalize readRq [113, b1, b2, b3, b4, b5, b6, b7, b8, b9] = RR at *
  obtain ⟨R, E⟩ := RR
  obtain ⟨b, off, cap, rfl, hc1, hc2, ⟨c0, c1, c2, c3, c4, c5⟩, h6⟩ := bytes10 hv
  have hN := fun wx (h : Ext w wx) => num_any _ b6 b7 b8 b9 wx (h6.ext h)
  unfold maxLen at hc2
  clear hv h6
  generalize numB [b6, b7, b8, b9] = n at *
  have HN := Lib.hid hneg
  have HP := Lib.hid hpos
  clear hneg hpos
  have hk6 : ¬ cap = 6 := by omega
  have hbw := wrap_byte
  have e0 : Ext w (w.alloc (.cells #[I 0, I 0, I 0, I 0, I 0, I 0] 25)) := (Ext.refl w).alloc _
  have HB := Lib.hid (fun wx (h : Ext (w.alloc (.cells #[I 0, I 0, I 0, I 0, I 0, I 0] 25)) wx) => block_ext h)
  replace c0 := e0.cell c0
  replace c1 := e0.cell c1
  replace c2 := e0.cell c2
  replace c3 := e0.cell c3
  replace c4 := e0.cell c4
  replace c5 := e0.cell c5
  go_enter Try.func18, Try.ntmps18
  go_wp2_with fail
  generalize hw0 : w.alloc (.cells #[I 0, I 0, I 0, I 0, I 0, I 0] 25) = w0 at *
  have HW0 := Lib.hid hw0
  clear hw0 c0
  refine wp_region_mono_tail 26 [none, none, none, none, none, none, none, none, none, none, none, none, none, none, none, none, none, none, none, none, none, none, some (.inl (I n)), none, none, some (.inr (BoxC w0.heap.size 25 #[I 0, I 0, I 0, I 0, I 0, I 0]))] (by kernel_rfl) (by kernel_rfl) ?_ ?_
  · exact ⟨trivial, trivial, trivial, trivial, trivial, trivial, trivial, trivial, trivial, trivial, trivial, trivial, trivial, trivial, trivial, trivial, trivial, trivial, trivial, trivial, trivial, trivial, trivial, trivial, trivial, monoBoxC _ _ _, trivial⟩
  iterate 2 (refine wpM_p (fun K hK => ?_); go_simp; refine hK _ ?_; clear hK K)
  refine wpM_q (U b1) rfl (fun w' hw' => by have q0 := hw'.cell c1; go_simp) ?_
  iterate 3 (refine wpM_p (fun K hK => ?_); go_simp; refine hK _ ?_; clear hK K)
  refine wpM_q (U b2) rfl (fun w' hw' => by have q0 := hw'.cell c2; go_simp) ?_
  iterate 3 (refine wpM_p (fun K hK => ?_); go_simp; refine hK _ ?_; clear hK K)
  refine wpM_q (U b3) rfl (fun w' hw' => by have q0 := hw'.cell c3; go_simp) ?_
  iterate 3 (refine wpM_p (fun K hK => ?_); go_simp; refine hK _ ?_; clear hK K)
  refine wpM_q (U b4) rfl (fun w' hw' => by have q0 := hw'.cell c4; go_simp) ?_
  iterate 3 (refine wpM_p (fun K hK => ?_); go_simp; refine hK _ ?_; clear hK K)
  refine wpM_q (U b5) rfl (fun w' hw' => by have q0 := hw'.cell c5; go_simp) ?_
  iterate 3 (refine wpM_p (fun K hK => ?_); go_simp; refine hK _ ?_; clear hK K)
  refine wpM_x _ rfl (fun w' hw' _ => ?_) ?_
  · have hg := gives_exts (hN w' (e0.trans hw'))
    unfold makes
    go_simp
    exact ⟨Ext.refl _, hg⟩
  iterate 2 (refine wpM_p (fun K hK => ?_); go_simp; refine hK _ ?_; clear hK K)
  refine wpM_l _ rfl (fun w' hw' hk => ?_) (fun v4 => ?_)
  · clear hk
    unfold makes
    go_simp
    exact ⟨(Ext.refl _).alloc _, boxC_new hw'.size⟩
  refine wpM_nil ?_
  intro w1 e1 hX
  obtain ⟨d, rfl, hd0, hd1⟩ : BoxC w0.heap.size 25 #[I 0, I 0, I 0, I 0, I 0, I 0] v4 w1 := hX 4
  clear hX hN
  obtain ⟨⟨x0, x1, x2, x3, x4, x5⟩, f0, f1, f2, f3, f4, f5⟩ := box6 hd1
  have e2 := ext_set6 e1 hd0 (I b1.toNat) (I b2.toNat) (I b3.toNat) (I b4.toNat) (I b5.toNat) (I n)
  have hd2 := set6 hd1 (I b1.toNat) (I b2.toNat) (I b3.toNat) (I b4.toNat) (I b5.toNat) (I n)
  go_wp2_with fail
  clear x0 x1 x2 x3 x4 x5 f0 f1 f2 f3 f4 f5 c1 c2 c3 c4 c5 hd1 e1
  generalize hw2 : (((((w1.setCell ⟨d, 0, none⟩ (I b1.toNat)).setCell ⟨d, 1, none⟩ (I b2.toNat)).setCell ⟨d, 2, none⟩ (I b3.toNat)).setCell ⟨d, 3, none⟩ (I b4.toNat)).setCell ⟨d, 4, none⟩ (I b5.toNat)).setCell ⟨d, 5, none⟩ (I n) = w2 at *
  clear hw2 hbw
  refine Calls.exts (refWrongRequest_any (b1.toNat : Int) b2.toNat b3.toNat b4.toNat b5.toNat n w2) (fun w5 e5 => ?_)
  have rb := HB.out w5 (e2.trans e5)
  obtain ⟨⟨z0, z1, z2, z3, z4, z5⟩, f0, f1, f2, f3, f4, f5⟩ := box6 rb
  have m5 : Ext w w5 := e0.trans (e2.trans e5)
  by_cases hz : wrongRq ⟨b1.toNat, b2.toNat, ⟨b3.toNat, b4.toNat, b5.toNat, n⟩⟩ = 0
  · rw [hz]
    obtain ⟨⟨x0, x1, x2, x3, x4, x5⟩, -⟩ := box6 (block_of hd2 e5)
    have HZ := Lib.hid hz
    clear hz
    go_wp2
    have rb2 := set6 rb (I b1.toNat) (I b2.toNat) (I b3.toNat) (I b4.toNat) (I b5.toNat) (I n)
    obtain ⟨⟨q0, q1, q2, q3, q4, q5⟩, -⟩ := box6 rb2
    have m6 := ext_set6 m5 (Nat.le_refl w.heap.size) (I b1.toNat) (I b2.toNat) (I b3.toNat) (I b4.toNat) (I b5.toNat) (I n)
    clear x0 x1 x2 x3 x4 x5 z0 z1 z2 z3 z4 z5 f0 f1 f2 f3 f4 f5
    refine bodyPost_ret (by simp [results, Try.results18, go_sem, q0, q1, q2, q3, q4, q5]; rfl) rfl ?_
    obtain ⟨h1, h2⟩ := Prod.mk.inj (HN.out HZ.out)
    rw [h1, h2]
    exact ⟨rfl, m6⟩
  · have hb : (wrongRq ⟨b1.toNat, b2.toNat, ⟨b3.toNat, b4.toNat, b5.toNat, n⟩⟩ != 0) = true := by simpa using hz
    have HZ := Lib.hid hz
    clear hz
    go_wp2
    have rb2 := set6 rb (I 0) (I 0) (I 0) (I 0) (I 0) (I 0)
    obtain ⟨⟨q0, q1, q2, q3, q4, q5⟩, -⟩ := box6 rb2
    have m6 := ext_set6 m5 (Nat.le_refl w.heap.size) (I 0) (I 0) (I 0) (I 0) (I 0) (I 0)
    clear z0 z1 z2 z3 z4 z5 f0 f1 f2 f3 f4 f5
    refine bodyPost_ret (by simp [results, Try.results18, go_sem, q0, q1, q2, q3, q4, q5]; rfl) rfl ?_
    obtain ⟨h1, h2⟩ := Prod.mk.inj (HP.out HZ.out)
    rw [h1, h2]
    exact ⟨rfl, m6⟩

theorem refReadRequest_any (v : Value) (l : List UInt8) (w : World) (hv : Bytes w v l) :
    Calls Try.prog 18 #[v] w fun e w' => e = .returned (.tuple #[RQ (readRq l).1, I (readRq l).2]) ∧ Ext w w' := by
  by_cases hf : l.length = 10 ∧ l.getD 0 0 = 113
  · obtain ⟨b1, b2, b3, b4, b5, b6, b7, b8, b9, rfl⟩ := ten_of hf
    exact refReadRequest_read v b1 b2 b3 b4 b5 b6 b7 b8 b9 w hv
  · exact refReadRequest_form v l w hv hf

set_option maxHeartbeats 1000000 in
theorem refReadAnswer_form (v : Value) (l : List UInt8) (w : World) (hv : Bytes w v l) (hf : ¬ (l.length = 8 ∧ l.getD 0 0 = 97)) :
    Calls Try.prog 20 #[v] w fun e w' => e = .returned (.tuple #[AN (readAn l).1, I (readAn l).2]) ∧ Ext w w' := by
  rw [readAn_form hf]
  obtain ⟨ao, cap, rfl, h1, h2, h3⟩ := hv.form
  unfold maxLen at h2
  clear hv
  by_cases hl : l.length = 8
  · obtain ⟨b, off, rfl, hc⟩ := h3 0 (by omega)
    have hm : ¬ l.getD 0 0 = 97 := fun h => hf ⟨hl, h⟩
    clear h3 hf
    simp only [Nat.add_zero] at hc
    rw [hl] at h1 ⊢
    generalize l.getD 0 0 = x at *
    have hu : ((x.toNat : Int) != 97) = true := by
      rw [bne_iff_ne]
      intro h
      exact hm (UInt8.toNat_inj.1 (show x.toNat = 97 by omega))
    replace hc := ((Ext.refl w).alloc (.cells #[I 0, I 0, I 0, I 0] 30)).cell hc
    clear hm hl
    go_enter Try.func20, Try.ntmps20
    go_wp2
    refine bodyPost_ret (by simp [results, Try.results20, go_sem]; rfl) rfl ?_
    exact ⟨rfl, (Ext.refl w).alloc _⟩
  · have hne : (((l.length : Int)) != 8) = true := by rw [bne_iff_ne]; omega
    clear h3 hf hl
    go_enter Try.func20, Try.ntmps20
    go_wp2
    refine bodyPost_ret (by simp [results, Try.results20, go_sem]; rfl) rfl ?_
    exact ⟨rfl, (Ext.refl w).alloc _⟩

set_option maxHeartbeats 1000000 in
theorem refReadAnswer_read (v : Value) (b1 b2 b3 b4 b5 b6 b7 : UInt8) (w : World) (hv : Bytes w v [97, b1, b2, b3, b4, b5, b6, b7]) :
    Calls Try.prog 20 #[v] w fun e w' => e = .returned (.tuple #[AN (readAn [97, b1, b2, b3, b4, b5, b6, b7]).1, I (readAn [97, b1, b2, b3, b4, b5, b6, b7]).2]) ∧ Ext w w' := by
  have hneg : wrongAn ⟨b1.toNat, b2.toNat, ⟨b3.toNat, numB [b4, b5, b6, b7]⟩⟩ = 0 → readAn [97, b1, b2, b3, b4, b5, b6, b7] = (⟨b1.toNat, b2.toNat, ⟨b3.toNat, numB [b4, b5, b6, b7]⟩⟩, 0) := fun h => if_neg (show ¬ (wrongAn ⟨b1.toNat, b2.toNat, ⟨b3.toNat, numB [b4, b5, b6, b7]⟩⟩ ≠ 0) from fun k => k h)
  have hpos : ¬ wrongAn ⟨b1.toNat, b2.toNat, ⟨b3.toNat, numB [b4, b5, b6, b7]⟩⟩ = 0 → readAn [97, b1, b2, b3, b4, b5, b6, b7] = (zeroAn, wrongAn ⟨b1.toNat, b2.toNat, ⟨b3.toNat, numB [b4, b5, b6, b7]⟩⟩) := fun h => if_pos (show wrongAn ⟨b1.toNat, b2.toNat, ⟨b3.toNat, numB [b4, b5, b6, b7]⟩⟩ ≠ 0 from h)
  generalize readAn [97, b1, b2, b3, b4, b5, b6, b7] = RR at *
  obtain ⟨R, E⟩ := RR
  obtain ⟨b, off, cap, rfl, hc1, hc2, ⟨c0, c1, c2, c3⟩, h6⟩ := bytes8 hv
  have hN := fun wx (h : Ext w wx) => num_any _ b4 b5 b6 b7 wx (h6.ext h)
  unfold maxLen at hc2
  clear hv h6
  generalize numB [b4, b5, b6, b7] = n at *
  have HN := Lib.hid hneg
  have HP := Lib.hid hpos
  clear hneg hpos
  have hk6 : ¬ cap = 4 := by omega
  have hbw := wrap_byte
  have e0 : Ext w (w.alloc (.cells #[I 0, I 0, I 0, I 0] 30)) := (Ext.refl w).alloc _
  have HB := Lib.hid (fun wx (h : Ext (w.alloc (.cells #[I 0, I 0, I 0, I 0] 30)) wx) => block_ext h)
  replace c0 := e0.cell c0
  replace c1 := e0.cell c1
  replace c2 := e0.cell c2
  replace c3 := e0.cell c3
  go_enter Try.func20, Try.ntmps20
  go_wp2_with fail
  generalize hw0 : w.alloc (.cells #[I 0, I 0, I 0, I 0] 30) = w0 at *
  have HW0 := Lib.hid hw0
  clear hw0 c0
  refine wp_region_mono_tail 18 [none, none, none, none, none, none, none, none, none, none, none, none, none, none, some (.inl (I n)), none, none, some (.inr (BoxC w0.heap.size 30 #[I 0, I 0, I 0, I 0]))] (by kernel_rfl) (by kernel_rfl) ?_ ?_
  · exact ⟨trivial, trivial, trivial, trivial, trivial, trivial, trivial, trivial, trivial, trivial, trivial, trivial, trivial, trivial, trivial, trivial, trivial, monoBoxC _ _ _, trivial⟩
  iterate 2 (refine wpM_p (fun K hK => ?_); go_simp; refine hK _ ?_; clear hK K)
  refine wpM_q (U b1) rfl (fun w' hw' => by have q0 := hw'.cell c1; go_simp) ?_
  iterate 3 (refine wpM_p (fun K hK => ?_); go_simp; refine hK _ ?_; clear hK K)
  refine wpM_q (U b2) rfl (fun w' hw' => by have q0 := hw'.cell c2; go_simp) ?_
  iterate 3 (refine wpM_p (fun K hK => ?_); go_simp; refine hK _ ?_; clear hK K)
  refine wpM_q (U b3) rfl (fun w' hw' => by have q0 := hw'.cell c3; go_simp) ?_
  iterate 3 (refine wpM_p (fun K hK => ?_); go_simp; refine hK _ ?_; clear hK K)
  refine wpM_x _ rfl (fun w' hw' _ => ?_) ?_
  · have hg := gives_exts (hN w' (e0.trans hw'))
    unfold makes
    go_simp
    exact ⟨Ext.refl _, hg⟩
  iterate 2 (refine wpM_p (fun K hK => ?_); go_simp; refine hK _ ?_; clear hK K)
  refine wpM_l _ rfl (fun w' hw' hk => ?_) (fun v4 => ?_)
  · clear hk
    unfold makes
    go_simp
    exact ⟨(Ext.refl _).alloc _, boxC_new hw'.size⟩
  refine wpM_nil ?_
  intro w1 e1 hX
  obtain ⟨d, rfl, hd0, hd1⟩ : BoxC w0.heap.size 30 #[I 0, I 0, I 0, I 0] v4 w1 := hX 4
  clear hX hN
  obtain ⟨x0, x1, x2, x3, f0, f1, f2, f3⟩ := box4 hd1
  have e2 := ext_set4 e1 hd0 (I b1.toNat) (I b2.toNat) (I b3.toNat) (I n)
  have hd2 := set4 hd1 (I b1.toNat) (I b2.toNat) (I b3.toNat) (I n)
  go_wp2_with fail
  clear x0 x1 x2 x3 f0 f1 f2 f3 c1 c2 c3 hd1 e1
  generalize hw2 : (((w1.setCell ⟨d, 0, none⟩ (I b1.toNat)).setCell ⟨d, 1, none⟩ (I b2.toNat)).setCell ⟨d, 2, none⟩ (I b3.toNat)).setCell ⟨d, 3, none⟩ (I n) = w2 at *
  clear hw2 hbw
  refine Calls.exts (refWrongAnswer_any (b1.toNat : Int) b2.toNat b3.toNat n w2) (fun w5 e5 => ?_)
  have rb := HB.out w5 (e2.trans e5)
  obtain ⟨z0, z1, z2, z3, f0, f1, f2, f3⟩ := box4 rb
  have m5 : Ext w w5 := e0.trans (e2.trans e5)
  by_cases hz : wrongAn ⟨b1.toNat, b2.toNat, ⟨b3.toNat, n⟩⟩ = 0
  · rw [hz]
    obtain ⟨x0, x1, x2, x3, -⟩ := box4 (block_of hd2 e5)
    have HZ := Lib.hid hz
    clear hz
    go_wp2
    have rb2 := set4 rb (I b1.toNat) (I b2.toNat) (I b3.toNat) (I n)
    obtain ⟨q0, q1, q2, q3, -⟩ := box4 rb2
    have m6 := ext_set4 m5 (Nat.le_refl w.heap.size) (I b1.toNat) (I b2.toNat) (I b3.toNat) (I n)
    clear x0 x1 x2 x3 z0 z1 z2 z3 f0 f1 f2 f3
    refine bodyPost_ret (by simp [results, Try.results20, go_sem, q0, q1, q2, q3]; rfl) rfl ?_
    obtain ⟨h1, h2⟩ := Prod.mk.inj (HN.out HZ.out)
    rw [h1, h2]
    exact ⟨rfl, m6⟩
  · have hb : (wrongAn ⟨b1.toNat, b2.toNat, ⟨b3.toNat, n⟩⟩ != 0) = true := by simpa using hz
    have HZ := Lib.hid hz
    clear hz
    go_wp2
    have rb2 := set4 rb (I 0) (I 0) (I 0) (I 0)
    obtain ⟨q0, q1, q2, q3, -⟩ := box4 rb2
    have m6 := ext_set4 m5 (Nat.le_refl w.heap.size) (I 0) (I 0) (I 0) (I 0)
    clear z0 z1 z2 z3 f0 f1 f2 f3
    refine bodyPost_ret (by simp [results, Try.results20, go_sem, q0, q1, q2, q3]; rfl) rfl ?_
    obtain ⟨h1, h2⟩ := Prod.mk.inj (HP.out HZ.out)
    rw [h1, h2]
    exact ⟨rfl, m6⟩

theorem refReadAnswer_any (v : Value) (l : List UInt8) (w : World) (hv : Bytes w v l) :
    Calls Try.prog 20 #[v] w fun e w' => e = .returned (.tuple #[AN (readAn l).1, I (readAn l).2]) ∧ Ext w w' := by
  by_cases hf : l.length = 8 ∧ l.getD 0 0 = 97
  · obtain ⟨b1, b2, b3, b4, b5, b6, b7, rfl⟩ := eight_of hf
    exact refReadAnswer_read v b1 b2 b3 b4 b5 b6 b7 w hv
  · exact refReadAnswer_form v l w hv hf

end Go.Proofs.Ytdmipnnfoolelac

/- Walks: requests and answers out of bytes. -/
import Derived.Test.YtdmipnnfoolelacE6
import Derived.Test.YtdmipnnfoolelacBox
namespace Go.Proofs.Ytdmipnnfoolelac
open Go.RowKit Go.Mk

theorem bytes10 {w : World} {v : Value} {b0 b1 b2 b3 b4 b5 b6 b7 b8 b9 : UInt8} (h : Bytes w v [b0, b1, b2, b3, b4, b5, b6, b7, b8, b9]) : ∃ b off cap, v = .slice (some ⟨b, off, none⟩) 10 cap ∧ 10 ≤ cap ∧ cap ≤ maxLen ∧
    (w.cell? ⟨b, off, none⟩ = some (U b0) ∧ w.cell? ⟨b, off + 1, none⟩ = some (U b1) ∧ w.cell? ⟨b, off + 2, none⟩ = some (U b2) ∧ w.cell? ⟨b, off + 3, none⟩ = some (U b3) ∧ w.cell? ⟨b, off + 4, none⟩ = some (U b4) ∧ w.cell? ⟨b, off + 5, none⟩ = some (U b5)) ∧
      Bytes w (.slice (some ⟨b, off + 6, none⟩) 4 (cap - 6)) [b6, b7, b8, b9] := by
  obtain ⟨ao, cap, rfl, h1, h2, h3⟩ := h.form
  obtain ⟨b, off, rfl, c0⟩ := h3 0 (by simp)
  refine ⟨b, off, cap, rfl, h1, h2, ⟨c0, ?_, ?_, ?_, ?_, ?_⟩, h.drop 6 (by simp)⟩
  · obtain ⟨_, _, e1, c1⟩ := h3 1 (by simp); cases e1; exact c1
  · obtain ⟨_, _, e1, c1⟩ := h3 2 (by simp); cases e1; exact c1
  · obtain ⟨_, _, e1, c1⟩ := h3 3 (by simp); cases e1; exact c1
  · obtain ⟨_, _, e1, c1⟩ := h3 4 (by simp); cases e1; exact c1
  · obtain ⟨_, _, e1, c1⟩ := h3 5 (by simp); cases e1; exact c1

theorem bytes8 {w : World} {v : Value} {b0 b1 b2 b3 b4 b5 b6 b7 : UInt8} (h : Bytes w v [b0, b1, b2, b3, b4, b5, b6, b7]) : ∃ b off cap, v = .slice (some ⟨b, off, none⟩) 8 cap ∧ 8 ≤ cap ∧ cap ≤ maxLen ∧
    (w.cell? ⟨b, off, none⟩ = some (U b0) ∧ w.cell? ⟨b, off + 1, none⟩ = some (U b1) ∧ w.cell? ⟨b, off + 2, none⟩ = some (U b2) ∧ w.cell? ⟨b, off + 3, none⟩ = some (U b3)) ∧
      Bytes w (.slice (some ⟨b, off + 4, none⟩) 4 (cap - 4)) [b4, b5, b6, b7] := by
  obtain ⟨ao, cap, rfl, h1, h2, h3⟩ := h.form
  obtain ⟨b, off, rfl, c0⟩ := h3 0 (by simp)
  refine ⟨b, off, cap, rfl, h1, h2, ⟨c0, ?_, ?_, ?_⟩, h.drop 4 (by simp)⟩
  · obtain ⟨_, _, e1, c1⟩ := h3 1 (by simp); cases e1; exact c1
  · obtain ⟨_, _, e1, c1⟩ := h3 2 (by simp); cases e1; exact c1
  · obtain ⟨_, _, e1, c1⟩ := h3 3 (by simp); cases e1; exact c1

theorem wrap_byte (x : UInt8) : IntKind.i64.wrap (x.toNat : Int) = (x.toNat : Int) := by
  have := x.toNat_lt
  unfold IntKind.wrap
  simp [IntKind.signed, IntKind.bits]
  omega

theorem readRq_form {l : List UInt8} (h : ¬ (l.length = 10 ∧ l.getD 0 0 = 113)) : readRq l = (zeroRq, 2) := if_pos (by by_cases h1 : l.length = 10 <;> simp_all)
theorem readAn_form {l : List UInt8} (h : ¬ (l.length = 8 ∧ l.getD 0 0 = 97)) : readAn l = (zeroAn, 2) := if_pos (by by_cases h1 : l.length = 8 <;> simp_all)

set_option maxHeartbeats 1000000 in
theorem ReadRequest_form (v : Value) (l : List UInt8) (w : World) (hv : Bytes w v l) (hf : ¬ (l.length = 10 ∧ l.getD 0 0 = 113)) :
    Calls Try.prog 17 #[v] w fun e w' => e = .returned (.tuple #[RQ (readRq l).1, I (readRq l).2]) ∧ Ext w w' := by
  have hff : decide (l.length = 10 ∧ l.getD 0 0 = 113) = false := decide_eq_false hf
  have hF := fun wx (h : Ext w wx) => formed_any v l 113 10 (by decide) wx (hv.ext h)
  rw [hff] at hF
  rw [readRq_form hf]
  clear hv hf hff
  go_enter Try.func17, Try.ntmps17
  go_wp2_with fail
  refine Calls.same (hF _ ((Ext.refl w).alloc _)) ?_
  go_wp2
  refine bodyPost_ret (by simp [results, Try.results17, go_sem]; rfl) rfl ?_
  exact ⟨rfl, (Ext.refl w).alloc _⟩

set_option maxHeartbeats 1000000 in
theorem ReadRequest_read (v : Value) (b1 b2 b3 b4 b5 b6 b7 b8 b9 : UInt8) (w : World) (hv : Bytes w v [113, b1, b2, b3, b4, b5, b6, b7, b8, b9]) :
    Calls Try.prog 17 #[v] w fun e w' => e = .returned (.tuple #[RQ (readRq [113, b1, b2, b3, b4, b5, b6, b7, b8, b9]).1, I (readRq [113, b1, b2, b3, b4, b5, b6, b7, b8, b9]).2]) ∧ Ext w w' := by
  have hF := fun wx (h : Ext w wx) => formed_any v _ 113 10 (by decide) wx (hv.ext h)
  have hneg : wrongRq ⟨b1.toNat, b2.toNat, ⟨b3.toNat, b4.toNat, b5.toNat, numB [b6, b7, b8, b9]⟩⟩ = 0 → readRq [113, b1, b2, b3, b4, b5, b6, b7, b8, b9] = (⟨b1.toNat, b2.toNat, ⟨b3.toNat, b4.toNat, b5.toNat, numB [b6, b7, b8, b9]⟩⟩, 0) := fun h => if_neg (show ¬ (wrongRq ⟨b1.toNat, b2.toNat, ⟨b3.toNat, b4.toNat, b5.toNat, numB [b6, b7, b8, b9]⟩⟩ ≠ 0) from fun k => k h)
  have hpos : ¬ wrongRq ⟨b1.toNat, b2.toNat, ⟨b3.toNat, b4.toNat, b5.toNat, numB [b6, b7, b8, b9]⟩⟩ = 0 → readRq [113, b1, b2, b3, b4, b5, b6, b7, b8, b9] = (zeroRq, wrongRq ⟨b1.toNat, b2.toNat, ⟨b3.toNat, b4.toNat, b5.toNat, numB [b6, b7, b8, b9]⟩⟩) := fun h => if_pos (show wrongRq ⟨b1.toNat, b2.toNat, ⟨b3.toNat, b4.toNat, b5.toNat, numB [b6, b7, b8, b9]⟩⟩ ≠ 0 from h)
  have hff : decide ([113, b1, b2, b3, b4, b5, b6, b7, b8, b9].length = 10 ∧ [113, b1, b2, b3, b4, b5, b6, b7, b8, b9].getD 0 0 = 113) = true := rfl
  rw [hff] at hF
  clear hff
  generalize readRq [113, b1, b2, b3, b4, b5, b6, b7, b8, b9] = RR at *
  obtain ⟨R, E⟩ := RR
  obtain ⟨b, off, cap, rfl, hc1, hc2, ⟨-, c1, c2, c3, c4, c5⟩, h6⟩ := bytes10 hv
  have hN := fun wx (h : Ext w wx) => number_any _ b6 b7 b8 b9 wx (h6.ext h)
  unfold maxLen at hc2
  clear hv h6
  generalize numB [b6, b7, b8, b9] = n at *
  have HN := Lib.hid hneg
  have HP := Lib.hid hpos
  clear hneg hpos
  have hk6 : ¬ cap = 6 := by omega
  have hbw := wrap_byte
  have e0 : Ext w (w.alloc (.cells #[I 0, I 0, I 0, I 0, I 0, I 0] 25)) := (Ext.refl w).alloc _
  have HB := Lib.hid (fun wx (h : Ext (w.alloc (.cells #[I 0, I 0, I 0, I 0, I 0, I 0] 25)) wx) => block_ext h)
  go_enter Try.func17, Try.ntmps17
  go_wp2_with fail
  refine Calls.same (hF _ e0) ?_
  go_wp2_with fail
  clear hF
  generalize hw0 : w.alloc (.cells #[I 0, I 0, I 0, I 0, I 0, I 0] 25) = w0 at *
  have HW0 := Lib.hid hw0
  clear hw0
  replace c1 := e0.cell c1
  replace c2 := e0.cell c2
  replace c3 := e0.cell c3
  replace c4 := e0.cell c4
  replace c5 := e0.cell c5
  refine wp_region_mono_tail 17 [none, none, none, none, none, none, none, none, none, none, none, none, none, none, some (.inl (I n)), none, some (.inr (BoxC w0.heap.size 23 #[I 0, I 0, I 0, I 0]))] (by kernel_rfl) (by kernel_rfl) ?_ ?_
  · exact ⟨trivial, trivial, trivial, trivial, trivial, trivial, trivial, trivial, trivial, trivial, trivial, trivial, trivial, trivial, trivial, trivial, monoBoxC _ _ _, trivial⟩
  iterate 2 (refine wpM_p (fun K hK => ?_); go_simp; refine hK _ ?_; clear hK K)
  refine wpM_q (U b3) rfl (fun w' hw' => by have q0 := hw'.cell c3; go_simp) ?_
  iterate 3 (refine wpM_p (fun K hK => ?_); go_simp; refine hK _ ?_; clear hK K)
  refine wpM_q (U b4) rfl (fun w' hw' => by have q0 := hw'.cell c4; go_simp) ?_
  iterate 3 (refine wpM_p (fun K hK => ?_); go_simp; refine hK _ ?_; clear hK K)
  refine wpM_q (U b5) rfl (fun w' hw' => by have q0 := hw'.cell c5; go_simp) ?_
  iterate 3 (refine wpM_p (fun K hK => ?_); go_simp; refine hK _ ?_; clear hK K)
  refine wpM_x _ rfl (fun w' hw' _ => ?_) ?_
  · have hg := gives_exts (hN w' (e0.trans hw'))
    unfold makes
    go_simp
    exact ⟨Ext.refl _, hg⟩
  iterate 1 (refine wpM_p (fun K hK => ?_); go_simp; refine hK _ ?_; clear hK K)
  refine wpM_l _ rfl (fun w' hw' hk => ?_) (fun v4 => ?_)
  · clear hk
    unfold makes
    go_simp
    exact ⟨(Ext.refl _).alloc _, boxC_new hw'.size⟩
  refine wpM_nil ?_
  intro w1 e1 hX
  obtain ⟨d, rfl, hd0, hd1⟩ : BoxC w0.heap.size 23 #[I 0, I 0, I 0, I 0] v4 w1 := hX 4
  clear hX hN
  obtain ⟨x0, x1, x2, x3, f0, f1, f2, f3⟩ := box4 hd1
  have e2 := ext_set4 e1 hd0 (I b3.toNat) (I b4.toNat) (I b5.toNat) (I n)
  have hd2 := set4 hd1 (I b3.toNat) (I b4.toNat) (I b5.toNat) (I n)
  go_wp2_with fail
  clear x0 x1 x2 x3 f0 f1 f2 f3 c3 c4 c5 hd1 e1
  generalize hw2 : (((w1.setCell ⟨d, 0, none⟩ (I b3.toNat)).setCell ⟨d, 1, none⟩ (I b4.toNat)).setCell ⟨d, 2, none⟩ (I b5.toNat)).setCell ⟨d, 3, none⟩ (I n) = w2 at *
  clear hw2
  replace c1 := e2.cell c1
  replace c2 := e2.cell c2
  obtain ⟨x0, x1, x2, x3, -⟩ := box4 hd2
  clear hd2
  refine wp_region_mono_tail 11 [none, none, none, none, none, none, none, none, none, none, some (.inr (BoxC w0.heap.size 25 #[I 0, I 0, I 0, I 0, I 0, I 0]))] (by kernel_rfl) (by kernel_rfl) ?_ ?_
  · exact ⟨trivial, trivial, trivial, trivial, trivial, trivial, trivial, trivial, trivial, trivial, monoBoxC _ _ _, trivial⟩
  iterate 2 (refine wpM_p (fun K hK => ?_); go_simp; refine hK _ ?_; clear hK K)
  refine wpM_q (U b1) rfl (fun w' hw' => by have q0 := hw'.cell c1; go_simp) ?_
  iterate 3 (refine wpM_p (fun K hK => ?_); go_simp; refine hK _ ?_; clear hK K)
  refine wpM_q (U b2) rfl (fun w' hw' => by have q0 := hw'.cell c2; go_simp) ?_
  iterate 1 (refine wpM_p (fun K hK => ?_); go_simp; refine hK _ ?_; clear hK K)
  refine wpM_q (.agg #[I b3.toNat, I b4.toNat, I b5.toNat, I n]) rfl (fun w' hw' => by have q0 := hw'.cell x0; have q1 := hw'.cell x1; have q2 := hw'.cell x2; have q3 := hw'.cell x3; go_simp) ?_
  iterate 1 (refine wpM_p (fun K hK => ?_); go_simp; refine hK _ ?_; clear hK K)
  refine wpM_l _ rfl (fun w' hw' hk => ?_) (fun v5 => ?_)
  · clear hk
    unfold makes
    go_simp
    exact ⟨(Ext.refl _).alloc _, boxC_new (Nat.le_trans e2.size hw'.size)⟩
  refine wpM_nil ?_
  intro w3 e3 hX
  obtain ⟨g, rfl, hg0, hg1⟩ : BoxC w0.heap.size 25 #[I 0, I 0, I 0, I 0, I 0, I 0] v5 w3 := hX 5
  clear hX x0 x1 x2 x3 c1 c2
  obtain ⟨⟨x0, x1, x2, x3, x4, x5⟩, f0, f1, f2, f3, f4, f5⟩ := box6 hg1
  have e4 := ext_set6 (e2.trans e3) hg0 (I b1.toNat) (I b2.toNat) (I b3.toNat) (I b4.toNat) (I b5.toNat) (I n)
  have hg2 := set6 hg1 (I b1.toNat) (I b2.toNat) (I b3.toNat) (I b4.toNat) (I b5.toNat) (I n)
  go_wp2_with fail
  clear x0 x1 x2 x3 x4 x5 f0 f1 f2 f3 f4 f5 hg1 e3
  generalize hw4 : (((((w3.setCell ⟨g, 0, none⟩ (I b1.toNat)).setCell ⟨g, 1, none⟩ (I b2.toNat)).setCell ⟨g, 2, none⟩ (I b3.toNat)).setCell ⟨g, 3, none⟩ (I b4.toNat)).setCell ⟨g, 4, none⟩ (I b5.toNat)).setCell ⟨g, 5, none⟩ (I n) = w4 at *
  clear hw4 hbw
  refine Calls.exts (WrongRequest_any (b1.toNat : Int) b2.toNat b3.toNat b4.toNat b5.toNat n w4) (fun w5 e5 => ?_)
  have rb := HB.out w5 (e4.trans e5)
  obtain ⟨⟨z0, z1, z2, z3, z4, z5⟩, f0, f1, f2, f3, f4, f5⟩ := box6 rb
  have m5 : Ext w w5 := e0.trans (e4.trans e5)
  by_cases hz : wrongRq ⟨b1.toNat, b2.toNat, ⟨b3.toNat, b4.toNat, b5.toNat, n⟩⟩ = 0
  · rw [hz]
    obtain ⟨⟨x0, x1, x2, x3, x4, x5⟩, -⟩ := box6 (block_of hg2 e5)
    have HZ := Lib.hid hz
    clear hz
    go_wp2
    have rb2 := set6 rb (I b1.toNat) (I b2.toNat) (I b3.toNat) (I b4.toNat) (I b5.toNat) (I n)
    obtain ⟨⟨q0, q1, q2, q3, q4, q5⟩, -⟩ := box6 rb2
    have m6 := ext_set6 m5 (Nat.le_refl w.heap.size) (I b1.toNat) (I b2.toNat) (I b3.toNat) (I b4.toNat) (I b5.toNat) (I n)
    clear x0 x1 x2 x3 x4 x5 z0 z1 z2 z3 z4 z5 f0 f1 f2 f3 f4 f5
    refine bodyPost_ret (by simp [results, Try.results17, go_sem, q0, q1, q2, q3, q4, q5]; rfl) rfl ?_
    obtain ⟨h1, h2⟩ := Prod.mk.inj (HN.out HZ.out)
    rw [h1, h2]
    exact ⟨rfl, m6⟩
  · have hb : (wrongRq ⟨b1.toNat, b2.toNat, ⟨b3.toNat, b4.toNat, b5.toNat, n⟩⟩ != 0) = true := by simpa using hz
    have HZ := Lib.hid hz
    clear hz
    go_wp2
    have rb2 := set6 rb (I 0) (I 0) (I 0) (I 0) (I 0) (I 0)
    obtain ⟨⟨q0, q1, q2, q3, q4, q5⟩, -⟩ := box6 rb2
    have m6 := ext_set6 m5 (Nat.le_refl w.heap.size) (I 0) (I 0) (I 0) (I 0) (I 0) (I 0)
    clear z0 z1 z2 z3 z4 z5 f0 f1 f2 f3 f4 f5
    refine bodyPost_ret (by simp [results, Try.results17, go_sem, q0, q1, q2, q3, q4, q5]; rfl) rfl ?_
    obtain ⟨h1, h2⟩ := Prod.mk.inj (HP.out HZ.out)
    rw [h1, h2]
    exact ⟨rfl, m6⟩

theorem ten_of {l : List UInt8} (h : l.length = 10 ∧ l.getD 0 0 = 113) : ∃ b1 b2 b3 b4 b5 b6 b7 b8 b9, l = [113, b1, b2, b3, b4, b5, b6, b7, b8, b9] := by
  obtain ⟨h1, h2⟩ := h
  match l, h1, h2 with
  | [b0, b1, b2, b3, b4, b5, b6, b7, b8, b9], _, h0 =>
    have h0 : b0 = 113 := h0
    subst h0
    exact ⟨_, _, _, _, _, _, _, _, _, rfl⟩
theorem eight_of {l : List UInt8} (h : l.length = 8 ∧ l.getD 0 0 = 97) : ∃ b1 b2 b3 b4 b5 b6 b7, l = [97, b1, b2, b3, b4, b5, b6, b7] := by
  obtain ⟨h1, h2⟩ := h
  match l, h1, h2 with
  | [b0, b1, b2, b3, b4, b5, b6, b7], _, h0 =>
    have h0 : b0 = 97 := h0
    subst h0
    exact ⟨_, _, _, _, _, _, _, rfl⟩

theorem ReadRequest_any (v : Value) (l : List UInt8) (w : World) (hv : Bytes w v l) :
    Calls Try.prog 17 #[v] w fun e w' => e = .returned (.tuple #[RQ (readRq l).1, I (readRq l).2]) ∧ Ext w w' := by
  by_cases hf : l.length = 10 ∧ l.getD 0 0 = 113
  · obtain ⟨b1, b2, b3, b4, b5, b6, b7, b8, b9, rfl⟩ := ten_of hf
    exact ReadRequest_read v b1 b2 b3 b4 b5 b6 b7 b8 b9 w hv
  · exact ReadRequest_form v l w hv hf

end Go.Proofs.Ytdmipnnfoolelac

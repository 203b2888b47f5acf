/- Texts of the proof, merged: E9 S3 S4 N1. -/
import Derived.Test.YtdmipnnfoolelaeKE
import Derived.Test.YtdmipnnfoolelaeKB

namespace Go.Proofs.Ytdmipnnfoolelae
open Go.RowKit Go.Mk

set_option maxHeartbeats 1000000 in
theorem refReadRequest_form (v : Value) (l : List UInt8) (w : World) (hv : Bytes w v l) (hf : ¬ (l.length = 10 ∧ l.getD 0 0 = 113)) :
  Calls Try.prog 44 #[v] w fun e w'=>e = .returned (.tuple #[RQ (readRq l).1,I (readRq l).2]) ∧ Ext w w':=by
 rw [readRq_form hf]
 obtain ⟨ao,cap,rfl,h1,h2,h3⟩:=hv.form
 unfold maxLen at h2
 clear hv
 by_cases hl : l.length = 10
 ·obtain ⟨b,off,rfl,hc⟩:=h3 0 (by omega)
  have hm : ¬ l.getD 0 0 = 113:=fun h=>hf ⟨hl,h⟩
  clear h3 hf
  simp only [Nat.add_zero] at hc
  rw [hl] at h1 ⊢
  generalize l.getD 0 0 = x at *
  have hu : ((x.toNat : Int) != 113) = true:=by
   rw [bne_iff_ne]
   intro h
   exact hm (UInt8.toNat_inj.1 (show x.toNat = 113 by omega))
  replace hc:=((Ext.refl w).alloc (.cells #[I 0,I 0,I 0,I 0,I 0,I 0] 36)).cell hc
  clear hm hl
  go_enter Try.func44,Try.ntmps44
  go_wp2
  refine bodyPost_ret (by simp [results,Try.results44,go_sem]; rfl) rfl ?_
  exact ⟨rfl,(Ext.refl w).alloc _⟩
 ·have hne : (((l.length : Int)) != 10) = true:=by rw [bne_iff_ne]; omega
  clear h3 hf hl
  go_enter Try.func44,Try.ntmps44
  go_wp2
  refine bodyPost_ret (by simp [results,Try.results44,go_sem]; rfl) rfl ?_
  exact ⟨rfl,(Ext.refl w).alloc _⟩

set_option maxHeartbeats 1000000 in
theorem refReadRequest_read (v : Value) (b1 b2 b3 b4 b5 b6 b7 b8 b9 : UInt8) (w : World) (hv : Bytes w v [113,b1,b2,b3,b4,b5,b6,b7,b8,b9]) :
  Calls Try.prog 44 #[v] w fun e w'=>e = .returned (.tuple #[RQ (readRq [113,b1,b2,b3,b4,b5,b6,b7,b8,b9]).1,I (readRq [113,b1,b2,b3,b4,b5,b6,b7,b8,b9]).2]) ∧ Ext w w':=by
 have hneg : wrongRq ⟨b1.toNat,b2.toNat,⟨b3.toNat,b4.toNat,b5.toNat,numB [b6,b7,b8,b9]⟩⟩ = 0 → readRq [113,b1,b2,b3,b4,b5,b6,b7,b8,b9] = (⟨b1.toNat,b2.toNat,⟨b3.toNat,b4.toNat,b5.toNat,numB [b6,b7,b8,b9]⟩⟩,0):=fun h=>if_neg (show ¬ (wrongRq ⟨b1.toNat,b2.toNat,⟨b3.toNat,b4.toNat,b5.toNat,numB [b6,b7,b8,b9]⟩⟩ ≠ 0) from fun k=>k h)
 have hpos : ¬ wrongRq ⟨b1.toNat,b2.toNat,⟨b3.toNat,b4.toNat,b5.toNat,numB [b6,b7,b8,b9]⟩⟩ = 0 → readRq [113,b1,b2,b3,b4,b5,b6,b7,b8,b9] = (zeroRq,wrongRq ⟨b1.toNat,b2.toNat,⟨b3.toNat,b4.toNat,b5.toNat,numB [b6,b7,b8,b9]⟩⟩):=fun h=>if_pos (show wrongRq ⟨b1.toNat,b2.toNat,⟨b3.toNat,b4.toNat,b5.toNat,numB [b6,b7,b8,b9]⟩⟩ ≠ 0 from h)
 generalize readRq [113,b1,b2,b3,b4,b5,b6,b7,b8,b9] = RR at *
 obtain ⟨R,E⟩:=RR
 obtain ⟨b,off,cap,rfl,hc1,hc2,⟨c0,c1,c2,c3,c4,c5⟩,h6⟩:=bytes10 hv
 have hN:=fun wx (h : Ext w wx)=>num_any _ b6 b7 b8 b9 wx (h6.ext h)
 unfold maxLen at hc2
 clear hv h6
 generalize numB [b6,b7,b8,b9] = n at *
 have HN:=Lib.hid hneg
 have HP:=Lib.hid hpos
 clear hneg hpos
 have hk6 : ¬ cap = 6:=by omega
 have hbw:=wrap_byte
 have e0 : Ext w (w.alloc (.cells #[I 0,I 0,I 0,I 0,I 0,I 0] 36)):=(Ext.refl w).alloc _
 have HB:=Lib.hid (fun wx (h : Ext (w.alloc (.cells #[I 0,I 0,I 0,I 0,I 0,I 0] 36)) wx)=>block_ext h)
 replace c0:=e0.cell c0
 replace c1:=e0.cell c1
 replace c2:=e0.cell c2
 replace c3:=e0.cell c3
 replace c4:=e0.cell c4
 replace c5:=e0.cell c5
 go_enter Try.func44,Try.ntmps44
 go_wp2_with fail
 generalize hw0 : w.alloc (.cells #[I 0,I 0,I 0,I 0,I 0,I 0] 36) = w0 at *
 have HW0:=Lib.hid hw0
 clear hw0 c0
 refine wp_region_mono_tail 26 [none,none,none,none,none,none,none,none,none,none,none,none,none,none,none,none,none,none,none,none,none,none,some (.inl (I n)),none,none,some (.inr (BoxC w0.heap.size 36 #[I 0,I 0,I 0,I 0,I 0,I 0]))] (by kernel_rfl) (by kernel_rfl) ?_ ?_
 ·exact ⟨trivial,trivial,trivial,trivial,trivial,trivial,trivial,trivial,trivial,trivial,trivial,trivial,trivial,trivial,trivial,trivial,trivial,trivial,trivial,trivial,trivial,trivial,trivial,trivial,trivial,monoBoxC _ _ _,trivial⟩
 iterate 2 (refine wpM_p (fun K hK=>?_); go_simp; refine hK _ ?_; clear hK K)
 refine wpM_q (U b1) rfl (fun w' hw'=>by have q0:=hw'.cell c1; go_simp) ?_
 iterate 3 (refine wpM_p (fun K hK=>?_); go_simp; refine hK _ ?_; clear hK K)
 refine wpM_q (U b2) rfl (fun w' hw'=>by have q0:=hw'.cell c2; go_simp) ?_
 iterate 3 (refine wpM_p (fun K hK=>?_); go_simp; refine hK _ ?_; clear hK K)
 refine wpM_q (U b3) rfl (fun w' hw'=>by have q0:=hw'.cell c3; go_simp) ?_
 iterate 3 (refine wpM_p (fun K hK=>?_); go_simp; refine hK _ ?_; clear hK K)
 refine wpM_q (U b4) rfl (fun w' hw'=>by have q0:=hw'.cell c4; go_simp) ?_
 iterate 3 (refine wpM_p (fun K hK=>?_); go_simp; refine hK _ ?_; clear hK K)
 refine wpM_q (U b5) rfl (fun w' hw'=>by have q0:=hw'.cell c5; go_simp) ?_
 iterate 3 (refine wpM_p (fun K hK=>?_); go_simp; refine hK _ ?_; clear hK K)
 refine wpM_x _ rfl (fun w' hw' _=>?_) ?_
 ·have hg:=gives_exts (hN w' (e0.trans hw'))
  unfold makes
  go_simp
  exact ⟨Ext.refl _,hg⟩
 iterate 2 (refine wpM_p (fun K hK=>?_); go_simp; refine hK _ ?_; clear hK K)
 refine wpM_l _ rfl (fun w' hw' hk=>?_) (fun v4=>?_)
 ·clear hk
  unfold makes
  go_simp
  exact ⟨(Ext.refl _).alloc _,boxC_new hw'.size⟩
 refine wpM_nil ?_
 intro w1 e1 hX
 obtain ⟨d,rfl,hd0,hd1⟩ : BoxC w0.heap.size 36 #[I 0,I 0,I 0,I 0,I 0,I 0] v4 w1:=hX 4
 clear hX hN
 obtain ⟨⟨x0,x1,x2,x3,x4,x5⟩,f0,f1,f2,f3,f4,f5⟩:=box6 hd1
 have e2:=ext_set6 e1 hd0 (I b1.toNat) (I b2.toNat) (I b3.toNat) (I b4.toNat) (I b5.toNat) (I n)
 have hd2:=set6 hd1 (I b1.toNat) (I b2.toNat) (I b3.toNat) (I b4.toNat) (I b5.toNat) (I n)
 go_wp2_with fail
 clear x0 x1 x2 x3 x4 x5 f0 f1 f2 f3 f4 f5 c1 c2 c3 c4 c5 hd1 e1
 generalize hw2 : (((((w1.setCell ⟨d,0,none⟩ (I b1.toNat)).setCell ⟨d,1,none⟩ (I b2.toNat)).setCell ⟨d,2,none⟩ (I b3.toNat)).setCell ⟨d,3,none⟩ (I b4.toNat)).setCell ⟨d,4,none⟩ (I b5.toNat)).setCell ⟨d,5,none⟩ (I n) = w2 at *
 clear hw2 hbw
 refine Calls.exts (refWrongRequest_any (b1.toNat : Int) b2.toNat b3.toNat b4.toNat b5.toNat n w2) (fun w5 e5=>?_)
 have rb:=HB.out w5 (e2.trans e5)
 obtain ⟨⟨z0,z1,z2,z3,z4,z5⟩,f0,f1,f2,f3,f4,f5⟩:=box6 rb
 have m5 : Ext w w5:=e0.trans (e2.trans e5)
 by_cases hz : wrongRq ⟨b1.toNat,b2.toNat,⟨b3.toNat,b4.toNat,b5.toNat,n⟩⟩ = 0
 ·rw [hz]
  obtain ⟨⟨x0,x1,x2,x3,x4,x5⟩,-⟩:=box6 (block_of hd2 e5)
  have HZ:=Lib.hid hz
  clear hz
  go_wp2
  have rb2:=set6 rb (I b1.toNat) (I b2.toNat) (I b3.toNat) (I b4.toNat) (I b5.toNat) (I n)
  obtain ⟨⟨q0,q1,q2,q3,q4,q5⟩,-⟩:=box6 rb2
  have m6:=ext_set6 m5 (Nat.le_refl w.heap.size) (I b1.toNat) (I b2.toNat) (I b3.toNat) (I b4.toNat) (I b5.toNat) (I n)
  clear x0 x1 x2 x3 x4 x5 z0 z1 z2 z3 z4 z5 f0 f1 f2 f3 f4 f5
  refine bodyPost_ret (by simp [results,Try.results44,go_sem,q0,q1,q2,q3,q4,q5]; rfl) rfl ?_
  obtain ⟨h1,h2⟩:=Prod.mk.inj (HN.out HZ.out)
  rw [h1,h2]
  exact ⟨rfl,m6⟩
 ·have hb : (wrongRq ⟨b1.toNat,b2.toNat,⟨b3.toNat,b4.toNat,b5.toNat,n⟩⟩ != 0) = true:=by simpa using hz
  have HZ:=Lib.hid hz
  clear hz
  go_wp2
  have rb2:=set6 rb (I 0) (I 0) (I 0) (I 0) (I 0) (I 0)
  obtain ⟨⟨q0,q1,q2,q3,q4,q5⟩,-⟩:=box6 rb2
  have m6:=ext_set6 m5 (Nat.le_refl w.heap.size) (I 0) (I 0) (I 0) (I 0) (I 0) (I 0)
  clear z0 z1 z2 z3 z4 z5 f0 f1 f2 f3 f4 f5
  refine bodyPost_ret (by simp [results,Try.results44,go_sem,q0,q1,q2,q3,q4,q5]; rfl) rfl ?_
  obtain ⟨h1,h2⟩:=Prod.mk.inj (HP.out HZ.out)
  rw [h1,h2]
  exact ⟨rfl,m6⟩

theorem refReadRequest_any (v : Value) (l : List UInt8) (w : World) (hv : Bytes w v l) :
  Calls Try.prog 44 #[v] w fun e w'=>e = .returned (.tuple #[RQ (readRq l).1,I (readRq l).2]) ∧ Ext w w':=by
 by_cases hf : l.length = 10 ∧ l.getD 0 0 = 113
 ·obtain ⟨b1,b2,b3,b4,b5,b6,b7,b8,b9,rfl⟩:=ten_of hf
  exact refReadRequest_read v b1 b2 b3 b4 b5 b6 b7 b8 b9 w hv
 ·exact refReadRequest_form v l w hv hf

set_option maxHeartbeats 1000000 in
theorem refReadAnswer_form (v : Value) (l : List UInt8) (w : World) (hv : Bytes w v l) (hf : ¬ (l.length = 8 ∧ l.getD 0 0 = 97)) :
  Calls Try.prog 14 #[v] w fun e w'=>e = .returned (.tuple #[AN (readAn l).1,I (readAn l).2]) ∧ Ext w w':=by
 rw [readAn_form hf]
 obtain ⟨ao,cap,rfl,h1,h2,h3⟩:=hv.form
 unfold maxLen at h2
 clear hv
 by_cases hl : l.length = 8
 ·obtain ⟨b,off,rfl,hc⟩:=h3 0 (by omega)
  have hm : ¬ l.getD 0 0 = 97:=fun h=>hf ⟨hl,h⟩
  clear h3 hf
  simp only [Nat.add_zero] at hc
  rw [hl] at h1 ⊢
  generalize l.getD 0 0 = x at *
  have hu : ((x.toNat : Int) != 97) = true:=by
   rw [bne_iff_ne]
   intro h
   exact hm (UInt8.toNat_inj.1 (show x.toNat = 97 by omega))
  replace hc:=((Ext.refl w).alloc (.cells #[I 0,I 0,I 0,I 0] 60)).cell hc
  clear hm hl
  go_enter Try.func14,Try.ntmps14
  go_wp2
  refine bodyPost_ret (by simp [results,Try.results14,go_sem]; rfl) rfl ?_
  exact ⟨rfl,(Ext.refl w).alloc _⟩
 ·have hne : (((l.length : Int)) != 8) = true:=by rw [bne_iff_ne]; omega
  clear h3 hf hl
  go_enter Try.func14,Try.ntmps14
  go_wp2
  refine bodyPost_ret (by simp [results,Try.results14,go_sem]; rfl) rfl ?_
  exact ⟨rfl,(Ext.refl w).alloc _⟩

set_option maxHeartbeats 1000000 in
theorem refReadAnswer_read (v : Value) (b1 b2 b3 b4 b5 b6 b7 : UInt8) (w : World) (hv : Bytes w v [97,b1,b2,b3,b4,b5,b6,b7]) :
  Calls Try.prog 14 #[v] w fun e w'=>e = .returned (.tuple #[AN (readAn [97,b1,b2,b3,b4,b5,b6,b7]).1,I (readAn [97,b1,b2,b3,b4,b5,b6,b7]).2]) ∧ Ext w w':=by
 have hneg : wrongAn ⟨b1.toNat,b2.toNat,⟨b3.toNat,numB [b4,b5,b6,b7]⟩⟩ = 0 → readAn [97,b1,b2,b3,b4,b5,b6,b7] = (⟨b1.toNat,b2.toNat,⟨b3.toNat,numB [b4,b5,b6,b7]⟩⟩,0):=fun h=>if_neg (show ¬ (wrongAn ⟨b1.toNat,b2.toNat,⟨b3.toNat,numB [b4,b5,b6,b7]⟩⟩ ≠ 0) from fun k=>k h)
 have hpos : ¬ wrongAn ⟨b1.toNat,b2.toNat,⟨b3.toNat,numB [b4,b5,b6,b7]⟩⟩ = 0 → readAn [97,b1,b2,b3,b4,b5,b6,b7] = (zeroAn,wrongAn ⟨b1.toNat,b2.toNat,⟨b3.toNat,numB [b4,b5,b6,b7]⟩⟩):=fun h=>if_pos (show wrongAn ⟨b1.toNat,b2.toNat,⟨b3.toNat,numB [b4,b5,b6,b7]⟩⟩ ≠ 0 from h)
 generalize readAn [97,b1,b2,b3,b4,b5,b6,b7] = RR at *
 obtain ⟨R,E⟩:=RR
 obtain ⟨b,off,cap,rfl,hc1,hc2,⟨c0,c1,c2,c3⟩,h6⟩:=bytes8 hv
 have hN:=fun wx (h : Ext w wx)=>num_any _ b4 b5 b6 b7 wx (h6.ext h)
 unfold maxLen at hc2
 clear hv h6
 generalize numB [b4,b5,b6,b7] = n at *
 have HN:=Lib.hid hneg
 have HP:=Lib.hid hpos
 clear hneg hpos
 have hk6 : ¬ cap = 4:=by omega
 have hbw:=wrap_byte
 have e0 : Ext w (w.alloc (.cells #[I 0,I 0,I 0,I 0] 60)):=(Ext.refl w).alloc _
 have HB:=Lib.hid (fun wx (h : Ext (w.alloc (.cells #[I 0,I 0,I 0,I 0] 60)) wx)=>block_ext h)
 replace c0:=e0.cell c0
 replace c1:=e0.cell c1
 replace c2:=e0.cell c2
 replace c3:=e0.cell c3
 go_enter Try.func14,Try.ntmps14
 go_wp2_with fail
 generalize hw0 : w.alloc (.cells #[I 0,I 0,I 0,I 0] 60) = w0 at *
 have HW0:=Lib.hid hw0
 clear hw0 c0
 refine wp_region_mono_tail 18 [none,none,none,none,none,none,none,none,none,none,none,none,none,none,some (.inl (I n)),none,none,some (.inr (BoxC w0.heap.size 60 #[I 0,I 0,I 0,I 0]))] (by kernel_rfl) (by kernel_rfl) ?_ ?_
 ·exact ⟨trivial,trivial,trivial,trivial,trivial,trivial,trivial,trivial,trivial,trivial,trivial,trivial,trivial,trivial,trivial,trivial,trivial,monoBoxC _ _ _,trivial⟩
 iterate 2 (refine wpM_p (fun K hK=>?_); go_simp; refine hK _ ?_; clear hK K)
 refine wpM_q (U b1) rfl (fun w' hw'=>by have q0:=hw'.cell c1; go_simp) ?_
 iterate 3 (refine wpM_p (fun K hK=>?_); go_simp; refine hK _ ?_; clear hK K)
 refine wpM_q (U b2) rfl (fun w' hw'=>by have q0:=hw'.cell c2; go_simp) ?_
 iterate 3 (refine wpM_p (fun K hK=>?_); go_simp; refine hK _ ?_; clear hK K)
 refine wpM_q (U b3) rfl (fun w' hw'=>by have q0:=hw'.cell c3; go_simp) ?_
 iterate 3 (refine wpM_p (fun K hK=>?_); go_simp; refine hK _ ?_; clear hK K)
 refine wpM_x _ rfl (fun w' hw' _=>?_) ?_
 ·have hg:=gives_exts (hN w' (e0.trans hw'))
  unfold makes
  go_simp
  exact ⟨Ext.refl _,hg⟩
 iterate 2 (refine wpM_p (fun K hK=>?_); go_simp; refine hK _ ?_; clear hK K)
 refine wpM_l _ rfl (fun w' hw' hk=>?_) (fun v4=>?_)
 ·clear hk
  unfold makes
  go_simp
  exact ⟨(Ext.refl _).alloc _,boxC_new hw'.size⟩
 refine wpM_nil ?_
 intro w1 e1 hX
 obtain ⟨d,rfl,hd0,hd1⟩ : BoxC w0.heap.size 60 #[I 0,I 0,I 0,I 0] v4 w1:=hX 4
 clear hX hN
 obtain ⟨x0,x1,x2,x3,f0,f1,f2,f3⟩:=box4 hd1
 have e2:=ext_set4 e1 hd0 (I b1.toNat) (I b2.toNat) (I b3.toNat) (I n)
 have hd2:=set4 hd1 (I b1.toNat) (I b2.toNat) (I b3.toNat) (I n)
 go_wp2_with fail
 clear x0 x1 x2 x3 f0 f1 f2 f3 c1 c2 c3 hd1 e1
 generalize hw2 : (((w1.setCell ⟨d,0,none⟩ (I b1.toNat)).setCell ⟨d,1,none⟩ (I b2.toNat)).setCell ⟨d,2,none⟩ (I b3.toNat)).setCell ⟨d,3,none⟩ (I n) = w2 at *
 clear hw2 hbw
 refine Calls.exts (refWrongAnswer_any (b1.toNat : Int) b2.toNat b3.toNat n w2) (fun w5 e5=>?_)
 have rb:=HB.out w5 (e2.trans e5)
 obtain ⟨z0,z1,z2,z3,f0,f1,f2,f3⟩:=box4 rb
 have m5 : Ext w w5:=e0.trans (e2.trans e5)
 by_cases hz : wrongAn ⟨b1.toNat,b2.toNat,⟨b3.toNat,n⟩⟩ = 0
 ·rw [hz]
  obtain ⟨x0,x1,x2,x3,-⟩:=box4 (block_of hd2 e5)
  have HZ:=Lib.hid hz
  clear hz
  go_wp2
  have rb2:=set4 rb (I b1.toNat) (I b2.toNat) (I b3.toNat) (I n)
  obtain ⟨q0,q1,q2,q3,-⟩:=box4 rb2
  have m6:=ext_set4 m5 (Nat.le_refl w.heap.size) (I b1.toNat) (I b2.toNat) (I b3.toNat) (I n)
  clear x0 x1 x2 x3 z0 z1 z2 z3 f0 f1 f2 f3
  refine bodyPost_ret (by simp [results,Try.results14,go_sem,q0,q1,q2,q3]; rfl) rfl ?_
  obtain ⟨h1,h2⟩:=Prod.mk.inj (HN.out HZ.out)
  rw [h1,h2]
  exact ⟨rfl,m6⟩
 ·have hb : (wrongAn ⟨b1.toNat,b2.toNat,⟨b3.toNat,n⟩⟩ != 0) = true:=by simpa using hz
  have HZ:=Lib.hid hz
  clear hz
  go_wp2
  have rb2:=set4 rb (I 0) (I 0) (I 0) (I 0)
  obtain ⟨q0,q1,q2,q3,-⟩:=box4 rb2
  have m6:=ext_set4 m5 (Nat.le_refl w.heap.size) (I 0) (I 0) (I 0) (I 0)
  clear z0 z1 z2 z3 f0 f1 f2 f3
  refine bodyPost_ret (by simp [results,Try.results14,go_sem,q0,q1,q2,q3]; rfl) rfl ?_
  obtain ⟨h1,h2⟩:=Prod.mk.inj (HP.out HZ.out)
  rw [h1,h2]
  exact ⟨rfl,m6⟩

theorem refReadAnswer_any (v : Value) (l : List UInt8) (w : World) (hv : Bytes w v l) :
  Calls Try.prog 14 #[v] w fun e w'=>e = .returned (.tuple #[AN (readAn l).1,I (readAn l).2]) ∧ Ext w w':=by
 by_cases hf : l.length = 8 ∧ l.getD 0 0 = 97
 ·obtain ⟨b1,b2,b3,b4,b5,b6,b7,rfl⟩:=eight_of hf
  exact refReadAnswer_read v b1 b2 b3 b4 b5 b6 b7 w hv
 ·exact refReadAnswer_form v l w hv hf

end Go.Proofs.Ytdmipnnfoolelae

namespace Go.Proofs.Ytdmipnnfoolelae
open Go.RowKit Go.Mk

/-- Answers, place by place. -/
theorem ans_form {w : World} {v : Value} {l : List An} (h : RowOf 4 elAn w v l) : ∃ ao cap,v = .slice ao l.length cap ∧ l.length ≤ cap ∧ cap ≤ maxLen ∧
  ∀ k x,l[k]? = some x → ∃ b off,ao = some ⟨b,off,none⟩ ∧ w.cell? ⟨b,off + k * 4,none⟩ = some (I x.client) ∧ w.cell? ⟨b,off + k * 4 + 1,none⟩ = some (I x.token) ∧ w.cell? ⟨b,off + k * 4 + 2,none⟩ = some (I x.reply.err) ∧ w.cell? ⟨b,off + k * 4 + 3,none⟩ = some (I x.reply.n):=by
 obtain ⟨ao,cap,h1,h2,h3,-,h5⟩:=h.form (by decide)
 refine ⟨ao,cap,h1,h2,h3,fun k x hx=>?_⟩
 obtain ⟨b,off,c,e,-,hc,hcell⟩:=h5 k x hx
 have hc : c = [I x.client,I x.token,I x.reply.err,I x.reply.n]:=hc
 subst hc
 exact ⟨b,off,e,hcell 0 _ rfl,by rw [Nat.add_assoc]; exact hcell 1 _ rfl,by rw [Nat.add_assoc]; exact hcell 2 _ rfl,by rw [Nat.add_assoc]; exact hcell 3 _ rfl⟩

theorem last_hit {l : List An} {k : Nat} {x : An} {n : Int} (h : l[k]? = some x) (hn : x.client = n) : lastAn (l.drop k) n = (x,true):=by
 have hk : k < l.length:=(List.getElem?_eq_some_iff.1 h).1
 rw [List.drop_eq_getElem_cons hk,(List.getElem?_eq_some_iff.1 h).2]
 exact if_pos hn
theorem last_miss {l : List An} {k : Nat} {x : An} {n : Int} (h : l[k]? = some x) (hn : ¬ x.client = n) : lastAn (l.drop k) n = lastAn (l.drop (k + 1)) n:=by
 have hk : k < l.length:=(List.getElem?_eq_some_iff.1 h).1
 rw [List.drop_eq_getElem_cons hk,(List.getElem?_eq_some_iff.1 h).2]
 exact if_neg hn
theorem last_end {l : List An} {k : Nat} {n : Int} (h : l.length ≤ k) : lastAn (l.drop k) n = (zeroAn,false):=by
 rw [List.drop_of_length_le h]
 rfl

set_option maxHeartbeats 1000000 in
theorem refLast_any (c u a p : Value) (s : St) (n : Int) (w : World) (h : elSt w [c,u,a,p] s) :
  Calls Try.prog 45 #[.agg #[c,u,a,p],I n] w fun e w'=>e = .returned (.tuple #[AN (lastAn s.answers n).1,.bool (lastAn s.answers n).2]) ∧ Ext w w':=by
 obtain ⟨h1,h2,h3,h4⟩:=st_iff.1 h
 clear h h1 h2 h4
 obtain ⟨aa,ac,rfl,g1,g2,g3⟩:=ans_form h3
 unfold maxLen at g2
 clear h3
 generalize hl : s.answers = l at *
 clear hl
 obtain ⟨RA,RB,hRR⟩ : ∃ RA RB,lastAn l n = (RA,RB):=⟨_,_,rfl⟩
 have HR:=Lib.hid hRR
 rw [hRR]
 clear hRR
 have HG:=Lib.hid g3
 clear g3
 go_enter Try.func45,Try.ntmps45
 go_wp2
 go_loop [10] (fun i=>∃ k : Nat,k ≤ l.length ∧ i = I k ∧ lastAn (l.drop k) n = (RA,RB)) (fun i=>l.length - (intOf i).toNat)
 case atStart=>exact ⟨0,by omega,rfl,HR.out⟩
 case round =>
  obtain ⟨k,hk,rfl,hf⟩:=hrel
  have HF:=Lib.hid hf
  clear hf
  have e0 : Ext w ((w.alloc (.cells #[c,u,.slice aa l.length ac,p] 31)).alloc (.cells #[I 0,I 0,I 0,I 0] 60)):=((Ext.refl w).alloc _).alloc _
  by_cases hlt : k < l.length
  ·obtain ⟨x,hx⟩ : ∃ x,l[k]? = some x:=⟨l[k],List.getElem?_eq_getElem hlt⟩
   obtain ⟨b,off,rfl,c0,c1,c2,c3⟩:=HG.out k x hx
   have HX:=Lib.hid hx
   clear hx
   replace c0:=e0.cell c0
   replace c1:=e0.cell c1
   replace c2:=e0.cell c2
   replace c3:=e0.cell c3
   obtain ⟨xc,xt,⟨xe,xn⟩⟩:=x
   by_cases hc : xc = n
   ·have hb : (xc == n) = true:=by simpa using hc
    have HC:=Lib.hid hc
    clear hc
    go_wp2
    refine bodyPost_ret (by simp [results,Try.results45,go_sem]; rfl) rfl ?_
    have:=last_hit HX.out HC.out
    rw [HF.out] at this
    obtain ⟨rfl,rfl⟩:=Prod.mk.inj this
    exact ⟨rfl,((Ext.refl w).alloc _).alloc _⟩
   ·have hb : (xc == n) = false:=by simpa using hc
    have HC:=Lib.hid hc
    clear hc
    go_wp2
    go_round
    case rel=>exact ⟨k + 1,by omega,by go_num,by rw [← last_miss HX.out HC.out]; exact HF.out⟩
    case measure=>simp [intOf]; omega
  ·go_wp2
   refine bodyPost_ret (by simp [results,Try.results45,go_sem]; rfl) rfl ?_
   have:=HF.out
   rw [last_end (by omega)] at this
   obtain ⟨rfl,rfl⟩:=Prod.mk.inj this
   exact ⟨rfl,e0⟩

end Go.Proofs.Ytdmipnnfoolelae

namespace Go.Proofs.Ytdmipnnfoolelae
open Go.RowKit Go.Mk

/-! Answers, as they are put. -/

theorem put_none {l : List An} {a : An} (h : ∀ x ∈ l,x.client ≠ a.client) : putAn l a = l ++ [a]:=by
 induction l with
 | nil=>rfl
 | cons x l ih =>
  unfold putAn
  rw [if_neg (h x (by simp)),ih (fun y hy=>h y (by simp [hy]))]
  rfl
theorem put_hit {l : List An} {x a : An} (h : ∀ x ∈ l,x.client ≠ a.client) (hx : x.client = a.client) : putAn (l ++ [x]) a = l ++ [a]:=by
 induction l with
 | nil=>exact if_pos hx
 | cons y l ih =>
  have hy : ¬ y.client = a.client:=h y (by simp)
  show (if y.client = a.client then a :: (l ++ [x]) else y :: putAn (l ++ [x]) a) = _
  rw [if_neg hy,ih (fun y hy=>h y (by simp [hy]))]
  rfl
theorem put_after {l : List An} {x a : An} (h : ∃ y ∈ l,y.client = a.client) : putAn (l ++ [x]) a = putAn l a ++ [x]:=by
 induction l with
 | nil=>obtain ⟨y,hy,_⟩:=h; cases hy
 | cons y l ih =>
  show (if y.client = a.client then a :: (l ++ [x]) else y :: putAn (l ++ [x]) a) = (if y.client = a.client then a :: l else y :: putAn l a) ++ [x]
  by_cases hy : y.client = a.client
  ·rw [if_pos hy,if_pos hy]; rfl
  ·rw [if_neg hy,if_neg hy,ih]
   ·rfl
   ·obtain ⟨z,hz,e⟩:=h
    rcases List.mem_cons.1 hz with rfl | hz
    ·exact absurd e hy
    ·exact ⟨z,hz,e⟩
theorem put_len {l : List An} {a : An} (h : ∃ y ∈ l,y.client = a.client) : (putAn l a).length = l.length:=by
 induction l with
 | nil=>obtain ⟨y,hy,_⟩:=h; cases hy
 | cons y l ih =>
  show (if y.client = a.client then a :: l else y :: putAn l a).length = _
  by_cases hy : y.client = a.client
  ·rw [if_pos hy]; rfl
  ·rw [if_neg hy,List.length_cons,ih]
   ·rfl
   ·obtain ⟨z,hz,e⟩:=h
    rcases List.mem_cons.1 hz with rfl | hz
    ·exact absurd e hy
    ·exact ⟨z,hz,e⟩

def cellsA (l : List An) : List Value:=l.flatMap fun x=>[I x.client,I x.token,I x.reply.err,I x.reply.n]
theorem length_cellsA (l : List An) : (cellsA l).length = l.length * 4:=by
 unfold cellsA
 induction l with
 | nil=>rfl
 | cons p l ih=>simp [List.flatMap_cons,ih]; omega
theorem cellsA_append (l m : List An) : cellsA (l ++ m) = cellsA l ++ cellsA m:=by simp [cellsA]
theorem cellsA_one (l : List An) : ∀ u ∈ cellsA l,u.oneCell' = true:=by
 intro u hu
 unfold cellsA at hu
 rw [List.mem_flatMap] at hu
 obtain ⟨p,_,hp⟩:=hu
 simp at hp
 rcases hp with rfl | rfl | rfl | rfl <;> rfl
theorem rd_anss {base e n : Nat} {v : Value} {l : List An} {w : World} (h : w.ownsRow base e 4 v n (cellsA l)) : Rd (fun k=>base ≤ k) (fun w=>RowOf 4 elAn w v l) w:=by
 have hl : l.length = n:=by have:=h.1; rw [length_cellsA] at this; omega
 subst hl
 exact (rd_owns h).imp fun w h=>(rowOf_flat (f:=fun (x : An)=>[I x.client,I x.token,I x.reply.err,I x.reply.n]) (fun _=>rfl)).2 h

theorem Try.infoAnswer : (Try.prog.info? 60).map (fun i=>(i.zero,i.size,i.bytes)) = some (some (.agg #[.int .i64 0,.int .i64 0,.int .i64 0,.int .i64 0]),4,32):=by kernel_rfl
theorem Try.infoRequest : (Try.prog.info? 36).map (fun i=>(i.zero,i.size,i.bytes)) = some (some (.agg #[.int .i64 0,.int .i64 0,.int .i64 0,.int .i64 0,.int .i64 0,.int .i64 0]),6,48):=by kernel_rfl

/-- How far the answers have been put. -/
def PutTo (l : List An) (a : An) (k : Nat) (d : Bool) (m : List An) : Prop :=
 (d = false ∧ (∀ x ∈ l.take k,x.client ≠ a.client) ∧ m = l.take k) ∨ (d = true ∧ (∃ x ∈ l.take k,x.client = a.client) ∧ m = putAn (l.take k) a)
theorem PutTo.len {l : List An} {a : An} {k : Nat} {d : Bool} {m : List An} (h : PutTo l a k d m) (hk : k ≤ l.length) : m.length = k:=by
 rcases h with ⟨_,_,rfl⟩ | ⟨_,h,rfl⟩
 ·rw [List.length_take]; omega
 ·rw [put_len h,List.length_take]; omega
theorem PutTo.hit {l : List An} {a x : An} {k : Nat} {m : List An} (h : PutTo l a k false m) (hx : l[k]? = some x) (hc : x.client = a.client) : PutTo l a (k + 1) true (m ++ [a]):=by
 rcases h with ⟨_,h,rfl⟩ | ⟨h,_⟩
 ·right
  rw [List.take_add_one,hx]
  exact ⟨rfl,⟨x,by simp,hc⟩,(put_hit h hc).symm⟩
 ·cases h
theorem PutTo.miss {l : List An} {a x : An} {k : Nat} {m : List An} (h : PutTo l a k false m) (hx : l[k]? = some x) (hc : ¬ x.client = a.client) : PutTo l a (k + 1) false (m ++ [x]):=by
 rcases h with ⟨_,h,rfl⟩ | ⟨h,_⟩
 ·left
  rw [List.take_add_one,hx]
  refine ⟨rfl,fun y hy=>?_,rfl⟩
  simp at hy
  rcases hy with hy | rfl
  ·exact h y hy
  ·exact hc
 ·cases h
theorem PutTo.after {l : List An} {a x : An} {k : Nat} {m : List An} (h : PutTo l a k true m) (hx : l[k]? = some x) : PutTo l a (k + 1) true (m ++ [x]):=by
 rcases h with ⟨h,_⟩ | ⟨_,h,rfl⟩
 ·cases h
 ·right
  rw [List.take_add_one,hx]
  obtain ⟨y,hy,e⟩:=h
  exact ⟨rfl,⟨y,by simp [hy],e⟩,(put_after ⟨y,hy,e⟩).symm⟩
theorem PutTo.done {l : List An} {a : An} {m : List An} (h : PutTo l a l.length true m) : m = putAn l a:=by
 rcases h with ⟨h,_⟩ | ⟨_,h,rfl⟩
 ·cases h
 ·rw [List.take_length]
theorem PutTo.last {l : List An} {a : An} {m : List An} (h : PutTo l a l.length false m) : m ++ [a] = putAn l a:=by
 rcases h with ⟨_,h,rfl⟩ | ⟨h,_⟩
 ·rw [List.take_length] at *
  exact (put_none h).symm
 ·cases h

theorem five_blocks {w wx : World} {o1 o2 o3 o4 o5 : Obj} (h : Ext (((((w.alloc o1).alloc o2).alloc o3).alloc o4).alloc o5) wx) : wx.heap[w.heap.size]? = some o1 ∧ wx.heap[w.heap.size + 1]? = some o2 ∧ wx.heap[w.heap.size + 1 + 1]? = some o3 ∧ wx.heap[w.heap.size + 1 + 1 + 1]? = some o4 ∧ wx.heap[w.heap.size + 1 + 1 + 1 + 1]? = some o5:=by
 have h3 : Ext (((w.alloc o1).alloc o2).alloc o3) wx:=(((Ext.refl _).alloc o4).alloc o5).trans h
 obtain ⟨a1,a2,a3⟩:=third_block h3
 have a4:=first_block h
 have a5:=second_block h
 exact ⟨a1,a2,a3,by simpa using a4,by simpa using a5⟩

theorem anss_lit0 {w : World} (e : TypeId) (y : An) : Row (w.alloc (.cells #[I y.client,I y.token,I y.reply.err,I y.reply.n] e)) 4 (.slice (some ⟨w.heap.size,0,none⟩) 1 1) 1 (cellsA [y]):=by
 have:=World.ownsRow_lit (base:=0) (e:=e) (size:=4) w #[I y.client,I y.token,I y.reply.err,I y.reply.n] 1 (Nat.zero_le _) (by decide) rfl
 exact Row.of_owns this
theorem anss_lit1 {w : World} (o : Obj) (e : TypeId) (y : An) : Row ((w.alloc o).alloc (.cells #[I y.client,I y.token,I y.reply.err,I y.reply.n] e)) 4 (.slice (some ⟨w.heap.size + 1,0,none⟩) 1 1) 1 (cellsA [y]):=by
 have:=anss_lit0 (w:=w.alloc o) e y
 have e2 : (w.alloc o).heap.size = w.heap.size + 1:=by simp
 rw [e2] at this
 exact this

theorem cells6_one (l : List Rq) : ∀ u ∈ cells6 l,u.oneCell' = true:=by
 intro u hu
 unfold cells6 at hu
 rw [List.mem_flatMap] at hu
 obtain ⟨p,_,hp⟩:=hu
 simp at hp
 rcases hp with rfl | rfl | rfl | rfl | rfl | rfl <;> rfl
theorem cells6_append (l m : List Rq) : cells6 (l ++ m) = cells6 l ++ cells6 m:=by simp [cells6]
theorem rd_rqs {base e n : Nat} {v : Value} {l : List Rq} {w : World} (h : w.ownsRow base e 6 v n (cells6 l)) : Rd (fun k=>base ≤ k) (fun w=>RowOf 6 elRq w v l) w:=by
 have hl : l.length = n:=by have:=h.1; rw [length_cells6] at this; omega
 subst hl
 exact (rd_owns h).imp fun w h=>rowOf_reqs.2 h

set_option maxRecDepth 100000 in
set_option maxHeartbeats 4000000 in
theorem refCommit_keeps (c u a p : Value) (s : St) (rc rt rk ra ro rn x n : Int) (w : World) (A : Nat → Prop) (h : Rd A (fun w=>elSt w [c,u,a,p] s) w) (hl : s.answers.length ≤ 1000) (hpl : s.past.length ≤ 1000000) :
  Keeps Try.prog 43 #[.agg #[c,u,a,p],RQ ⟨rc,rt,⟨rk,ra,ro,rn⟩⟩,.agg #[I x,I n]] w A (fun r w'=>Agg elSt (commitSt s ⟨rc,rt,⟨rk,ra,ro,rn⟩⟩ ⟨x,n⟩) r w'):=by
 unfold Keeps
 obtain ⟨_,_,_,_,e,h1,h2,h3,h4⟩:=rd_st h
 simp at e
 obtain ⟨rfl,rfl,rfl,rfl⟩:=e
 clear h h2
 obtain ⟨ca,cc,rfl⟩:=row_slice h1.out
 obtain ⟨pa,pc,rfl⟩:=rowOf_slice h4.out
 obtain ⟨aa,ac,rfl,g1,g2,g3⟩:=ans_form h3.out
 unfold maxLen at g2
 have HG:=Lib.hid g3
 have H1:=Lib.hid h1
 have H4:=Lib.hid h4
 clear g3 h1 h3 h4
 have e0 : Ext w (((((w.alloc (.cells #[.slice ca s.cells.length cc,u,.slice aa s.answers.length ac,.slice pa s.past.length pc] 31)).alloc (.cells #[I rc,I rt,I rk,I ra,I ro,I rn] 36)).alloc (.cells #[I x,I n] 39)).alloc (.cells #[.slice none 0 0,.slice none 0 0,.slice none 0 0,.slice none 0 0] 31)).alloc (.cells #[I rc,I rt,I x,I n] 60)):=(((((Ext.refl w).alloc _).alloc _).alloc _).alloc _).alloc _
 have HB:=Lib.hid (fun wx (h : Ext (((((w.alloc (.cells #[.slice ca s.cells.length cc,u,.slice aa s.answers.length ac,.slice pa s.past.length pc] 31)).alloc (.cells #[I rc,I rt,I rk,I ra,I ro,I rn] 36)).alloc (.cells #[I x,I n] 39)).alloc (.cells #[.slice none 0 0,.slice none 0 0,.slice none 0 0,.slice none 0 0] 31)).alloc (.cells #[I rc,I rt,I x,I n] 60)) wx)=>five_blocks h)
 have hsz : (((((w.alloc (.cells #[.slice ca s.cells.length cc,u,.slice aa s.answers.length ac,.slice pa s.past.length pc] 31)).alloc (.cells #[I rc,I rt,I rk,I ra,I ro,I rn] 36)).alloc (.cells #[I x,I n] 39)).alloc (.cells #[.slice none 0 0,.slice none 0 0,.slice none 0 0,.slice none 0 0] 31)).alloc (.cells #[I rc,I rt,I x,I n] 60)).heap.size = w.heap.size + 5:=by simp
 have HSZ:=Lib.hid hsz
 clear hsz
 obtain ⟨i0,hi,hz0,hz1,hz2⟩:=info_parts Try.infoAnswer
 have HI:=Lib.hid hi
 clear hi
 go_enter Try.func43,Try.ntmps43
 go_wp2
 generalize hw1 : ((((w.alloc (.cells #[.slice ca s.cells.length cc,u,.slice aa s.answers.length ac,.slice pa s.past.length pc] 31)).alloc (.cells #[I rc,I rt,I rk,I ra,I ro,I rn] 36)).alloc (.cells #[I x,I n] 39)).alloc (.cells #[.slice none 0 0,.slice none 0 0,.slice none 0 0,.slice none 0 0] 31)).alloc (.cells #[I rc,I rt,I x,I n] 60) = w1 at *
 clear hw1
 go_loopw [8,9,21] (fun o d i wr=>∃ (k : Nat) (m : List An) (db : Bool),k ≤ s.answers.length ∧ i = I k ∧ d = .bool db ∧ PutTo s.answers ⟨rc,rt,⟨x,n⟩⟩ k db m ∧ wr.ownsRow w1.heap.size 60 4 o k (cellsA m) ∧ Ext w1 wr) (fun _ _ i _=>s.answers.length - (intOf i).toNat)
 case atStart=>exact ⟨0,[],false,by omega,rfl,rfl,.inl ⟨rfl,fun x hx=>by simp at hx,by simp⟩,World.ownsRow_nil _ _ _ _,Ext.refl _⟩
 case round =>
  obtain ⟨k,m,db,hk,rfl,rfl,hput,hown,he⟩:=hrel
  by_cases hlt : k < s.answers.length
  ·obtain ⟨y,hy⟩ : ∃ y,s.answers[k]? = some y:=⟨s.answers[k],List.getElem?_eq_getElem hlt⟩
   obtain ⟨b,off,rfl,c0,c1,c2,c3⟩:=HG.out k y hy
   have HY:=Lib.hid hy
   clear hy
   have mr : Ext w wr:=e0.trans he
   replace c0:=mr.cell c0
   replace c1:=mr.cell c1
   replace c2:=mr.cell c2
   replace c3:=mr.cell c3
   obtain ⟨yc,yt,⟨ye,yn⟩⟩:=y
   obtain ⟨-,b1,-,-,b4⟩:=HB.out wr he
   obtain ⟨⟨q0,q1,q2,q3,q4,q5⟩,-⟩:=box6 b1
   obtain ⟨z0,z1,z2,z3,-⟩:=box4 b4
   replace q0:=fun o=>((Ext.refl wr).alloc o).cell q0
   replace z0:=fun o=>((Ext.refl wr).alloc o).cell z0
   replace z1:=fun o=>((Ext.refl wr).alloc o).cell z1
   replace z2:=fun o=>((Ext.refl wr).alloc o).cell z2
   replace z3:=fun o=>((Ext.refl wr).alloc o).cell z3
   have HO:=Lib.hid hown
   have HPT:=Lib.hid hput
   clear hown hput b1 b4 q1 q2 q3 q4 q5
   cases db
   ·by_cases hc : yc = rc
    ·have hb : (yc == rc) = true:=by simpa using hc
     have HC:=Lib.hid hc
     clear hc
     go_wp2_with (at_builtin; refine stop_at ?_)
     unfold Hid
     have hlit:=anss_lit1 (w:=wr) (.cells #[I rc,I rt,I x,I n] 60) 60 ⟨rc,rt,⟨x,n⟩⟩
     have hle:=he.size
     refine wpList_append_row _ rfl (.tmp 35) (.tmp 37) 28 rfl w1.heap.size 60 i0 (.agg #[.int .i64 0,.int .i64 0,.int .i64 0,.int .i64 0]) 4 32 Try.underlying28 HI.out hz0 hz1 hz2 rfl (by decide) u8 k (cellsA m) rfl ((HO.out.alloc _).alloc _) _ rfl 1 _ hlit (cellsA_one _) (by omega) (by decide) (by simp; omega) ?_
     intro v' w' ho hg
     have he2 : Ext w1 w':=((he.alloc _).alloc _).grown hg (fun j hj=>(HO.out.lt j hj).1)
     clear hg hlit c0 c1 c2 c3 q0 z0 z1 z2 z3
     go_wp2
     go_roundw
     case rel=>exact ⟨k + 1,m ++ [⟨rc,rt,⟨x,n⟩⟩],true,by omega,by go_num,rfl,HPT.out.hit HY.out HC.out,by rw [cellsA_append]; exact ho,he2⟩
     case measure=>simp [intOf]; omega
    ·have hb : (yc == rc) = false:=by simpa using hc
     have HC:=Lib.hid hc
     clear hc
     go_wp2_with (at_builtin; refine stop_at ?_)
     unfold Hid
     have hlit:=anss_lit1 (w:=wr) (.cells #[I yc,I yt,I ye,I yn] 60) 60 ⟨yc,yt,⟨ye,yn⟩⟩
     have hle:=he.size
     refine wpList_append_row _ rfl (.tmp 35) (.tmp 37) 28 rfl w1.heap.size 60 i0 (.agg #[.int .i64 0,.int .i64 0,.int .i64 0,.int .i64 0]) 4 32 Try.underlying28 HI.out hz0 hz1 hz2 rfl (by decide) u8 k (cellsA m) rfl ((HO.out.alloc _).alloc _) _ rfl 1 _ hlit (cellsA_one _) (by omega) (by decide) (by simp; omega) ?_
     intro v' w' ho hg
     have he2 : Ext w1 w':=((he.alloc _).alloc _).grown hg (fun j hj=>(HO.out.lt j hj).1)
     clear hg hlit c0 c1 c2 c3 q0 z0 z1 z2 z3
     go_wp2
     go_roundw
     case rel=>exact ⟨k + 1,m ++ [⟨yc,yt,⟨ye,yn⟩⟩],false,by omega,by go_num,rfl,HPT.out.miss HY.out HC.out,by rw [cellsA_append]; exact ho,he2⟩
     case measure=>simp [intOf]; omega
   ·by_cases hc : yc = rc
    ·have hb : (yc == rc) = true:=by simpa using hc
     clear hc
     go_wp2_with (at_builtin; refine stop_at ?_)
     unfold Hid
     have hlit:=anss_lit1 (w:=wr) (.cells #[I yc,I yt,I ye,I yn] 60) 60 ⟨yc,yt,⟨ye,yn⟩⟩
     have hle:=he.size
     refine wpList_append_row _ rfl (.tmp 35) (.tmp 37) 28 rfl w1.heap.size 60 i0 (.agg #[.int .i64 0,.int .i64 0,.int .i64 0,.int .i64 0]) 4 32 Try.underlying28 HI.out hz0 hz1 hz2 rfl (by decide) u8 k (cellsA m) rfl ((HO.out.alloc _).alloc _) _ rfl 1 _ hlit (cellsA_one _) (by omega) (by decide) (by simp; omega) ?_
     intro v' w' ho hg
     have he2 : Ext w1 w':=((he.alloc _).alloc _).grown hg (fun j hj=>(HO.out.lt j hj).1)
     clear hg hlit c0 c1 c2 c3 q0 z0 z1 z2 z3
     go_wp2
     go_roundw
     case rel=>exact ⟨k + 1,m ++ [⟨yc,yt,⟨ye,yn⟩⟩],true,by omega,by go_num,rfl,HPT.out.after HY.out,by rw [cellsA_append]; exact ho,he2⟩
     case measure=>simp [intOf]; omega
    ·have hb : (yc == rc) = false:=by simpa using hc
     clear hc
     go_wp2_with (at_builtin; refine stop_at ?_)
     unfold Hid
     have hlit:=anss_lit1 (w:=wr) (.cells #[I yc,I yt,I ye,I yn] 60) 60 ⟨yc,yt,⟨ye,yn⟩⟩
     have hle:=he.size
     refine wpList_append_row _ rfl (.tmp 35) (.tmp 37) 28 rfl w1.heap.size 60 i0 (.agg #[.int .i64 0,.int .i64 0,.int .i64 0,.int .i64 0]) 4 32 Try.underlying28 HI.out hz0 hz1 hz2 rfl (by decide) u8 k (cellsA m) rfl ((HO.out.alloc _).alloc _) _ rfl 1 _ hlit (cellsA_one _) (by omega) (by decide) (by simp; omega) ?_
     intro v' w' ho hg
     have he2 : Ext w1 w':=((he.alloc _).alloc _).grown hg (fun j hj=>(HO.out.lt j hj).1)
     clear hg hlit c0 c1 c2 c3 q0 z0 z1 z2 z3
     go_wp2
     go_roundw
     case rel=>exact ⟨k + 1,m ++ [⟨yc,yt,⟨ye,yn⟩⟩],true,by omega,by go_num,rfl,HPT.out.after HY.out,by rw [cellsA_append]; exact ho,he2⟩
     case measure=>simp [intOf]; omega
  ·have hkl : k = s.answers.length:=by omega
   subst hkl
   clear hlt hk
   have HO:=Lib.hid hown
   have HPT:=Lib.hid hput
   clear hown hput
   cases db
   ·obtain ⟨b0,b1,-,b3,b4⟩:=HB.out wr he
    obtain ⟨z0,z1,z2,z3,-⟩:=box4 b4
    go_wp2_with (at_builtin; refine stop_at ?_)
    unfold Hid
    have hlit:=anss_lit0 (w:=wr) 60 ⟨rc,rt,⟨x,n⟩⟩
    have hle:=he.size
    refine wpList_append_row _ rfl (.tmp 42) (.tmp 44) 28 rfl w1.heap.size 60 i0 (.agg #[.int .i64 0,.int .i64 0,.int .i64 0,.int .i64 0]) 4 32 Try.underlying28 HI.out hz0 hz1 hz2 rfl (by decide) u8 s.answers.length (cellsA m) rfl (HO.out.alloc _) _ rfl 1 _ hlit (cellsA_one _) (by omega) (by decide) (by simp; omega) ?_
    intro v' wz ho hg
    have he2 : Ext w1 wz:=(he.alloc _).grown hg (fun j hj=>(HO.out.lt j hj).1)
    rw [← cellsA_append,HPT.out.last] at ho
    clear hg hlit z0 z1 z2 z3 b0 b1 b3 b4
    obtain ⟨b0,b1,-,b3,-⟩:=HB.out wz he2
    obtain ⟨x0,x1,x2,x3,-⟩:=box4 b0
    obtain ⟨⟨r0,r1,r2,r3,r4,r5⟩,-⟩:=box6 b1
    clear b0 b1
    obtain ⟨va,vc,hvs⟩:=rowOf_slice (rd_anss ho).out
    subst hvs
    have HO2:=Lib.hid ho
    clear ho
    obtain ⟨i1,hi1,hy0,hy1,hy2⟩:=info_parts Try.infoRequest
    have HI1:=Lib.hid hi1
    clear hi1
    have mz : Ext w wz:=e0.trans he2
    have HP4:=Lib.hid (rowOf_reqs.1 (H4.out.out.ext monoRq mz))
    go_wp2_with fail
    refine wp_region_mono_weak 9 [none,none,none,some (.inr (FullOf wz.heap.size 36 6 0 [])),none,none,some (.inr fun v wx=>wx.ownsRow wz.heap.size 36 6 v (0 + s.past.length) ([] ++ cells6 s.past)),none,some (.inr fun v wx=>Row wx 6 v 1 (cells6 [⟨rc,rt,⟨rk,ra,ro,rn⟩⟩]))] (fun v wx=>wx.ownsRow wz.heap.size 36 6 v (0 + s.past.length + 1) ([] ++ cells6 s.past ++ cells6 [⟨rc,rt,⟨rk,ra,ro,rn⟩⟩])) (by kernel_rfl) (by kernel_rfl) (by kernel_rfl) ?_ (fun v=>monoOwns _ _ _ _ _ v) ?_
    ·exact ⟨trivial,trivial,trivial,monoFull _ _ _ _ _,trivial,trivial,monoOwns _ _ _ _ _,trivial,fun _ _ _ he h=>Row.ext h he,trivial⟩
    iterate 1 (refine wpM_p (fun K hK=>?_); go_simp; first | refine hK _ ?_ | refine ⟨(fun h=>by cases h),hK _ ?_⟩; clear hK K)
    refine wpM_q (.slice ca s.cells.length cc) rfl (fun w' hw'=>by have z0:=hw'.cell x0; go_simp) ?_
    refine wpM_norm (fun K hK=>?_); go_simp; refine hK _ ?_; clear hK K
    iterate 1 (refine wpM_p (fun K hK=>?_); go_simp; first | refine hK _ ?_ | refine ⟨(fun h=>by cases h),hK _ ?_⟩; clear hK K)
    refine wpM_l _ rfl (fun w' hw' hk=>?_) (fun v49=>?_)
    ·have hsz:=hw'.size
     clear hk
     unfold makes
     go_simp
     exact ⟨(Ext.refl _).alloc _,full_lit #[] 0 hsz (by decide) rfl⟩
    refine wpM_norm (fun K hK=>?_); go_simp; refine hK _ ?_; clear hK K
    iterate 1 (refine wpM_p (fun K hK=>?_); go_simp; first | refine hK _ ?_ | refine ⟨(fun h=>by cases h),hK _ ?_⟩; clear hK K)
    refine wpM_q (.slice pa s.past.length pc) rfl (fun w' hw'=>by have z0:=hw'.cell x3; go_simp) ?_
    refine wpM_norm (fun K hK=>?_); go_simp; refine hK _ ?_; clear hK K
    refine wpM_l _ rfl (fun w' hw' hk=>?_) (fun v52=>?_)
    ·have h49 : FullOf wz.heap.size 36 6 0 [] v49 w':=hk 49 (by decide)
     obtain ⟨vv,ww,hrun,hoo,hee⟩:=run_append_full (P:=Try.prog) w' wz.heap.size 29 29 36 i1 _ 6 48 Try.underlying29 HI1.out hy0 hy1 hy2 rfl (by decide) v49 0 _ h49 (.slice pa s.past.length pc) s.past.length _ (HP4.out.ext hw') (cells6_one _) (by omega) (by decide) hw'.size
     exact makes_append rfl rfl rfl hrun hee hoo
    refine wpM_norm (fun K hK=>?_); go_simp; refine hK _ ?_; clear hK K
    refine wpM_q (RQ ⟨rc,rt,⟨rk,ra,ro,rn⟩⟩) rfl (fun w' hw'=>by have z0:=hw'.cell r0; have z1:=hw'.cell r1; have z2:=hw'.cell r2; have z3:=hw'.cell r3; have z4:=hw'.cell r4; have z5:=hw'.cell r5; go_simp) ?_
    refine wpM_norm (fun K hK=>?_); go_simp; refine hK _ ?_; clear hK K
    refine wpM_l _ rfl (fun w' hw' hk=>?_) (fun v54=>?_)
    ·have hsz:=hw'.size
     clear hk
     unfold makes
     go_simp
     exact ⟨(Ext.refl _).alloc _,Row.of_owns (World.ownsRow_lit (base:=0) (size:=6) w' _ 1 (Nat.zero_le _) (by decide) rfl)⟩
    refine wpM_norm (fun K hK=>?_); go_simp; refine hK _ ?_; clear hK K
    refine wpM_nil ⟨_,_,rfl,rfl,rfl,fun w' hw' hk=>?_,fun v55 w5 e5 ho5=>?_⟩
    ·have h52 : w'.ownsRow wz.heap.size 36 6 v52 (0 + s.past.length) ([] ++ cells6 s.past):=hk 52 (by decide)
     have h54 : Row w' 6 v54 1 (cells6 [⟨rc,rt,⟨rk,ra,ro,rn⟩⟩]):=hk 54 (by decide)
     obtain ⟨vv,ww,hrun,hoo,hgg⟩:=run_append_row (P:=Try.prog) w' wz.heap.size 29 29 36 i1 _ 6 48 Try.underlying29 HI1.out hy0 hy1 hy2 rfl (by decide) v52 _ _ h52 v54 1 _ h54 (cells6_one _) (by omega) (by decide) hw'.size
     exact ⟨vv,ww,run_append_op rfl rfl rfl hrun,hw'.grown hgg (fun j hj=>(h52.lt j hj).1),hoo⟩
    clear x0 x1 x2 x3 r0 r1 r2 r3 r4 r5
    have hro : Rd (fun k=>wz.heap.size ≤ k) (fun w=>RowOf 6 elRq w v55 (s.past ++ [⟨rc,rt,⟨rk,ra,ro,rn⟩⟩])) w5:=rd_rqs (by simpa [cells6_append] using ho5)
    obtain ⟨pa2,pc2,hps⟩:=rowOf_slice hro.out
    rw [show (s.past ++ [(⟨rc,rt,⟨rk,ra,ro,rn⟩⟩ : Rq)]).length = s.past.length + 1 by simp] at hps
    subst hps
    have HRO:=Lib.hid hro
    clear hro ho5
    have ez5:=e5
    replace e5 : Ext w1 w5:=he2.trans e5
    obtain ⟨-,-,-,b3,-⟩:=HB.out w5 e5
    obtain ⟨y0,y1,y2,y3,f0,f1,f2,f3⟩:=box4 b3
    go_wp2_with fail
    clear y0 y1 y2 y3 f0 f1 f2 f3
    have b5:=set4 b3 (.slice ca s.cells.length cc) (.slice none 0 0) (.slice va (putAn s.answers ⟨rc,rt,⟨x,n⟩⟩).length vc) (.slice pa2 (s.past.length + 1) pc2)
    obtain ⟨q0,q1,q2,q3,-⟩:=box4 b5
    obtain ⟨B,hB⟩:=away A w.heap.size 5
    have n3 : ¬ B (w.heap.size + 1 + 1 + 1):=hB.2.2.1 _ (by omega) (by omega)
    have m6:=ext_set4 (e0.trans e5) (b:=w.heap.size + 1 + 1 + 1) (by omega) (.slice ca s.cells.length cc) (.slice none 0 0) (.slice va (putAn s.answers ⟨rc,rt,⟨x,n⟩⟩).length vc) (.slice pa2 (s.past.length + 1) pc2)
    have hsz:=HSZ.out
    have hle5:=he2.size
    refine bodyPost_ret (by simp [results,Try.results43,go_sem,q0,q1,q2,q3]; rfl) rfl ?_
    refine ⟨_,rfl,m6,Rd.widen (A:=B) (agg_rd (st_rd (s:=commitSt s ⟨rc,rt,⟨rk,ra,ro,rn⟩⟩ ⟨x,n⟩) ?_ ?_ ?_ ?_)) (fun k _ h=>hB.2.2.2 k h)⟩
    ·exact (((((H1.out.widen hB.1).ext (e0.trans e5)).set n3 _ _).set n3 _ _).set n3 _ _).set n3 _ _
    ·exact Rd.all fun w=>writes_nil w
    ·exact ((((((rd_anss HO2.out).ext ez5).widen (B:=B) (fun k _ h=>hB.2.1 k (by omega))).set n3 _ _).set n3 _ _).set n3 _ _).set n3 _ _
    ·exact ((((HRO.out.widen (B:=B) (fun k _ h=>hB.2.1 k (by omega))).set n3 _ _).set n3 _ _).set n3 _ _).set n3 _ _
   ·have ho:=HO.out
    rw [HPT.out.done] at ho
    obtain ⟨b0,b1,-,b3,-⟩:=HB.out wr he
    obtain ⟨x0,x1,x2,x3,-⟩:=box4 b0
    obtain ⟨⟨r0,r1,r2,r3,r4,r5⟩,-⟩:=box6 b1
    clear b0 b1
    obtain ⟨va,vc,hvs⟩:=rowOf_slice (rd_anss ho).out
    subst hvs
    have HO2:=Lib.hid ho
    clear ho
    obtain ⟨i1,hi1,hy0,hy1,hy2⟩:=info_parts Try.infoRequest
    have HI1:=Lib.hid hi1
    clear hi1
    have mz : Ext w wr:=e0.trans he
    have HP4:=Lib.hid (rowOf_reqs.1 (H4.out.out.ext monoRq mz))
    go_wp2_with fail
    refine wp_region_mono_weak 9 [none,none,none,some (.inr (FullOf wr.heap.size 36 6 0 [])),none,none,some (.inr fun v wx=>wx.ownsRow wr.heap.size 36 6 v (0 + s.past.length) ([] ++ cells6 s.past)),none,some (.inr fun v wx=>Row wx 6 v 1 (cells6 [⟨rc,rt,⟨rk,ra,ro,rn⟩⟩]))] (fun v wx=>wx.ownsRow wr.heap.size 36 6 v (0 + s.past.length + 1) ([] ++ cells6 s.past ++ cells6 [⟨rc,rt,⟨rk,ra,ro,rn⟩⟩])) (by kernel_rfl) (by kernel_rfl) (by kernel_rfl) ?_ (fun v=>monoOwns _ _ _ _ _ v) ?_
    ·exact ⟨trivial,trivial,trivial,monoFull _ _ _ _ _,trivial,trivial,monoOwns _ _ _ _ _,trivial,fun _ _ _ he h=>Row.ext h he,trivial⟩
    iterate 1 (refine wpM_p (fun K hK=>?_); go_simp; first | refine hK _ ?_ | refine ⟨(fun h=>by cases h),hK _ ?_⟩; clear hK K)
    refine wpM_q (.slice ca s.cells.length cc) rfl (fun w' hw'=>by have z0:=hw'.cell x0; go_simp) ?_
    refine wpM_norm (fun K hK=>?_); go_simp; refine hK _ ?_; clear hK K
    iterate 1 (refine wpM_p (fun K hK=>?_); go_simp; first | refine hK _ ?_ | refine ⟨(fun h=>by cases h),hK _ ?_⟩; clear hK K)
    refine wpM_l _ rfl (fun w' hw' hk=>?_) (fun v49=>?_)
    ·have hsz:=hw'.size
     clear hk
     unfold makes
     go_simp
     exact ⟨(Ext.refl _).alloc _,full_lit #[] 0 hsz (by decide) rfl⟩
    refine wpM_norm (fun K hK=>?_); go_simp; refine hK _ ?_; clear hK K
    iterate 1 (refine wpM_p (fun K hK=>?_); go_simp; first | refine hK _ ?_ | refine ⟨(fun h=>by cases h),hK _ ?_⟩; clear hK K)
    refine wpM_q (.slice pa s.past.length pc) rfl (fun w' hw'=>by have z0:=hw'.cell x3; go_simp) ?_
    refine wpM_norm (fun K hK=>?_); go_simp; refine hK _ ?_; clear hK K
    refine wpM_l _ rfl (fun w' hw' hk=>?_) (fun v52=>?_)
    ·have h49 : FullOf wr.heap.size 36 6 0 [] v49 w':=hk 49 (by decide)
     obtain ⟨vv,ww,hrun,hoo,hee⟩:=run_append_full (P:=Try.prog) w' wr.heap.size 29 29 36 i1 _ 6 48 Try.underlying29 HI1.out hy0 hy1 hy2 rfl (by decide) v49 0 _ h49 (.slice pa s.past.length pc) s.past.length _ (HP4.out.ext hw') (cells6_one _) (by omega) (by decide) hw'.size
     exact makes_append rfl rfl rfl hrun hee hoo
    refine wpM_norm (fun K hK=>?_); go_simp; refine hK _ ?_; clear hK K
    refine wpM_q (RQ ⟨rc,rt,⟨rk,ra,ro,rn⟩⟩) rfl (fun w' hw'=>by have z0:=hw'.cell r0; have z1:=hw'.cell r1; have z2:=hw'.cell r2; have z3:=hw'.cell r3; have z4:=hw'.cell r4; have z5:=hw'.cell r5; go_simp) ?_
    refine wpM_norm (fun K hK=>?_); go_simp; refine hK _ ?_; clear hK K
    refine wpM_l _ rfl (fun w' hw' hk=>?_) (fun v54=>?_)
    ·have hsz:=hw'.size
     clear hk
     unfold makes
     go_simp
     exact ⟨(Ext.refl _).alloc _,Row.of_owns (World.ownsRow_lit (base:=0) (size:=6) w' _ 1 (Nat.zero_le _) (by decide) rfl)⟩
    refine wpM_norm (fun K hK=>?_); go_simp; refine hK _ ?_; clear hK K
    refine wpM_nil ⟨_,_,rfl,rfl,rfl,fun w' hw' hk=>?_,fun v55 w5 e5 ho5=>?_⟩
    ·have h52 : w'.ownsRow wr.heap.size 36 6 v52 (0 + s.past.length) ([] ++ cells6 s.past):=hk 52 (by decide)
     have h54 : Row w' 6 v54 1 (cells6 [⟨rc,rt,⟨rk,ra,ro,rn⟩⟩]):=hk 54 (by decide)
     obtain ⟨vv,ww,hrun,hoo,hgg⟩:=run_append_row (P:=Try.prog) w' wr.heap.size 29 29 36 i1 _ 6 48 Try.underlying29 HI1.out hy0 hy1 hy2 rfl (by decide) v52 _ _ h52 v54 1 _ h54 (cells6_one _) (by omega) (by decide) hw'.size
     exact ⟨vv,ww,run_append_op rfl rfl rfl hrun,hw'.grown hgg (fun j hj=>(h52.lt j hj).1),hoo⟩
    clear x0 x1 x2 x3 r0 r1 r2 r3 r4 r5
    have hro : Rd (fun k=>wr.heap.size ≤ k) (fun w=>RowOf 6 elRq w v55 (s.past ++ [⟨rc,rt,⟨rk,ra,ro,rn⟩⟩])) w5:=rd_rqs (by simpa [cells6_append] using ho5)
    obtain ⟨pa2,pc2,hps⟩:=rowOf_slice hro.out
    rw [show (s.past ++ [(⟨rc,rt,⟨rk,ra,ro,rn⟩⟩ : Rq)]).length = s.past.length + 1 by simp] at hps
    subst hps
    have HRO:=Lib.hid hro
    clear hro ho5
    have ez5:=e5
    replace e5 : Ext w1 w5:=he.trans e5
    obtain ⟨-,-,-,b3,-⟩:=HB.out w5 e5
    obtain ⟨y0,y1,y2,y3,f0,f1,f2,f3⟩:=box4 b3
    go_wp2_with fail
    clear y0 y1 y2 y3 f0 f1 f2 f3
    have b5:=set4 b3 (.slice ca s.cells.length cc) (.slice none 0 0) (.slice va (putAn s.answers ⟨rc,rt,⟨x,n⟩⟩).length vc) (.slice pa2 (s.past.length + 1) pc2)
    obtain ⟨q0,q1,q2,q3,-⟩:=box4 b5
    obtain ⟨B,hB⟩:=away A w.heap.size 5
    have n3 : ¬ B (w.heap.size + 1 + 1 + 1):=hB.2.2.1 _ (by omega) (by omega)
    have m6:=ext_set4 (e0.trans e5) (b:=w.heap.size + 1 + 1 + 1) (by omega) (.slice ca s.cells.length cc) (.slice none 0 0) (.slice va (putAn s.answers ⟨rc,rt,⟨x,n⟩⟩).length vc) (.slice pa2 (s.past.length + 1) pc2)
    have hsz:=HSZ.out
    have hle5:=he.size
    refine bodyPost_ret (by simp [results,Try.results43,go_sem,q0,q1,q2,q3]; rfl) rfl ?_
    refine ⟨_,rfl,m6,Rd.widen (A:=B) (agg_rd (st_rd (s:=commitSt s ⟨rc,rt,⟨rk,ra,ro,rn⟩⟩ ⟨x,n⟩) ?_ ?_ ?_ ?_)) (fun k _ h=>hB.2.2.2 k h)⟩
    ·exact (((((H1.out.widen hB.1).ext (e0.trans e5)).set n3 _ _).set n3 _ _).set n3 _ _).set n3 _ _
    ·exact Rd.all fun w=>writes_nil w
    ·exact ((((((rd_anss HO2.out).ext ez5).widen (B:=B) (fun k _ h=>hB.2.1 k (by omega))).set n3 _ _).set n3 _ _).set n3 _ _).set n3 _ _
    ·exact ((((HRO.out.widen (B:=B) (fun k _ h=>hB.2.1 k (by omega))).set n3 _ _).set n3 _ _).set n3 _ _).set n3 _ _

end Go.Proofs.Ytdmipnnfoolelae

namespace Go.Proofs.Ytdmipnnfoolelae
open Go.RowKit Go.Mk

theorem Try.infoBs : (Try.prog.info? 24).map (fun i=>(i.zero,i.size,i.bytes)) = some (some (.slice none 0 0),1,24):=by kernel_rfl

theorem own_slice' {w : World} {base e size n : Nat} {v : Value} {xs : List Value} (h : w.ownsRow base e size v n xs) : ∃ ao cap,v = .slice ao n cap:=row_slice (Row.of_owns h)

set_option maxRecDepth 100000 in
set_option maxHeartbeats 2000000 in
theorem refServerCome_keeps (gen : Int) (bl : List (List UInt8)) (busy : Bool) (nc nt nk na no nn : Int) (pl : List (Int × Int)) (se sn : Int) (box plan bv : Value) (b : List UInt8) (w : World) (A : Nat → Prop) (hb : Rd A (fun w=>RowOf 1 elBs w box bl) w) (hp : Rd A (fun w=>Writes w plan pl) w) (hv : Rd A (fun w=>Bytes w bv b) w) (hr : bl.length ≤ 1000) :
  Keeps Try.prog 30 #[.agg #[I gen,box,.bool busy,I nc,I nt,I nk,I na,I no,I nn,plan,I se,I sn],bv] w A (fun r w'=>TupE elSv (comeSv ⟨gen,bl,busy,⟨nc,nt,⟨nk,na,no,nn⟩⟩,pl,⟨se,sn⟩⟩ b).1 (comeSv ⟨gen,bl,busy,⟨nc,nt,⟨nk,na,no,nn⟩⟩,pl,⟨se,sn⟩⟩ b).2 r w'):=by
 unfold Keeps
 obtain ⟨ba,bc,rfl⟩:=rowOf_slice hb.out
 obtain ⟨pa,pc,rfl⟩:=row_slice hp.out
 obtain ⟨va,vc,rfl⟩:=row_slice hv.out
 have HB:=Lib.hid hb
 have HP:=Lib.hid hp
 have HV:=Lib.hid hv
 clear hb hp hv
 have e0 : Ext w ((w.alloc (.cells #[I gen,(.slice ba bl.length bc),.bool busy,I nc,I nt,I nk,I na,I no,I nn,(.slice pa pl.length pc),I se,I sn] 41)).alloc (.cells #[I 0,.slice none 0 0,.bool false,I 0,I 0,I 0,I 0,I 0,I 0,.slice none 0 0,I 0,I 0] 41)):=((Ext.refl w).alloc _).alloc _
 by_cases h3 : 3 ≤ bl.length
 case pos =>
  have hX : comeSv ⟨gen,bl,busy,⟨nc,nt,⟨nk,na,no,nn⟩⟩,pl,⟨se,sn⟩⟩ b = (⟨gen,bl,busy,⟨nc,nt,⟨nk,na,no,nn⟩⟩,pl,⟨se,sn⟩⟩,9):=if_pos h3
  rw [hX]
  have hl1 : (3 : Int) ≤ (bl.length : Int):=by omega
  have hl2 : ¬ ((bl.length : Int) < 3):=by omega
  clear hX
  go_enter Try.func30,Try.ntmps30
  go_wp2
  refine bodyPost_ret (by simp [results,Try.results30,go_sem]; rfl) rfl ?_
  exact ⟨_,rfl,((Ext.refl w).alloc _).alloc _,((tupE_rd (sv_rd (v:=⟨gen,bl,busy,⟨nc,nt,⟨nk,na,no,nn⟩⟩,pl,⟨se,sn⟩⟩) HB.out HP.out)).ext (((Ext.refl w).alloc _).alloc _)).widen (fun _ _ h=>.inl h)⟩
 have hX : comeSv ⟨gen,bl,busy,⟨nc,nt,⟨nk,na,no,nn⟩⟩,pl,⟨se,sn⟩⟩ b = (⟨gen,bl ++ [b],busy,⟨nc,nt,⟨nk,na,no,nn⟩⟩,pl,⟨se,sn⟩⟩,0):=if_neg h3
 rw [hX]
 clear hX
 have hl1 : ¬ ((3 : Int) ≤ (bl.length : Int)):=by omega
 have hl2 : (bl.length : Int) < 3:=by omega
 have HR:=Lib.hid hr
 clear hr h3
 obtain ⟨i0,hi,hz0,hz1,hz2⟩:=info_parts Try.infoBs
 have HI:=Lib.hid hi
 clear hi
 obtain ⟨css,hcs,hrow⟩:=rd_rowOf (by decide) HB.out
 have HCS:=Lib.hid hcs
 have HROW:=Lib.hid hrow
 clear hcs hrow
 have HBL:=Lib.hid (fun wx (h : Ext ((w.alloc (.cells #[I gen,(.slice ba bl.length bc),.bool busy,I nc,I nt,I nk,I na,I no,I nn,(.slice pa pl.length pc),I se,I sn] 41)).alloc (.cells #[I 0,.slice none 0 0,.bool false,I 0,I 0,I 0,I 0,I 0,I 0,.slice none 0 0,I 0,I 0] 41)) wx)=>And.intro (first_block h) (second_block h))
 have hsz : ((w.alloc (.cells #[I gen,(.slice ba bl.length bc),.bool busy,I nc,I nt,I nk,I na,I no,I nn,(.slice pa pl.length pc),I se,I sn] 41)).alloc (.cells #[I 0,.slice none 0 0,.bool false,I 0,I 0,I 0,I 0,I 0,I 0,.slice none 0 0,I 0,I 0] 41)).heap.size = w.heap.size + 2:=by simp
 have HSZ:=Lib.hid hsz
 clear hsz
 obtain ⟨B,hB⟩:=away A w.heap.size 2
 have HK:=Lib.hid hB
 clear hB
 have HONES:=Lib.hid (HCS.out.out.ones oneBs)
 go_enter Try.func30,Try.ntmps30
 go_wp2_with (at_builtin; refine stop_at ?_)
 unfold Hid
 generalize hw0 : (w.alloc (.cells #[I gen,(.slice ba bl.length bc),.bool busy,I nc,I nt,I nk,I na,I no,I nn,(.slice pa pl.length pc),I se,I sn] 41)).alloc (.cells #[I 0,.slice none 0 0,.bool false,I 0,I 0,I 0,I 0,I 0,I 0,.slice none 0 0,I 0,I 0] 41) = w0 at *
 clear hw0
 have hz:=HSZ.out
 have hem:=World.ownsRow_lit (base:=w0.heap.size) (e:=24) (size:=1) w0 #[] 0 (Nat.le_refl _) (by decide) rfl
 rw [hz] at hem
 refine wpList_append_row _ rfl (.tmp 11) (.tmp 13) 32 rfl (w.heap.size + 2) 24 i0 (.slice none 0 0) 1 24 Try.underlying32 HI.out hz0 hz1 hz2 rfl (by decide) (.slice (some ⟨w.heap.size + 2,0,none⟩) 0 0) 0 [] rfl hem _ rfl bl.length css.flatten (HROW.out.ext (e0.alloc _)) HONES.out (by have:=HR.out; omega) (by decide) (by simp; omega) ?_
 intro v1 w1 ho1 hg1
 simp only [Nat.zero_add,List.nil_append] at ho1
 have e1 : Ext w0 w1:=((Ext.refl w0).alloc (.cells #[] 24)).grown hg1 (fun k hk=>by (have h5 : w.heap.size + 2 = k:=by simpa [Value.ownBlock] using hk); omega)
 clear hem hg1
 go_wp2_with (at_builtin; refine stop_at ?_)
 unfold Hid
 have hone : Row (w1.alloc (.cells #[.slice va b.length vc] 24)) 1 (.slice (some ⟨w1.heap.size,0,none⟩) 1 1) 1 [.slice va b.length vc]:=Row.of_owns (World.ownsRow_lit (base:=0) (e:=24) (size:=1) w1 #[.slice va b.length vc] 1 (Nat.zero_le _) (by decide) rfl)
 have hs1:=e1.size
 refine wpList_append_row _ rfl (.tmp 14) (.tmp 16) 32 rfl (w.heap.size + 2) 24 i0 (.slice none 0 0) 1 24 Try.underlying32 HI.out hz0 hz1 hz2 rfl (by decide) v1 bl.length css.flatten rfl (owns_ext ho1 ((Ext.refl w1).alloc _)) _ rfl 1 _ hone (fun u hu=>by simp at hu; rw [hu]; rfl) (by have:=HR.out; omega) (by decide) (by simp; omega) ?_
 intro v2 w2 ho2 hg2
 have e2 : Ext w0 w2:=(e1.alloc (.cells #[.slice va b.length vc] 24)).grown hg2 (fun k hk=>by have:=(ho1.lt k hk).1; omega)
 clear hone hg2 ho1 hs1
 have ho2 : w2.ownsRow (w.heap.size + 2) 24 1 v2 (bl.length + 1) (css ++ [[Value.slice va b.length vc]]).flatten:=by simpa using ho2
 have k1 : Rd B (fun w=>RowOf 1 elBs w v2 (bl ++ [b])) w2:=by
  refine rd_own_of (fun k h _=>HK.out.2.1 k h) (Rd.snoc ((HCS.out.widen HK.out.1).ext (e0.trans e2)) ?_ rfl) ho2 (by decide)
  exact ((HV.out.widen HK.out.1).ext (e0.trans e2)).imp fun w h=>⟨_,rfl,h⟩
 obtain ⟨qa,qc,hqs⟩:=own_slice' ho2
 subst hqs
 have K1:=Lib.hid k1
 clear ho2 k1
 obtain ⟨b0,b1⟩:=HBL.out w2 e2
 have x0:=cells_at b0
 have f0:=frozen_at b0
 have y0:=cells_at b1
 have g0:=frozen_at b1
 go_wp2
 clear x0 f0 y0 g0
 have n0 : ¬ B w.heap.size:=HK.out.2.2.1 _ (Nat.le_refl _) (by omega)
 have n1 : ¬ B (w.heap.size + 1):=HK.out.2.2.1 _ (by omega) (by omega)
 have b2:=put_all (block_set (i:=1) (x:=(.slice qa (bl.length + 1) qc)) b1 (Nat.succ_ne_self w.heap.size)) [I gen,(.slice qa (bl.length + 1) qc),.bool busy,I nc,I nt,I nk,I na,I no,I nn,(.slice pa pl.length pc),I se,I sn] rfl
 have ew:=Ext.put (b:=w.heap.size + 1) (by omega) [I gen,(.slice qa (bl.length + 1) qc),.bool busy,I nc,I nt,I nk,I na,I no,I nn,(.slice pa pl.length pc),I se,I sn] ((e0.trans e2).setCell (p:=⟨w.heap.size,1,none⟩) (Nat.le_refl _) (.slice qa (bl.length + 1) qc)) 0
 have r1:=Rd.put n1 [I gen,(.slice qa (bl.length + 1) qc),.bool busy,I nc,I nt,I nk,I na,I no,I nn,(.slice pa pl.length pc),I se,I sn] (K1.out.set n0 1 (.slice qa (bl.length + 1) qc)) 0
 have rHP:=Rd.put n1 [I gen,(.slice qa (bl.length + 1) qc),.bool busy,I nc,I nt,I nk,I na,I no,I nn,(.slice pa pl.length pc),I se,I sn] (((HP.out.widen HK.out.1).ext (e0.trans e2)).set n0 1 (.slice qa (bl.length + 1) qc)) 0
 generalize hwz : ((((((((((((w2.setCell ⟨w.heap.size,1,none⟩ (.slice qa (bl.length + 1) qc)).setCell ⟨w.heap.size + 1,0,none⟩ (I gen)).setCell ⟨w.heap.size + 1,1,none⟩ (.slice qa (bl.length + 1) qc)).setCell ⟨w.heap.size + 1,2,none⟩ (.bool busy)).setCell ⟨w.heap.size + 1,3,none⟩ (I nc)).setCell ⟨w.heap.size + 1,4,none⟩ (I nt)).setCell ⟨w.heap.size + 1,5,none⟩ (I nk)).setCell ⟨w.heap.size + 1,6,none⟩ (I na)).setCell ⟨w.heap.size + 1,7,none⟩ (I no)).setCell ⟨w.heap.size + 1,8,none⟩ (I nn)).setCell ⟨w.heap.size + 1,9,none⟩ (.slice pa pl.length pc)).setCell ⟨w.heap.size + 1,10,none⟩ (I se)).setCell ⟨w.heap.size + 1,11,none⟩ (I sn) = wz
 replace hwz : putN (w2.setCell ⟨w.heap.size,1,none⟩ (.slice qa (bl.length + 1) qc)) (w.heap.size + 1) 0 [I gen,(.slice qa (bl.length + 1) qc),.bool busy,I nc,I nt,I nk,I na,I no,I nn,(.slice pa pl.length pc),I se,I sn] = wz:=hwz
 rw [hwz] at b2 ew r1 rHP
 have q0:=cells_at b2
 clear hwz
 refine bodyPost_ret (by simp [results,Try.results30,go_sem,q0]; rfl) rfl ?_
 exact ⟨_,rfl,ew,Rd.widen (A:=B) (tupE_rd (sv_rd (v:=⟨gen,bl ++ [b],busy,⟨nc,nt,⟨nk,na,no,nn⟩⟩,pl,⟨se,sn⟩⟩) r1 rHP)) (fun k _ h=>HK.out.2.2.2 k h)⟩

set_option maxRecDepth 100000 in
set_option maxHeartbeats 2000000 in
theorem refClientCome_keeps (cl : List Cl) (at_ : Int) (sent : Bool) (gen : Int) (bl : List (List UInt8)) (gl : List Rp) (calls box got bv : Value) (b : List UInt8) (w : World) (A : Nat → Prop) (hc : Rd A (fun w=>RowOf 4 elCl w calls cl) w) (hb : Rd A (fun w=>RowOf 1 elBs w box bl) w) (hg : Rd A (fun w=>RowOf 2 elRp w got gl) w) (hv : Rd A (fun w=>Bytes w bv b) w) (hr : bl.length ≤ 1000) :
  Keeps Try.prog 9 #[.agg #[calls,I at_,.bool sent,I gen,box,got],bv] w A (fun r w'=>Agg elCn (comeCn ⟨cl,at_,sent,gen,bl,gl⟩ b) r w'):=by
 unfold Keeps
 obtain ⟨ba,bc,rfl⟩:=rowOf_slice hb.out
 obtain ⟨ca,cc,rfl⟩:=rowOf_slice hc.out
 obtain ⟨ga,gc,rfl⟩:=rowOf_slice hg.out
 obtain ⟨va,vc,rfl⟩:=row_slice hv.out
 have HC:=Lib.hid hc
 have HB:=Lib.hid hb
 have HG:=Lib.hid hg
 have HV:=Lib.hid hv
 clear hc hb hg hv
 have e0 : Ext w ((w.alloc (.cells #[(.slice ca cl.length cc),I at_,.bool sent,I gen,(.slice ba bl.length bc),(.slice ga gl.length gc)] 51)).alloc (.cells #[.slice none 0 0,I 0,.bool false,I 0,.slice none 0 0,.slice none 0 0] 51)):=((Ext.refl w).alloc _).alloc _
 by_cases h3 : 3 ≤ bl.length
 case pos =>
  have hX : comeCn ⟨cl,at_,sent,gen,bl,gl⟩ b = ⟨cl,at_,sent,gen,bl,gl⟩:=if_neg (by show ¬ bl.length < 3; omega)
  rw [hX]
  have hl1 : (3 : Int) ≤ (bl.length : Int):=by omega
  have hl2 : ¬ ((bl.length : Int) < 3):=by omega
  clear hX
  go_enter Try.func9,Try.ntmps9
  go_wp2
  refine bodyPost_ret (by simp [results,Try.results9,go_sem]; rfl) rfl ?_
  exact ⟨_,rfl,((Ext.refl w).alloc _).alloc _,((agg_rd (cn_rd (c:=⟨cl,at_,sent,gen,bl,gl⟩) HC.out HB.out HG.out)).ext (((Ext.refl w).alloc _).alloc _)).widen (fun _ _ h=>.inl h)⟩
 have hX : comeCn ⟨cl,at_,sent,gen,bl,gl⟩ b = ⟨cl,at_,sent,gen,bl ++ [b],gl⟩:=if_pos (by show bl.length < 3; omega)
 rw [hX]
 clear hX
 have hl1 : ¬ ((3 : Int) ≤ (bl.length : Int)):=by omega
 have hl2 : (bl.length : Int) < 3:=by omega
 have HR:=Lib.hid hr
 clear hr h3
 obtain ⟨i0,hi,hz0,hz1,hz2⟩:=info_parts Try.infoBs
 have HI:=Lib.hid hi
 clear hi
 obtain ⟨css,hcs,hrow⟩:=rd_rowOf (by decide) HB.out
 have HCS:=Lib.hid hcs
 have HROW:=Lib.hid hrow
 clear hcs hrow
 have HBL:=Lib.hid (fun wx (h : Ext ((w.alloc (.cells #[(.slice ca cl.length cc),I at_,.bool sent,I gen,(.slice ba bl.length bc),(.slice ga gl.length gc)] 51)).alloc (.cells #[.slice none 0 0,I 0,.bool false,I 0,.slice none 0 0,.slice none 0 0] 51)) wx)=>And.intro (first_block h) (second_block h))
 have hsz : ((w.alloc (.cells #[(.slice ca cl.length cc),I at_,.bool sent,I gen,(.slice ba bl.length bc),(.slice ga gl.length gc)] 51)).alloc (.cells #[.slice none 0 0,I 0,.bool false,I 0,.slice none 0 0,.slice none 0 0] 51)).heap.size = w.heap.size + 2:=by simp
 have HSZ:=Lib.hid hsz
 clear hsz
 obtain ⟨B,hB⟩:=away A w.heap.size 2
 have HK:=Lib.hid hB
 clear hB
 have HONES:=Lib.hid (HCS.out.out.ones oneBs)
 go_enter Try.func9,Try.ntmps9
 go_wp2_with (at_builtin; refine stop_at ?_)
 unfold Hid
 generalize hw0 : (w.alloc (.cells #[(.slice ca cl.length cc),I at_,.bool sent,I gen,(.slice ba bl.length bc),(.slice ga gl.length gc)] 51)).alloc (.cells #[.slice none 0 0,I 0,.bool false,I 0,.slice none 0 0,.slice none 0 0] 51) = w0 at *
 clear hw0
 have hz:=HSZ.out
 have hem:=World.ownsRow_lit (base:=w0.heap.size) (e:=24) (size:=1) w0 #[] 0 (Nat.le_refl _) (by decide) rfl
 rw [hz] at hem
 refine wpList_append_row _ rfl (.tmp 9) (.tmp 11) 32 rfl (w.heap.size + 2) 24 i0 (.slice none 0 0) 1 24 Try.underlying32 HI.out hz0 hz1 hz2 rfl (by decide) (.slice (some ⟨w.heap.size + 2,0,none⟩) 0 0) 0 [] rfl hem _ rfl bl.length css.flatten (HROW.out.ext (e0.alloc _)) HONES.out (by have:=HR.out; omega) (by decide) (by simp; omega) ?_
 intro v1 w1 ho1 hg1
 simp only [Nat.zero_add,List.nil_append] at ho1
 have e1 : Ext w0 w1:=((Ext.refl w0).alloc (.cells #[] 24)).grown hg1 (fun k hk=>by (have h5 : w.heap.size + 2 = k:=by simpa [Value.ownBlock] using hk); omega)
 clear hem hg1
 go_wp2_with (at_builtin; refine stop_at ?_)
 unfold Hid
 have hone : Row (w1.alloc (.cells #[.slice va b.length vc] 24)) 1 (.slice (some ⟨w1.heap.size,0,none⟩) 1 1) 1 [.slice va b.length vc]:=Row.of_owns (World.ownsRow_lit (base:=0) (e:=24) (size:=1) w1 #[.slice va b.length vc] 1 (Nat.zero_le _) (by decide) rfl)
 have hs1:=e1.size
 refine wpList_append_row _ rfl (.tmp 12) (.tmp 14) 32 rfl (w.heap.size + 2) 24 i0 (.slice none 0 0) 1 24 Try.underlying32 HI.out hz0 hz1 hz2 rfl (by decide) v1 bl.length css.flatten rfl (owns_ext ho1 ((Ext.refl w1).alloc _)) _ rfl 1 _ hone (fun u hu=>by simp at hu; rw [hu]; rfl) (by have:=HR.out; omega) (by decide) (by simp; omega) ?_
 intro v2 w2 ho2 hg2
 have e2 : Ext w0 w2:=(e1.alloc (.cells #[.slice va b.length vc] 24)).grown hg2 (fun k hk=>by have:=(ho1.lt k hk).1; omega)
 clear hone hg2 ho1 hs1
 have ho2 : w2.ownsRow (w.heap.size + 2) 24 1 v2 (bl.length + 1) (css ++ [[Value.slice va b.length vc]]).flatten:=by simpa using ho2
 have k1 : Rd B (fun w=>RowOf 1 elBs w v2 (bl ++ [b])) w2:=by
  refine rd_own_of (fun k h _=>HK.out.2.1 k h) (Rd.snoc ((HCS.out.widen HK.out.1).ext (e0.trans e2)) ?_ rfl) ho2 (by decide)
  exact ((HV.out.widen HK.out.1).ext (e0.trans e2)).imp fun w h=>⟨_,rfl,h⟩
 obtain ⟨qa,qc,hqs⟩:=own_slice' ho2
 subst hqs
 have K1:=Lib.hid k1
 clear ho2 k1
 obtain ⟨b0,b1⟩:=HBL.out w2 e2
 have x0:=cells_at b0
 have f0:=frozen_at b0
 have y0:=cells_at b1
 have g0:=frozen_at b1
 go_wp2
 clear x0 f0 y0 g0
 have n0 : ¬ B w.heap.size:=HK.out.2.2.1 _ (Nat.le_refl _) (by omega)
 have n1 : ¬ B (w.heap.size + 1):=HK.out.2.2.1 _ (by omega) (by omega)
 have b2:=put_all (block_set (i:=4) (x:=(.slice qa (bl.length + 1) qc)) b1 (Nat.succ_ne_self w.heap.size)) [(.slice ca cl.length cc),I at_,.bool sent,I gen,(.slice qa (bl.length + 1) qc),(.slice ga gl.length gc)] rfl
 have ew:=Ext.put (b:=w.heap.size + 1) (by omega) [(.slice ca cl.length cc),I at_,.bool sent,I gen,(.slice qa (bl.length + 1) qc),(.slice ga gl.length gc)] ((e0.trans e2).setCell (p:=⟨w.heap.size,4,none⟩) (Nat.le_refl _) (.slice qa (bl.length + 1) qc)) 0
 have r1:=Rd.put n1 [(.slice ca cl.length cc),I at_,.bool sent,I gen,(.slice qa (bl.length + 1) qc),(.slice ga gl.length gc)] (K1.out.set n0 4 (.slice qa (bl.length + 1) qc)) 0
 have rHC:=Rd.put n1 [(.slice ca cl.length cc),I at_,.bool sent,I gen,(.slice qa (bl.length + 1) qc),(.slice ga gl.length gc)] (((HC.out.widen HK.out.1).ext (e0.trans e2)).set n0 4 (.slice qa (bl.length + 1) qc)) 0
 have rHG:=Rd.put n1 [(.slice ca cl.length cc),I at_,.bool sent,I gen,(.slice qa (bl.length + 1) qc),(.slice ga gl.length gc)] (((HG.out.widen HK.out.1).ext (e0.trans e2)).set n0 4 (.slice qa (bl.length + 1) qc)) 0
 generalize hwz : ((((((w2.setCell ⟨w.heap.size,4,none⟩ (.slice qa (bl.length + 1) qc)).setCell ⟨w.heap.size + 1,0,none⟩ (.slice ca cl.length cc)).setCell ⟨w.heap.size + 1,1,none⟩ (I at_)).setCell ⟨w.heap.size + 1,2,none⟩ (.bool sent)).setCell ⟨w.heap.size + 1,3,none⟩ (I gen)).setCell ⟨w.heap.size + 1,4,none⟩ (.slice qa (bl.length + 1) qc)).setCell ⟨w.heap.size + 1,5,none⟩ (.slice ga gl.length gc) = wz
 replace hwz : putN (w2.setCell ⟨w.heap.size,4,none⟩ (.slice qa (bl.length + 1) qc)) (w.heap.size + 1) 0 [(.slice ca cl.length cc),I at_,.bool sent,I gen,(.slice qa (bl.length + 1) qc),(.slice ga gl.length gc)] = wz:=hwz
 rw [hwz] at b2 ew r1 rHC rHG
 have q0:=cells_at b2
 clear hwz
 refine bodyPost_ret (by simp [results,Try.results9,go_sem,q0]; rfl) rfl ?_
 exact ⟨_,rfl,ew,Rd.widen (A:=B) (agg_rd (cn_rd (c:=⟨cl,at_,sent,gen,bl ++ [b],gl⟩) rHC r1 rHG)) (fun k _ h=>HK.out.2.2.2 k h)⟩

end Go.Proofs.Ytdmipnnfoolelae

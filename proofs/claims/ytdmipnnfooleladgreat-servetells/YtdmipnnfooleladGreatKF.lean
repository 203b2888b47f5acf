/- Texts of the proof, merged: E7 E8 E9 S3 S4 W1 W2 W3 W4. -/
import Derived.Test.YtdmipnnfooleladGreatKE
import Derived.Test.YtdmipnnfooleladGreatKB
import Derived.BigRegion

namespace Go.Proofs.YtdmipnnfooleladGreat
open Go.RowKit Go.Mk
set_option maxRecDepth 100000

theorem bytes10 {w : World} {v : Value} {b0 b1 b2 b3 b4 b5 b6 b7 b8 b9 : UInt8} (h : Bytes w v [b0,b1,b2,b3,b4,b5,b6,b7,b8,b9]) : ∃ b off cap,v = .slice (some ⟨b,off,none⟩) 10 cap ∧ 10 ≤ cap ∧ cap ≤ maxLen ∧
  (w.cell? ⟨b,off,none⟩ = some (U b0) ∧ w.cell? ⟨b,off + 1,none⟩ = some (U b1) ∧ w.cell? ⟨b,off + 2,none⟩ = some (U b2) ∧ w.cell? ⟨b,off + 3,none⟩ = some (U b3) ∧ w.cell? ⟨b,off + 4,none⟩ = some (U b4) ∧ w.cell? ⟨b,off + 5,none⟩ = some (U b5)) ∧
   Bytes w (.slice (some ⟨b,off + 6,none⟩) 4 (cap - 6)) [b6,b7,b8,b9]:=by
 obtain ⟨ao,cap,rfl,h1,h2,h3⟩:=h.form
 obtain ⟨b,off,rfl,c0⟩:=h3 0 (by simp)
 refine ⟨b,off,cap,rfl,h1,h2,⟨c0,?_,?_,?_,?_,?_⟩,h.drop 6 (by simp)⟩
 ·obtain ⟨_,_,e1,c1⟩:=h3 1 (by simp); cases e1; exact c1
 ·obtain ⟨_,_,e1,c1⟩:=h3 2 (by simp); cases e1; exact c1
 ·obtain ⟨_,_,e1,c1⟩:=h3 3 (by simp); cases e1; exact c1
 ·obtain ⟨_,_,e1,c1⟩:=h3 4 (by simp); cases e1; exact c1
 ·obtain ⟨_,_,e1,c1⟩:=h3 5 (by simp); cases e1; exact c1

theorem bytes8 {w : World} {v : Value} {b0 b1 b2 b3 b4 b5 b6 b7 : UInt8} (h : Bytes w v [b0,b1,b2,b3,b4,b5,b6,b7]) : ∃ b off cap,v = .slice (some ⟨b,off,none⟩) 8 cap ∧ 8 ≤ cap ∧ cap ≤ maxLen ∧
  (w.cell? ⟨b,off,none⟩ = some (U b0) ∧ w.cell? ⟨b,off + 1,none⟩ = some (U b1) ∧ w.cell? ⟨b,off + 2,none⟩ = some (U b2) ∧ w.cell? ⟨b,off + 3,none⟩ = some (U b3)) ∧
   Bytes w (.slice (some ⟨b,off + 4,none⟩) 4 (cap - 4)) [b4,b5,b6,b7]:=by
 obtain ⟨ao,cap,rfl,h1,h2,h3⟩:=h.form
 obtain ⟨b,off,rfl,c0⟩:=h3 0 (by simp)
 refine ⟨b,off,cap,rfl,h1,h2,⟨c0,?_,?_,?_⟩,h.drop 4 (by simp)⟩
 ·obtain ⟨_,_,e1,c1⟩:=h3 1 (by simp); cases e1; exact c1
 ·obtain ⟨_,_,e1,c1⟩:=h3 2 (by simp); cases e1; exact c1
 ·obtain ⟨_,_,e1,c1⟩:=h3 3 (by simp); cases e1; exact c1

theorem wrap_byte (x : UInt8) : IntKind.i64.wrap (x.toNat : Int) = (x.toNat : Int):=by
 have:=x.toNat_lt
 unfold IntKind.wrap
 simp [IntKind.signed,IntKind.bits]
 omega

theorem readRq_form {l : List UInt8} (h : ¬ (l.length = 10 ∧ l.getD 0 0 = 113)) : readRq l = (zeroRq,2):=if_pos (by by_cases h1 : l.length = 10 <;> simp_all)
theorem readAn_form {l : List UInt8} (h : ¬ (l.length = 8 ∧ l.getD 0 0 = 97)) : readAn l = (zeroAn,2):=if_pos (by by_cases h1 : l.length = 8 <;> simp_all)

set_option maxHeartbeats 1000000 in
theorem ReadRequest_form (v : Value) (l : List UInt8) (w : World) (hv : Bytes w v l) (hf : ¬ (l.length = 10 ∧ l.getD 0 0 = 113)) :
  Calls Tryz.prog 59 #[v] w fun e w'=>e = .returned (.tuple #[RQ (readRq l).1,I (readRq l).2]) ∧ Ext w w':=by
 have hff : decide (l.length = 10 ∧ l.getD 0 0 = 113) = false:=decide_eq_false hf
 have hF:=fun wx (h : Ext w wx)=>formed_any v l 113 10 (by decide) wx (hv.ext h)
 rw [hff] at hF
 rw [readRq_form hf]
 clear hv hf hff
 go_enter Tryz.func59,Tryz.ntmps59
 go_wp2_with fail
 refine Calls.same (hF _ ((Ext.refl w).alloc _)) ?_
 go_wp2
 refine bodyPost_ret (by simp [results,Tryz.results59,go_sem]; rfl) rfl ?_
 exact ⟨rfl,(Ext.refl w).alloc _⟩

set_option maxHeartbeats 1000000 in
theorem ReadRequest_read (v : Value) (b1 b2 b3 b4 b5 b6 b7 b8 b9 : UInt8) (w : World) (hv : Bytes w v [113,b1,b2,b3,b4,b5,b6,b7,b8,b9]) :
  Calls Tryz.prog 59 #[v] w fun e w'=>e = .returned (.tuple #[RQ (readRq [113,b1,b2,b3,b4,b5,b6,b7,b8,b9]).1,I (readRq [113,b1,b2,b3,b4,b5,b6,b7,b8,b9]).2]) ∧ Ext w w':=by
 have hF:=fun wx (h : Ext w wx)=>formed_any v _ 113 10 (by decide) wx (hv.ext h)
 have hneg : wrongRq ⟨b1.toNat,b2.toNat,⟨b3.toNat,b4.toNat,b5.toNat,numB [b6,b7,b8,b9]⟩⟩ = 0 → readRq [113,b1,b2,b3,b4,b5,b6,b7,b8,b9] = (⟨b1.toNat,b2.toNat,⟨b3.toNat,b4.toNat,b5.toNat,numB [b6,b7,b8,b9]⟩⟩,0):=fun h=>if_neg (show ¬ (wrongRq ⟨b1.toNat,b2.toNat,⟨b3.toNat,b4.toNat,b5.toNat,numB [b6,b7,b8,b9]⟩⟩ ≠ 0) from fun k=>k h)
 have hpos : ¬ wrongRq ⟨b1.toNat,b2.toNat,⟨b3.toNat,b4.toNat,b5.toNat,numB [b6,b7,b8,b9]⟩⟩ = 0 → readRq [113,b1,b2,b3,b4,b5,b6,b7,b8,b9] = (zeroRq,wrongRq ⟨b1.toNat,b2.toNat,⟨b3.toNat,b4.toNat,b5.toNat,numB [b6,b7,b8,b9]⟩⟩):=fun h=>if_pos (show wrongRq ⟨b1.toNat,b2.toNat,⟨b3.toNat,b4.toNat,b5.toNat,numB [b6,b7,b8,b9]⟩⟩ ≠ 0 from h)
 have hff : decide ([113,b1,b2,b3,b4,b5,b6,b7,b8,b9].length = 10 ∧ [113,b1,b2,b3,b4,b5,b6,b7,b8,b9].getD 0 0 = 113) = true:=rfl
 rw [hff] at hF
 clear hff
 generalize readRq [113,b1,b2,b3,b4,b5,b6,b7,b8,b9] = RR at *
 obtain ⟨R,E⟩:=RR
 obtain ⟨b,off,cap,rfl,hc1,hc2,⟨-,c1,c2,c3,c4,c5⟩,h6⟩:=bytes10 hv
 have hN:=fun wx (h : Ext w wx)=>number_any _ b6 b7 b8 b9 wx (h6.ext h)
 unfold maxLen at hc2
 clear hv h6
 generalize numB [b6,b7,b8,b9] = n at *
 have HN:=Lib.hid hneg
 have HP:=Lib.hid hpos
 clear hneg hpos
 have hk6 : ¬ cap = 6:=by omega
 have hbw:=wrap_byte
 have e0 : Ext w (w.alloc (.cells #[I 0,I 0,I 0,I 0,I 0,I 0] 36)):=(Ext.refl w).alloc _
 have HB:=Lib.hid (fun wx (h : Ext (w.alloc (.cells #[I 0,I 0,I 0,I 0,I 0,I 0] 36)) wx)=>block_ext h)
 go_enter Tryz.func59,Tryz.ntmps59
 go_wp2_with fail
 refine Calls.same (hF _ e0) ?_
 go_wp2_with fail
 clear hF
 generalize hw0 : w.alloc (.cells #[I 0,I 0,I 0,I 0,I 0,I 0] 36) = w0 at *
 have HW0:=Lib.hid hw0
 clear hw0
 replace c1:=e0.cell c1
 replace c2:=e0.cell c2
 replace c3:=e0.cell c3
 replace c4:=e0.cell c4
 replace c5:=e0.cell c5
 refine wp_region_mono_tail 17 [none,none,none,none,none,none,none,none,none,none,none,none,none,none,some (.inl (I n)),none,some (.inr (BoxC w0.heap.size 34 #[I 0,I 0,I 0,I 0]))] (by kernel_rfl) (by kernel_rfl) ?_ ?_
 ·exact ⟨trivial,trivial,trivial,trivial,trivial,trivial,trivial,trivial,trivial,trivial,trivial,trivial,trivial,trivial,trivial,trivial,monoBoxC _ _ _,trivial⟩
 iterate 2 (refine wpM_p (fun K hK=>?_); go_simp; refine hK _ ?_; clear hK K)
 refine wpM_q (U b3) rfl (fun w' hw'=>by have q0:=hw'.cell c3; go_simp) ?_
 iterate 3 (refine wpM_p (fun K hK=>?_); go_simp; refine hK _ ?_; clear hK K)
 refine wpM_q (U b4) rfl (fun w' hw'=>by have q0:=hw'.cell c4; go_simp) ?_
 iterate 3 (refine wpM_p (fun K hK=>?_); go_simp; refine hK _ ?_; clear hK K)
 refine wpM_q (U b5) rfl (fun w' hw'=>by have q0:=hw'.cell c5; go_simp) ?_
 iterate 3 (refine wpM_p (fun K hK=>?_); go_simp; refine hK _ ?_; clear hK K)
 refine wpM_x _ rfl (fun w' hw' _=>?_) ?_
 ·have hg:=gives_exts (hN w' (e0.trans hw'))
  unfold makes
  go_simp
  exact ⟨Ext.refl _,hg⟩
 iterate 1 (refine wpM_p (fun K hK=>?_); go_simp; refine hK _ ?_; clear hK K)
 refine wpM_l _ rfl (fun w' hw' hk=>?_) (fun v4=>?_)
 ·clear hk
  unfold makes
  go_simp
  exact ⟨(Ext.refl _).alloc _,boxC_new hw'.size⟩
 refine wpM_nil ?_
 intro w1 e1 hX
 obtain ⟨d,rfl,hd0,hd1⟩ : BoxC w0.heap.size 34 #[I 0,I 0,I 0,I 0] v4 w1:=hX 4
 clear hX hN
 obtain ⟨x0,x1,x2,x3,f0,f1,f2,f3⟩:=box4 hd1
 have e2:=ext_set4 e1 hd0 (I b3.toNat) (I b4.toNat) (I b5.toNat) (I n)
 have hd2:=set4 hd1 (I b3.toNat) (I b4.toNat) (I b5.toNat) (I n)
 go_wp2_with fail
 clear x0 x1 x2 x3 f0 f1 f2 f3 c3 c4 c5 hd1 e1
 generalize hw2 : (((w1.setCell ⟨d,0,none⟩ (I b3.toNat)).setCell ⟨d,1,none⟩ (I b4.toNat)).setCell ⟨d,2,none⟩ (I b5.toNat)).setCell ⟨d,3,none⟩ (I n) = w2 at *
 clear hw2
 replace c1:=e2.cell c1
 replace c2:=e2.cell c2
 obtain ⟨x0,x1,x2,x3,-⟩:=box4 hd2
 clear hd2
 refine wp_region_mono_tail 11 [none,none,none,none,none,none,none,none,none,none,some (.inr (BoxC w0.heap.size 36 #[I 0,I 0,I 0,I 0,I 0,I 0]))] (by kernel_rfl) (by kernel_rfl) ?_ ?_
 ·exact ⟨trivial,trivial,trivial,trivial,trivial,trivial,trivial,trivial,trivial,trivial,monoBoxC _ _ _,trivial⟩
 iterate 2 (refine wpM_p (fun K hK=>?_); go_simp; refine hK _ ?_; clear hK K)
 refine wpM_q (U b1) rfl (fun w' hw'=>by have q0:=hw'.cell c1; go_simp) ?_
 iterate 3 (refine wpM_p (fun K hK=>?_); go_simp; refine hK _ ?_; clear hK K)
 refine wpM_q (U b2) rfl (fun w' hw'=>by have q0:=hw'.cell c2; go_simp) ?_
 iterate 1 (refine wpM_p (fun K hK=>?_); go_simp; refine hK _ ?_; clear hK K)
 refine wpM_q (.agg #[I b3.toNat,I b4.toNat,I b5.toNat,I n]) rfl (fun w' hw'=>by have q0:=hw'.cell x0; have q1:=hw'.cell x1; have q2:=hw'.cell x2; have q3:=hw'.cell x3; go_simp) ?_
 iterate 1 (refine wpM_p (fun K hK=>?_); go_simp; refine hK _ ?_; clear hK K)
 refine wpM_l _ rfl (fun w' hw' hk=>?_) (fun v5=>?_)
 ·clear hk
  unfold makes
  go_simp
  exact ⟨(Ext.refl _).alloc _,boxC_new (Nat.le_trans e2.size hw'.size)⟩
 refine wpM_nil ?_
 intro w3 e3 hX
 obtain ⟨g,rfl,hg0,hg1⟩ : BoxC w0.heap.size 36 #[I 0,I 0,I 0,I 0,I 0,I 0] v5 w3:=hX 5
 clear hX x0 x1 x2 x3 c1 c2
 obtain ⟨⟨x0,x1,x2,x3,x4,x5⟩,f0,f1,f2,f3,f4,f5⟩:=box6 hg1
 have e4:=ext_set6 (e2.trans e3) hg0 (I b1.toNat) (I b2.toNat) (I b3.toNat) (I b4.toNat) (I b5.toNat) (I n)
 have hg2:=set6 hg1 (I b1.toNat) (I b2.toNat) (I b3.toNat) (I b4.toNat) (I b5.toNat) (I n)
 go_wp2_with fail
 clear x0 x1 x2 x3 x4 x5 f0 f1 f2 f3 f4 f5 hg1 e3
 generalize hw4 : (((((w3.setCell ⟨g,0,none⟩ (I b1.toNat)).setCell ⟨g,1,none⟩ (I b2.toNat)).setCell ⟨g,2,none⟩ (I b3.toNat)).setCell ⟨g,3,none⟩ (I b4.toNat)).setCell ⟨g,4,none⟩ (I b5.toNat)).setCell ⟨g,5,none⟩ (I n) = w4 at *
 clear hw4 hbw
 refine Calls.exts (WrongRequest_any (b1.toNat : Int) b2.toNat b3.toNat b4.toNat b5.toNat n w4) (fun w5 e5=>?_)
 have rb:=HB.out w5 (e4.trans e5)
 obtain ⟨⟨z0,z1,z2,z3,z4,z5⟩,f0,f1,f2,f3,f4,f5⟩:=box6 rb
 have m5 : Ext w w5:=e0.trans (e4.trans e5)
 by_cases hz : wrongRq ⟨b1.toNat,b2.toNat,⟨b3.toNat,b4.toNat,b5.toNat,n⟩⟩ = 0
 ·rw [hz]
  obtain ⟨⟨x0,x1,x2,x3,x4,x5⟩,-⟩:=box6 (block_of hg2 e5)
  have HZ:=Lib.hid hz
  clear hz
  go_wp2
  have rb2:=set6 rb (I b1.toNat) (I b2.toNat) (I b3.toNat) (I b4.toNat) (I b5.toNat) (I n)
  obtain ⟨⟨q0,q1,q2,q3,q4,q5⟩,-⟩:=box6 rb2
  have m6:=ext_set6 m5 (Nat.le_refl w.heap.size) (I b1.toNat) (I b2.toNat) (I b3.toNat) (I b4.toNat) (I b5.toNat) (I n)
  clear x0 x1 x2 x3 x4 x5 z0 z1 z2 z3 z4 z5 f0 f1 f2 f3 f4 f5
  refine bodyPost_ret (by simp [results,Tryz.results59,go_sem,q0,q1,q2,q3,q4,q5]; rfl) rfl ?_
  obtain ⟨h1,h2⟩:=Prod.mk.inj (HN.out HZ.out)
  rw [h1,h2]
  exact ⟨rfl,m6⟩
 ·have hb : (wrongRq ⟨b1.toNat,b2.toNat,⟨b3.toNat,b4.toNat,b5.toNat,n⟩⟩ != 0) = true:=by simpa using hz
  have HZ:=Lib.hid hz
  clear hz
  go_wp2
  have rb2:=set6 rb (I 0) (I 0) (I 0) (I 0) (I 0) (I 0)
  obtain ⟨⟨q0,q1,q2,q3,q4,q5⟩,-⟩:=box6 rb2
  have m6:=ext_set6 m5 (Nat.le_refl w.heap.size) (I 0) (I 0) (I 0) (I 0) (I 0) (I 0)
  clear z0 z1 z2 z3 z4 z5 f0 f1 f2 f3 f4 f5
  refine bodyPost_ret (by simp [results,Tryz.results59,go_sem,q0,q1,q2,q3,q4,q5]; rfl) rfl ?_
  obtain ⟨h1,h2⟩:=Prod.mk.inj (HP.out HZ.out)
  rw [h1,h2]
  exact ⟨rfl,m6⟩

theorem ten_of {l : List UInt8} (h : l.length = 10 ∧ l.getD 0 0 = 113) : ∃ b1 b2 b3 b4 b5 b6 b7 b8 b9,l = [113,b1,b2,b3,b4,b5,b6,b7,b8,b9]:=by
 obtain ⟨h1,h2⟩:=h
 match l,h1,h2 with
 | [b0,b1,b2,b3,b4,b5,b6,b7,b8,b9],_,h0 =>
  have h0 : b0 = 113:=h0
  subst h0
  exact ⟨_,_,_,_,_,_,_,_,_,rfl⟩
theorem eight_of {l : List UInt8} (h : l.length = 8 ∧ l.getD 0 0 = 97) : ∃ b1 b2 b3 b4 b5 b6 b7,l = [97,b1,b2,b3,b4,b5,b6,b7]:=by
 obtain ⟨h1,h2⟩:=h
 match l,h1,h2 with
 | [b0,b1,b2,b3,b4,b5,b6,b7],_,h0 =>
  have h0 : b0 = 97:=h0
  subst h0
  exact ⟨_,_,_,_,_,_,_,rfl⟩

theorem ReadRequest_any (v : Value) (l : List UInt8) (w : World) (hv : Bytes w v l) :
  Calls Tryz.prog 59 #[v] w fun e w'=>e = .returned (.tuple #[RQ (readRq l).1,I (readRq l).2]) ∧ Ext w w':=by
 by_cases hf : l.length = 10 ∧ l.getD 0 0 = 113
 ·obtain ⟨b1,b2,b3,b4,b5,b6,b7,b8,b9,rfl⟩:=ten_of hf
  exact ReadRequest_read v b1 b2 b3 b4 b5 b6 b7 b8 b9 w hv
 ·exact ReadRequest_form v l w hv hf

end Go.Proofs.YtdmipnnfooleladGreat

namespace Go.Proofs.YtdmipnnfooleladGreat
open Go.RowKit Go.Mk
set_option maxRecDepth 100000

end Go.Proofs.YtdmipnnfooleladGreat

namespace Go.Proofs.YtdmipnnfooleladGreat
open Go.RowKit Go.Mk
set_option maxRecDepth 100000

set_option maxHeartbeats 1000000 in
theorem refReadRequest_form (v : Value) (l : List UInt8) (w : World) (hv : Bytes w v l) (hf : ¬ (l.length = 10 ∧ l.getD 0 0 = 113)) :
  Calls Tryz.prog 36 #[v] w fun e w'=>e = .returned (.tuple #[RQ (readRq l).1,I (readRq l).2]) ∧ Ext w w':=by
 rw [readRq_form hf]
 obtain ⟨ao,cap,rfl,h1,h2,h3⟩:=hv.form
 unfold maxLen at h2
 clear hv
 by_cases hl : l.length = 10
 ·obtain ⟨b,off,rfl,hc⟩:=h3 0 (by omega)
  have hm : ¬ l.getD 0 0 = 113:=fun h=>hf ⟨hl,h⟩
  clear h3 hf
  simp only [Nat.add_zero] at hc
  rw [hl] at h1 ⊢
  generalize l.getD 0 0 = x at *
  have hu : ((x.toNat : Int) != 113) = true:=by
   rw [bne_iff_ne]
   intro h
   exact hm (UInt8.toNat_inj.1 (show x.toNat = 113 by omega))
  replace hc:=((Ext.refl w).alloc (.cells #[I 0,I 0,I 0,I 0,I 0,I 0] 36)).cell hc
  clear hm hl
  go_enter Tryz.func36,Tryz.ntmps36
  go_wp2
  refine bodyPost_ret (by simp [results,Tryz.results36,go_sem]; rfl) rfl ?_
  exact ⟨rfl,(Ext.refl w).alloc _⟩
 ·have hne : (((l.length : Int)) != 10) = true:=by rw [bne_iff_ne]; omega
  clear h3 hf hl
  go_enter Tryz.func36,Tryz.ntmps36
  go_wp2
  refine bodyPost_ret (by simp [results,Tryz.results36,go_sem]; rfl) rfl ?_
  exact ⟨rfl,(Ext.refl w).alloc _⟩

set_option maxHeartbeats 1000000 in
theorem refReadRequest_read (v : Value) (b1 b2 b3 b4 b5 b6 b7 b8 b9 : UInt8) (w : World) (hv : Bytes w v [113,b1,b2,b3,b4,b5,b6,b7,b8,b9]) :
  Calls Tryz.prog 36 #[v] w fun e w'=>e = .returned (.tuple #[RQ (readRq [113,b1,b2,b3,b4,b5,b6,b7,b8,b9]).1,I (readRq [113,b1,b2,b3,b4,b5,b6,b7,b8,b9]).2]) ∧ Ext w w':=by
 have hneg : wrongRq ⟨b1.toNat,b2.toNat,⟨b3.toNat,b4.toNat,b5.toNat,numB [b6,b7,b8,b9]⟩⟩ = 0 → readRq [113,b1,b2,b3,b4,b5,b6,b7,b8,b9] = (⟨b1.toNat,b2.toNat,⟨b3.toNat,b4.toNat,b5.toNat,numB [b6,b7,b8,b9]⟩⟩,0):=fun h=>if_neg (show ¬ (wrongRq ⟨b1.toNat,b2.toNat,⟨b3.toNat,b4.toNat,b5.toNat,numB [b6,b7,b8,b9]⟩⟩ ≠ 0) from fun k=>k h)
 have hpos : ¬ wrongRq ⟨b1.toNat,b2.toNat,⟨b3.toNat,b4.toNat,b5.toNat,numB [b6,b7,b8,b9]⟩⟩ = 0 → readRq [113,b1,b2,b3,b4,b5,b6,b7,b8,b9] = (zeroRq,wrongRq ⟨b1.toNat,b2.toNat,⟨b3.toNat,b4.toNat,b5.toNat,numB [b6,b7,b8,b9]⟩⟩):=fun h=>if_pos (show wrongRq ⟨b1.toNat,b2.toNat,⟨b3.toNat,b4.toNat,b5.toNat,numB [b6,b7,b8,b9]⟩⟩ ≠ 0 from h)
 generalize readRq [113,b1,b2,b3,b4,b5,b6,b7,b8,b9] = RR at *
 obtain ⟨R,E⟩:=RR
 obtain ⟨b,off,cap,rfl,hc1,hc2,⟨c0,c1,c2,c3,c4,c5⟩,h6⟩:=bytes10 hv
 have hN:=fun wx (h : Ext w wx)=>num_any _ b6 b7 b8 b9 wx (h6.ext h)
 unfold maxLen at hc2
 clear hv h6
 generalize numB [b6,b7,b8,b9] = n at *
 have HN:=Lib.hid hneg
 have HP:=Lib.hid hpos
 clear hneg hpos
 have hk6 : ¬ cap = 6:=by omega
 have hbw:=wrap_byte
 have e0 : Ext w (w.alloc (.cells #[I 0,I 0,I 0,I 0,I 0,I 0] 36)):=(Ext.refl w).alloc _
 have HB:=Lib.hid (fun wx (h : Ext (w.alloc (.cells #[I 0,I 0,I 0,I 0,I 0,I 0] 36)) wx)=>block_ext h)
 replace c0:=e0.cell c0
 replace c1:=e0.cell c1
 replace c2:=e0.cell c2
 replace c3:=e0.cell c3
 replace c4:=e0.cell c4
 replace c5:=e0.cell c5
 go_enter Tryz.func36,Tryz.ntmps36
 go_wp2_with fail
 generalize hw0 : w.alloc (.cells #[I 0,I 0,I 0,I 0,I 0,I 0] 36) = w0 at *
 have HW0:=Lib.hid hw0
 clear hw0 c0
 refine wp_region_mono_tail 26 [none,none,none,none,none,none,none,none,none,none,none,none,none,none,none,none,none,none,none,none,none,none,some (.inl (I n)),none,none,some (.inr (BoxC w0.heap.size 36 #[I 0,I 0,I 0,I 0,I 0,I 0]))] (by kernel_rfl) (by kernel_rfl) ?_ ?_
 ·exact ⟨trivial,trivial,trivial,trivial,trivial,trivial,trivial,trivial,trivial,trivial,trivial,trivial,trivial,trivial,trivial,trivial,trivial,trivial,trivial,trivial,trivial,trivial,trivial,trivial,trivial,monoBoxC _ _ _,trivial⟩
 iterate 2 (refine wpM_p (fun K hK=>?_); go_simp; refine hK _ ?_; clear hK K)
 refine wpM_q (U b1) rfl (fun w' hw'=>by have q0:=hw'.cell c1; go_simp) ?_
 iterate 3 (refine wpM_p (fun K hK=>?_); go_simp; refine hK _ ?_; clear hK K)
 refine wpM_q (U b2) rfl (fun w' hw'=>by have q0:=hw'.cell c2; go_simp) ?_
 iterate 3 (refine wpM_p (fun K hK=>?_); go_simp; refine hK _ ?_; clear hK K)
 refine wpM_q (U b3) rfl (fun w' hw'=>by have q0:=hw'.cell c3; go_simp) ?_
 iterate 3 (refine wpM_p (fun K hK=>?_); go_simp; refine hK _ ?_; clear hK K)
 refine wpM_q (U b4) rfl (fun w' hw'=>by have q0:=hw'.cell c4; go_simp) ?_
 iterate 3 (refine wpM_p (fun K hK=>?_); go_simp; refine hK _ ?_; clear hK K)
 refine wpM_q (U b5) rfl (fun w' hw'=>by have q0:=hw'.cell c5; go_simp) ?_
 iterate 3 (refine wpM_p (fun K hK=>?_); go_simp; refine hK _ ?_; clear hK K)
 refine wpM_x _ rfl (fun w' hw' _=>?_) ?_
 ·have hg:=gives_exts (hN w' (e0.trans hw'))
  unfold makes
  go_simp
  exact ⟨Ext.refl _,hg⟩
 iterate 2 (refine wpM_p (fun K hK=>?_); go_simp; refine hK _ ?_; clear hK K)
 refine wpM_l _ rfl (fun w' hw' hk=>?_) (fun v4=>?_)
 ·clear hk
  unfold makes
  go_simp
  exact ⟨(Ext.refl _).alloc _,boxC_new hw'.size⟩
 refine wpM_nil ?_
 intro w1 e1 hX
 obtain ⟨d,rfl,hd0,hd1⟩ : BoxC w0.heap.size 36 #[I 0,I 0,I 0,I 0,I 0,I 0] v4 w1:=hX 4
 clear hX hN
 obtain ⟨⟨x0,x1,x2,x3,x4,x5⟩,f0,f1,f2,f3,f4,f5⟩:=box6 hd1
 have e2:=ext_set6 e1 hd0 (I b1.toNat) (I b2.toNat) (I b3.toNat) (I b4.toNat) (I b5.toNat) (I n)
 have hd2:=set6 hd1 (I b1.toNat) (I b2.toNat) (I b3.toNat) (I b4.toNat) (I b5.toNat) (I n)
 go_wp2_with fail
 clear x0 x1 x2 x3 x4 x5 f0 f1 f2 f3 f4 f5 c1 c2 c3 c4 c5 hd1 e1
 generalize hw2 : (((((w1.setCell ⟨d,0,none⟩ (I b1.toNat)).setCell ⟨d,1,none⟩ (I b2.toNat)).setCell ⟨d,2,none⟩ (I b3.toNat)).setCell ⟨d,3,none⟩ (I b4.toNat)).setCell ⟨d,4,none⟩ (I b5.toNat)).setCell ⟨d,5,none⟩ (I n) = w2 at *
 clear hw2 hbw
 refine Calls.exts (refWrongRequest_any (b1.toNat : Int) b2.toNat b3.toNat b4.toNat b5.toNat n w2) (fun w5 e5=>?_)
 have rb:=HB.out w5 (e2.trans e5)
 obtain ⟨⟨z0,z1,z2,z3,z4,z5⟩,f0,f1,f2,f3,f4,f5⟩:=box6 rb
 have m5 : Ext w w5:=e0.trans (e2.trans e5)
 by_cases hz : wrongRq ⟨b1.toNat,b2.toNat,⟨b3.toNat,b4.toNat,b5.toNat,n⟩⟩ = 0
 ·rw [hz]
  obtain ⟨⟨x0,x1,x2,x3,x4,x5⟩,-⟩:=box6 (block_of hd2 e5)
  have HZ:=Lib.hid hz
  clear hz
  go_wp2
  have rb2:=set6 rb (I b1.toNat) (I b2.toNat) (I b3.toNat) (I b4.toNat) (I b5.toNat) (I n)
  obtain ⟨⟨q0,q1,q2,q3,q4,q5⟩,-⟩:=box6 rb2
  have m6:=ext_set6 m5 (Nat.le_refl w.heap.size) (I b1.toNat) (I b2.toNat) (I b3.toNat) (I b4.toNat) (I b5.toNat) (I n)
  clear x0 x1 x2 x3 x4 x5 z0 z1 z2 z3 z4 z5 f0 f1 f2 f3 f4 f5
  refine bodyPost_ret (by simp [results,Tryz.results36,go_sem,q0,q1,q2,q3,q4,q5]; rfl) rfl ?_
  obtain ⟨h1,h2⟩:=Prod.mk.inj (HN.out HZ.out)
  rw [h1,h2]
  exact ⟨rfl,m6⟩
 ·have hb : (wrongRq ⟨b1.toNat,b2.toNat,⟨b3.toNat,b4.toNat,b5.toNat,n⟩⟩ != 0) = true:=by simpa using hz
  have HZ:=Lib.hid hz
  clear hz
  go_wp2
  have rb2:=set6 rb (I 0) (I 0) (I 0) (I 0) (I 0) (I 0)
  obtain ⟨⟨q0,q1,q2,q3,q4,q5⟩,-⟩:=box6 rb2
  have m6:=ext_set6 m5 (Nat.le_refl w.heap.size) (I 0) (I 0) (I 0) (I 0) (I 0) (I 0)
  clear z0 z1 z2 z3 z4 z5 f0 f1 f2 f3 f4 f5
  refine bodyPost_ret (by simp [results,Tryz.results36,go_sem,q0,q1,q2,q3,q4,q5]; rfl) rfl ?_
  obtain ⟨h1,h2⟩:=Prod.mk.inj (HP.out HZ.out)
  rw [h1,h2]
  exact ⟨rfl,m6⟩

theorem refReadRequest_any (v : Value) (l : List UInt8) (w : World) (hv : Bytes w v l) :
  Calls Tryz.prog 36 #[v] w fun e w'=>e = .returned (.tuple #[RQ (readRq l).1,I (readRq l).2]) ∧ Ext w w':=by
 by_cases hf : l.length = 10 ∧ l.getD 0 0 = 113
 ·obtain ⟨b1,b2,b3,b4,b5,b6,b7,b8,b9,rfl⟩:=ten_of hf
  exact refReadRequest_read v b1 b2 b3 b4 b5 b6 b7 b8 b9 w hv
 ·exact refReadRequest_form v l w hv hf

set_option maxHeartbeats 1000000 in
theorem refReadAnswer_form (v : Value) (l : List UInt8) (w : World) (hv : Bytes w v l) (hf : ¬ (l.length = 8 ∧ l.getD 0 0 = 97)) :
  Calls Tryz.prog 64 #[v] w fun e w'=>e = .returned (.tuple #[AN (readAn l).1,I (readAn l).2]) ∧ Ext w w':=by
 rw [readAn_form hf]
 obtain ⟨ao,cap,rfl,h1,h2,h3⟩:=hv.form
 unfold maxLen at h2
 clear hv
 by_cases hl : l.length = 8
 ·obtain ⟨b,off,rfl,hc⟩:=h3 0 (by omega)
  have hm : ¬ l.getD 0 0 = 97:=fun h=>hf ⟨hl,h⟩
  clear h3 hf
  simp only [Nat.add_zero] at hc
  rw [hl] at h1 ⊢
  generalize l.getD 0 0 = x at *
  have hu : ((x.toNat : Int) != 97) = true:=by
   rw [bne_iff_ne]
   intro h
   exact hm (UInt8.toNat_inj.1 (show x.toNat = 97 by omega))
  replace hc:=((Ext.refl w).alloc (.cells #[I 0,I 0,I 0,I 0] 59)).cell hc
  clear hm hl
  go_enter Tryz.func64,Tryz.ntmps64
  go_wp2
  refine bodyPost_ret (by simp [results,Tryz.results64,go_sem]; rfl) rfl ?_
  exact ⟨rfl,(Ext.refl w).alloc _⟩
 ·have hne : (((l.length : Int)) != 8) = true:=by rw [bne_iff_ne]; omega
  clear h3 hf hl
  go_enter Tryz.func64,Tryz.ntmps64
  go_wp2
  refine bodyPost_ret (by simp [results,Tryz.results64,go_sem]; rfl) rfl ?_
  exact ⟨rfl,(Ext.refl w).alloc _⟩

set_option maxHeartbeats 1000000 in
theorem refReadAnswer_read (v : Value) (b1 b2 b3 b4 b5 b6 b7 : UInt8) (w : World) (hv : Bytes w v [97,b1,b2,b3,b4,b5,b6,b7]) :
  Calls Tryz.prog 64 #[v] w fun e w'=>e = .returned (.tuple #[AN (readAn [97,b1,b2,b3,b4,b5,b6,b7]).1,I (readAn [97,b1,b2,b3,b4,b5,b6,b7]).2]) ∧ Ext w w':=by
 have hneg : wrongAn ⟨b1.toNat,b2.toNat,⟨b3.toNat,numB [b4,b5,b6,b7]⟩⟩ = 0 → readAn [97,b1,b2,b3,b4,b5,b6,b7] = (⟨b1.toNat,b2.toNat,⟨b3.toNat,numB [b4,b5,b6,b7]⟩⟩,0):=fun h=>if_neg (show ¬ (wrongAn ⟨b1.toNat,b2.toNat,⟨b3.toNat,numB [b4,b5,b6,b7]⟩⟩ ≠ 0) from fun k=>k h)
 have hpos : ¬ wrongAn ⟨b1.toNat,b2.toNat,⟨b3.toNat,numB [b4,b5,b6,b7]⟩⟩ = 0 → readAn [97,b1,b2,b3,b4,b5,b6,b7] = (zeroAn,wrongAn ⟨b1.toNat,b2.toNat,⟨b3.toNat,numB [b4,b5,b6,b7]⟩⟩):=fun h=>if_pos (show wrongAn ⟨b1.toNat,b2.toNat,⟨b3.toNat,numB [b4,b5,b6,b7]⟩⟩ ≠ 0 from h)
 generalize readAn [97,b1,b2,b3,b4,b5,b6,b7] = RR at *
 obtain ⟨R,E⟩:=RR
 obtain ⟨b,off,cap,rfl,hc1,hc2,⟨c0,c1,c2,c3⟩,h6⟩:=bytes8 hv
 have hN:=fun wx (h : Ext w wx)=>num_any _ b4 b5 b6 b7 wx (h6.ext h)
 unfold maxLen at hc2
 clear hv h6
 generalize numB [b4,b5,b6,b7] = n at *
 have HN:=Lib.hid hneg
 have HP:=Lib.hid hpos
 clear hneg hpos
 have hk6 : ¬ cap = 4:=by omega
 have hbw:=wrap_byte
 have e0 : Ext w (w.alloc (.cells #[I 0,I 0,I 0,I 0] 59)):=(Ext.refl w).alloc _
 have HB:=Lib.hid (fun wx (h : Ext (w.alloc (.cells #[I 0,I 0,I 0,I 0] 59)) wx)=>block_ext h)
 replace c0:=e0.cell c0
 replace c1:=e0.cell c1
 replace c2:=e0.cell c2
 replace c3:=e0.cell c3
 go_enter Tryz.func64,Tryz.ntmps64
 go_wp2_with fail
 generalize hw0 : w.alloc (.cells #[I 0,I 0,I 0,I 0] 59) = w0 at *
 have HW0:=Lib.hid hw0
 clear hw0 c0
 refine wp_region_mono_tail 18 [none,none,none,none,none,none,none,none,none,none,none,none,none,none,some (.inl (I n)),none,none,some (.inr (BoxC w0.heap.size 59 #[I 0,I 0,I 0,I 0]))] (by kernel_rfl) (by kernel_rfl) ?_ ?_
 ·exact ⟨trivial,trivial,trivial,trivial,trivial,trivial,trivial,trivial,trivial,trivial,trivial,trivial,trivial,trivial,trivial,trivial,trivial,monoBoxC _ _ _,trivial⟩
 iterate 2 (refine wpM_p (fun K hK=>?_); go_simp; refine hK _ ?_; clear hK K)
 refine wpM_q (U b1) rfl (fun w' hw'=>by have q0:=hw'.cell c1; go_simp) ?_
 iterate 3 (refine wpM_p (fun K hK=>?_); go_simp; refine hK _ ?_; clear hK K)
 refine wpM_q (U b2) rfl (fun w' hw'=>by have q0:=hw'.cell c2; go_simp) ?_
 iterate 3 (refine wpM_p (fun K hK=>?_); go_simp; refine hK _ ?_; clear hK K)
 refine wpM_q (U b3) rfl (fun w' hw'=>by have q0:=hw'.cell c3; go_simp) ?_
 iterate 3 (refine wpM_p (fun K hK=>?_); go_simp; refine hK _ ?_; clear hK K)
 refine wpM_x _ rfl (fun w' hw' _=>?_) ?_
 ·have hg:=gives_exts (hN w' (e0.trans hw'))
  unfold makes
  go_simp
  exact ⟨Ext.refl _,hg⟩
 iterate 2 (refine wpM_p (fun K hK=>?_); go_simp; refine hK _ ?_; clear hK K)
 refine wpM_l _ rfl (fun w' hw' hk=>?_) (fun v4=>?_)
 ·clear hk
  unfold makes
  go_simp
  exact ⟨(Ext.refl _).alloc _,boxC_new hw'.size⟩
 refine wpM_nil ?_
 intro w1 e1 hX
 obtain ⟨d,rfl,hd0,hd1⟩ : BoxC w0.heap.size 59 #[I 0,I 0,I 0,I 0] v4 w1:=hX 4
 clear hX hN
 obtain ⟨x0,x1,x2,x3,f0,f1,f2,f3⟩:=box4 hd1
 have e2:=ext_set4 e1 hd0 (I b1.toNat) (I b2.toNat) (I b3.toNat) (I n)
 have hd2:=set4 hd1 (I b1.toNat) (I b2.toNat) (I b3.toNat) (I n)
 go_wp2_with fail
 clear x0 x1 x2 x3 f0 f1 f2 f3 c1 c2 c3 hd1 e1
 generalize hw2 : (((w1.setCell ⟨d,0,none⟩ (I b1.toNat)).setCell ⟨d,1,none⟩ (I b2.toNat)).setCell ⟨d,2,none⟩ (I b3.toNat)).setCell ⟨d,3,none⟩ (I n) = w2 at *
 clear hw2 hbw
 refine Calls.exts (refWrongAnswer_any (b1.toNat : Int) b2.toNat b3.toNat n w2) (fun w5 e5=>?_)
 have rb:=HB.out w5 (e2.trans e5)
 obtain ⟨z0,z1,z2,z3,f0,f1,f2,f3⟩:=box4 rb
 have m5 : Ext w w5:=e0.trans (e2.trans e5)
 by_cases hz : wrongAn ⟨b1.toNat,b2.toNat,⟨b3.toNat,n⟩⟩ = 0
 ·rw [hz]
  obtain ⟨x0,x1,x2,x3,-⟩:=box4 (block_of hd2 e5)
  have HZ:=Lib.hid hz
  clear hz
  go_wp2
  have rb2:=set4 rb (I b1.toNat) (I b2.toNat) (I b3.toNat) (I n)
  obtain ⟨q0,q1,q2,q3,-⟩:=box4 rb2
  have m6:=ext_set4 m5 (Nat.le_refl w.heap.size) (I b1.toNat) (I b2.toNat) (I b3.toNat) (I n)
  clear x0 x1 x2 x3 z0 z1 z2 z3 f0 f1 f2 f3
  refine bodyPost_ret (by simp [results,Tryz.results64,go_sem,q0,q1,q2,q3]; rfl) rfl ?_
  obtain ⟨h1,h2⟩:=Prod.mk.inj (HN.out HZ.out)
  rw [h1,h2]
  exact ⟨rfl,m6⟩
 ·have hb : (wrongAn ⟨b1.toNat,b2.toNat,⟨b3.toNat,n⟩⟩ != 0) = true:=by simpa using hz
  have HZ:=Lib.hid hz
  clear hz
  go_wp2
  have rb2:=set4 rb (I 0) (I 0) (I 0) (I 0)
  obtain ⟨q0,q1,q2,q3,-⟩:=box4 rb2
  have m6:=ext_set4 m5 (Nat.le_refl w.heap.size) (I 0) (I 0) (I 0) (I 0)
  clear z0 z1 z2 z3 f0 f1 f2 f3
  refine bodyPost_ret (by simp [results,Tryz.results64,go_sem,q0,q1,q2,q3]; rfl) rfl ?_
  obtain ⟨h1,h2⟩:=Prod.mk.inj (HP.out HZ.out)
  rw [h1,h2]
  exact ⟨rfl,m6⟩

theorem refReadAnswer_any (v : Value) (l : List UInt8) (w : World) (hv : Bytes w v l) :
  Calls Tryz.prog 64 #[v] w fun e w'=>e = .returned (.tuple #[AN (readAn l).1,I (readAn l).2]) ∧ Ext w w':=by
 by_cases hf : l.length = 8 ∧ l.getD 0 0 = 97
 ·obtain ⟨b1,b2,b3,b4,b5,b6,b7,rfl⟩:=eight_of hf
  exact refReadAnswer_read v b1 b2 b3 b4 b5 b6 b7 w hv
 ·exact refReadAnswer_form v l w hv hf

end Go.Proofs.YtdmipnnfooleladGreat

namespace Go.Proofs.YtdmipnnfooleladGreat
open Go.RowKit Go.Mk
set_option maxRecDepth 100000

/-- Answers, place by place. -/
theorem ans_form {w : World} {v : Value} {l : List An} (h : RowOf 4 elAn w v l) : ∃ ao cap,v = .slice ao l.length cap ∧ l.length ≤ cap ∧ cap ≤ maxLen ∧
  ∀ k x,l[k]? = some x → ∃ b off,ao = some ⟨b,off,none⟩ ∧ w.cell? ⟨b,off + k * 4,none⟩ = some (I x.client) ∧ w.cell? ⟨b,off + k * 4 + 1,none⟩ = some (I x.token) ∧ w.cell? ⟨b,off + k * 4 + 2,none⟩ = some (I x.reply.err) ∧ w.cell? ⟨b,off + k * 4 + 3,none⟩ = some (I x.reply.n):=by
 obtain ⟨ao,cap,h1,h2,h3,-,h5⟩:=h.form (by decide)
 refine ⟨ao,cap,h1,h2,h3,fun k x hx=>?_⟩
 obtain ⟨b,off,c,e,-,hc,hcell⟩:=h5 k x hx
 have hc : c = [I x.client,I x.token,I x.reply.err,I x.reply.n]:=hc
 subst hc
 exact ⟨b,off,e,hcell 0 _ rfl,by rw [Nat.add_assoc]; exact hcell 1 _ rfl,by rw [Nat.add_assoc]; exact hcell 2 _ rfl,by rw [Nat.add_assoc]; exact hcell 3 _ rfl⟩

theorem last_hit {l : List An} {k : Nat} {x : An} {n : Int} (h : l[k]? = some x) (hn : x.client = n) : lastAn (l.drop k) n = (x,true):=by
 have hk : k < l.length:=(List.getElem?_eq_some_iff.1 h).1
 rw [List.drop_eq_getElem_cons hk,(List.getElem?_eq_some_iff.1 h).2]
 exact if_pos hn
theorem last_miss {l : List An} {k : Nat} {x : An} {n : Int} (h : l[k]? = some x) (hn : ¬ x.client = n) : lastAn (l.drop k) n = lastAn (l.drop (k + 1)) n:=by
 have hk : k < l.length:=(List.getElem?_eq_some_iff.1 h).1
 rw [List.drop_eq_getElem_cons hk,(List.getElem?_eq_some_iff.1 h).2]
 exact if_neg hn
theorem last_end {l : List An} {k : Nat} {n : Int} (h : l.length ≤ k) : lastAn (l.drop k) n = (zeroAn,false):=by
 rw [List.drop_of_length_le h]
 rfl

set_option maxHeartbeats 1000000 in
theorem refLast_any (c u a p : Value) (s : St) (n : Int) (w : World) (h : elSt w [c,u,a,p] s) :
  Calls Tryz.prog 17 #[.agg #[c,u,a,p],I n] w fun e w'=>e = .returned (.tuple #[AN (lastAn s.answers n).1,.bool (lastAn s.answers n).2]) ∧ Ext w w':=by
 obtain ⟨h1,h2,h3,h4⟩:=st_iff.1 h
 clear h h1 h2 h4
 obtain ⟨aa,ac,rfl,g1,g2,g3⟩:=ans_form h3
 unfold maxLen at g2
 clear h3
 generalize hl : s.answers = l at *
 clear hl
 obtain ⟨RA,RB,hRR⟩ : ∃ RA RB,lastAn l n = (RA,RB):=⟨_,_,rfl⟩
 have HR:=Lib.hid hRR
 rw [hRR]
 clear hRR
 have HG:=Lib.hid g3
 clear g3
 go_enter Tryz.func17,Tryz.ntmps17
 go_wp2
 go_loop [10] (fun i=>∃ k : Nat,k ≤ l.length ∧ i = I k ∧ lastAn (l.drop k) n = (RA,RB)) (fun i=>l.length - (intOf i).toNat)
 case atStart=>exact ⟨0,by omega,rfl,HR.out⟩
 case round =>
  obtain ⟨k,hk,rfl,hf⟩:=hrel
  have HF:=Lib.hid hf
  clear hf
  have e0 : Ext w ((w.alloc (.cells #[c,u,.slice aa l.length ac,p] 31)).alloc (.cells #[I 0,I 0,I 0,I 0] 59)):=((Ext.refl w).alloc _).alloc _
  by_cases hlt : k < l.length
  ·obtain ⟨x,hx⟩ : ∃ x,l[k]? = some x:=⟨l[k],List.getElem?_eq_getElem hlt⟩
   obtain ⟨b,off,rfl,c0,c1,c2,c3⟩:=HG.out k x hx
   have HX:=Lib.hid hx
   clear hx
   replace c0:=e0.cell c0
   replace c1:=e0.cell c1
   replace c2:=e0.cell c2
   replace c3:=e0.cell c3
   obtain ⟨xc,xt,⟨xe,xn⟩⟩:=x
   by_cases hc : xc = n
   ·have hb : (xc == n) = true:=by simpa using hc
    have HC:=Lib.hid hc
    clear hc
    go_wp2
    refine bodyPost_ret (by simp [results,Tryz.results17,go_sem]; rfl) rfl ?_
    have:=last_hit HX.out HC.out
    rw [HF.out] at this
    obtain ⟨rfl,rfl⟩:=Prod.mk.inj this
    exact ⟨rfl,((Ext.refl w).alloc _).alloc _⟩
   ·have hb : (xc == n) = false:=by simpa using hc
    have HC:=Lib.hid hc
    clear hc
    go_wp2
    go_round
    case rel=>exact ⟨k + 1,by omega,by go_num,by rw [← last_miss HX.out HC.out]; exact HF.out⟩
    case measure=>simp [intOf]; omega
  ·go_wp2
   refine bodyPost_ret (by simp [results,Tryz.results17,go_sem]; rfl) rfl ?_
   have:=HF.out
   rw [last_end (by omega)] at this
   obtain ⟨rfl,rfl⟩:=Prod.mk.inj this
   exact ⟨rfl,e0⟩

end Go.Proofs.YtdmipnnfooleladGreat

namespace Go.Proofs.YtdmipnnfooleladGreat
open Go.RowKit Go.Mk
set_option maxRecDepth 100000

/-! Answers, as they are put. -/

theorem put_none {l : List An} {a : An} (h : ∀ x ∈ l,x.client ≠ a.client) : putAn l a = l ++ [a]:=by
 induction l with
 | nil=>rfl
 | cons x l ih =>
  unfold putAn
  rw [if_neg (h x (by simp)),ih (fun y hy=>h y (by simp [hy]))]
  rfl
theorem put_hit {l : List An} {x a : An} (h : ∀ x ∈ l,x.client ≠ a.client) (hx : x.client = a.client) : putAn (l ++ [x]) a = l ++ [a]:=by
 induction l with
 | nil=>exact if_pos hx
 | cons y l ih =>
  have hy : ¬ y.client = a.client:=h y (by simp)
  show (if y.client = a.client then a :: (l ++ [x]) else y :: putAn (l ++ [x]) a) = _
  rw [if_neg hy,ih (fun y hy=>h y (by simp [hy]))]
  rfl
theorem put_after {l : List An} {x a : An} (h : ∃ y ∈ l,y.client = a.client) : putAn (l ++ [x]) a = putAn l a ++ [x]:=by
 induction l with
 | nil=>obtain ⟨y,hy,_⟩:=h; cases hy
 | cons y l ih =>
  show (if y.client = a.client then a :: (l ++ [x]) else y :: putAn (l ++ [x]) a) = (if y.client = a.client then a :: l else y :: putAn l a) ++ [x]
  by_cases hy : y.client = a.client
  ·rw [if_pos hy,if_pos hy]; rfl
  ·rw [if_neg hy,if_neg hy,ih]
   ·rfl
   ·obtain ⟨z,hz,e⟩:=h
    rcases List.mem_cons.1 hz with rfl | hz
    ·exact absurd e hy
    ·exact ⟨z,hz,e⟩
theorem put_len {l : List An} {a : An} (h : ∃ y ∈ l,y.client = a.client) : (putAn l a).length = l.length:=by
 induction l with
 | nil=>obtain ⟨y,hy,_⟩:=h; cases hy
 | cons y l ih =>
  show (if y.client = a.client then a :: l else y :: putAn l a).length = _
  by_cases hy : y.client = a.client
  ·rw [if_pos hy]; rfl
  ·rw [if_neg hy,List.length_cons,ih]
   ·rfl
   ·obtain ⟨z,hz,e⟩:=h
    rcases List.mem_cons.1 hz with rfl | hz
    ·exact absurd e hy
    ·exact ⟨z,hz,e⟩

def cellsA (l : List An) : List Value:=l.flatMap fun x=>[I x.client,I x.token,I x.reply.err,I x.reply.n]
theorem length_cellsA (l : List An) : (cellsA l).length = l.length * 4:=by
 unfold cellsA
 induction l with
 | nil=>rfl
 | cons p l ih=>simp [List.flatMap_cons,ih]; omega
theorem cellsA_append (l m : List An) : cellsA (l ++ m) = cellsA l ++ cellsA m:=by simp [cellsA]
theorem cellsA_one (l : List An) : ∀ u ∈ cellsA l,u.oneCell' = true:=by
 intro u hu
 unfold cellsA at hu
 rw [List.mem_flatMap] at hu
 obtain ⟨p,_,hp⟩:=hu
 simp at hp
 rcases hp with rfl | rfl | rfl | rfl <;> rfl
theorem rd_anss {base e n : Nat} {v : Value} {l : List An} {w : World} (h : w.ownsRow base e 4 v n (cellsA l)) : Rd (fun k=>base ≤ k) (fun w=>RowOf 4 elAn w v l) w:=by
 have hl : l.length = n:=by have:=h.1; rw [length_cellsA] at this; omega
 subst hl
 exact (rd_owns h).imp fun w h=>(rowOf_flat (f:=fun (x : An)=>[I x.client,I x.token,I x.reply.err,I x.reply.n]) (fun _=>rfl)).2 h

theorem Tryz.infoAnswer : (Tryz.prog.info? 59).map (fun i=>(i.zero,i.size,i.bytes)) = some (some (.agg #[.int .i64 0,.int .i64 0,.int .i64 0,.int .i64 0]),4,32):=by kernel_rfl
theorem Tryz.infoRequest : (Tryz.prog.info? 36).map (fun i=>(i.zero,i.size,i.bytes)) = some (some (.agg #[.int .i64 0,.int .i64 0,.int .i64 0,.int .i64 0,.int .i64 0,.int .i64 0]),6,48):=by kernel_rfl

/-- How far the answers have been put. -/
def PutTo (l : List An) (a : An) (k : Nat) (d : Bool) (m : List An) : Prop :=
 (d = false ∧ (∀ x ∈ l.take k,x.client ≠ a.client) ∧ m = l.take k) ∨ (d = true ∧ (∃ x ∈ l.take k,x.client = a.client) ∧ m = putAn (l.take k) a)
theorem PutTo.len {l : List An} {a : An} {k : Nat} {d : Bool} {m : List An} (h : PutTo l a k d m) (hk : k ≤ l.length) : m.length = k:=by
 rcases h with ⟨_,_,rfl⟩ | ⟨_,h,rfl⟩
 ·rw [List.length_take]; omega
 ·rw [put_len h,List.length_take]; omega
theorem PutTo.hit {l : List An} {a x : An} {k : Nat} {m : List An} (h : PutTo l a k false m) (hx : l[k]? = some x) (hc : x.client = a.client) : PutTo l a (k + 1) true (m ++ [a]):=by
 rcases h with ⟨_,h,rfl⟩ | ⟨h,_⟩
 ·right
  rw [List.take_add_one,hx]
  exact ⟨rfl,⟨x,by simp,hc⟩,(put_hit h hc).symm⟩
 ·cases h
theorem PutTo.miss {l : List An} {a x : An} {k : Nat} {m : List An} (h : PutTo l a k false m) (hx : l[k]? = some x) (hc : ¬ x.client = a.client) : PutTo l a (k + 1) false (m ++ [x]):=by
 rcases h with ⟨_,h,rfl⟩ | ⟨h,_⟩
 ·left
  rw [List.take_add_one,hx]
  refine ⟨rfl,fun y hy=>?_,rfl⟩
  simp at hy
  rcases hy with hy | rfl
  ·exact h y hy
  ·exact hc
 ·cases h
theorem PutTo.after {l : List An} {a x : An} {k : Nat} {m : List An} (h : PutTo l a k true m) (hx : l[k]? = some x) : PutTo l a (k + 1) true (m ++ [x]):=by
 rcases h with ⟨h,_⟩ | ⟨_,h,rfl⟩
 ·cases h
 ·right
  rw [List.take_add_one,hx]
  obtain ⟨y,hy,e⟩:=h
  exact ⟨rfl,⟨y,by simp [hy],e⟩,(put_after ⟨y,hy,e⟩).symm⟩
theorem PutTo.done {l : List An} {a : An} {m : List An} (h : PutTo l a l.length true m) : m = putAn l a:=by
 rcases h with ⟨h,_⟩ | ⟨_,h,rfl⟩
 ·cases h
 ·rw [List.take_length]
theorem PutTo.last {l : List An} {a : An} {m : List An} (h : PutTo l a l.length false m) : m ++ [a] = putAn l a:=by
 rcases h with ⟨_,h,rfl⟩ | ⟨h,_⟩
 ·rw [List.take_length] at *
  exact (put_none h).symm
 ·cases h

theorem five_blocks {w wx : World} {o1 o2 o3 o4 o5 : Obj} (h : Ext (((((w.alloc o1).alloc o2).alloc o3).alloc o4).alloc o5) wx) : wx.heap[w.heap.size]? = some o1 ∧ wx.heap[w.heap.size + 1]? = some o2 ∧ wx.heap[w.heap.size + 1 + 1]? = some o3 ∧ wx.heap[w.heap.size + 1 + 1 + 1]? = some o4 ∧ wx.heap[w.heap.size + 1 + 1 + 1 + 1]? = some o5:=by
 have h3 : Ext (((w.alloc o1).alloc o2).alloc o3) wx:=(((Ext.refl _).alloc o4).alloc o5).trans h
 obtain ⟨a1,a2,a3⟩:=third_block h3
 have a4:=first_block h
 have a5:=second_block h
 exact ⟨a1,a2,a3,by simpa using a4,by simpa using a5⟩

theorem anss_lit0 {w : World} (e : TypeId) (y : An) : Row (w.alloc (.cells #[I y.client,I y.token,I y.reply.err,I y.reply.n] e)) 4 (.slice (some ⟨w.heap.size,0,none⟩) 1 1) 1 (cellsA [y]):=by
 have:=World.ownsRow_lit (base:=0) (e:=e) (size:=4) w #[I y.client,I y.token,I y.reply.err,I y.reply.n] 1 (Nat.zero_le _) (by decide) rfl
 exact Row.of_owns this
theorem anss_lit1 {w : World} (o : Obj) (e : TypeId) (y : An) : Row ((w.alloc o).alloc (.cells #[I y.client,I y.token,I y.reply.err,I y.reply.n] e)) 4 (.slice (some ⟨w.heap.size + 1,0,none⟩) 1 1) 1 (cellsA [y]):=by
 have:=anss_lit0 (w:=w.alloc o) e y
 have e2 : (w.alloc o).heap.size = w.heap.size + 1:=by simp
 rw [e2] at this
 exact this

theorem cells6_one (l : List Rq) : ∀ u ∈ cells6 l,u.oneCell' = true:=by
 intro u hu
 unfold cells6 at hu
 rw [List.mem_flatMap] at hu
 obtain ⟨p,_,hp⟩:=hu
 simp at hp
 rcases hp with rfl | rfl | rfl | rfl | rfl | rfl <;> rfl
theorem cells6_append (l m : List Rq) : cells6 (l ++ m) = cells6 l ++ cells6 m:=by simp [cells6]
theorem rd_rqs {base e n : Nat} {v : Value} {l : List Rq} {w : World} (h : w.ownsRow base e 6 v n (cells6 l)) : Rd (fun k=>base ≤ k) (fun w=>RowOf 6 elRq w v l) w:=by
 have hl : l.length = n:=by have:=h.1; rw [length_cells6] at this; omega
 subst hl
 exact (rd_owns h).imp fun w h=>rowOf_reqs.2 h

set_option maxHeartbeats 4000000 in
theorem refCommit_keeps (c u a p : Value) (s : St) (rc rt rk ra ro rn x n : Int) (w : World) (A : Nat → Prop) (h : Rd A (fun w=>elSt w [c,u,a,p] s) w) (hl : s.answers.length ≤ 1000) (hpl : s.past.length ≤ 1000000) :
  Keeps Tryz.prog 35 #[.agg #[c,u,a,p],RQ ⟨rc,rt,⟨rk,ra,ro,rn⟩⟩,.agg #[I x,I n]] w A (fun r w'=>Agg elSt (commitSt s ⟨rc,rt,⟨rk,ra,ro,rn⟩⟩ ⟨x,n⟩) r w'):=by
 unfold Keeps
 obtain ⟨_,_,_,_,e,h1,h2,h3,h4⟩:=rd_st h
 simp at e
 obtain ⟨rfl,rfl,rfl,rfl⟩:=e
 clear h h2
 obtain ⟨ca,cc,rfl⟩:=row_slice h1.out
 obtain ⟨pa,pc,rfl⟩:=rowOf_slice h4.out
 obtain ⟨aa,ac,rfl,g1,g2,g3⟩:=ans_form h3.out
 unfold maxLen at g2
 have HG:=Lib.hid g3
 have H1:=Lib.hid h1
 have H4:=Lib.hid h4
 clear g3 h1 h3 h4
 have e0 : Ext w (((((w.alloc (.cells #[.slice ca s.cells.length cc,u,.slice aa s.answers.length ac,.slice pa s.past.length pc] 31)).alloc (.cells #[I rc,I rt,I rk,I ra,I ro,I rn] 36)).alloc (.cells #[I x,I n] 39)).alloc (.cells #[.slice none 0 0,.slice none 0 0,.slice none 0 0,.slice none 0 0] 31)).alloc (.cells #[I rc,I rt,I x,I n] 59)):=(((((Ext.refl w).alloc _).alloc _).alloc _).alloc _).alloc _
 have HB:=Lib.hid (fun wx (h : Ext (((((w.alloc (.cells #[.slice ca s.cells.length cc,u,.slice aa s.answers.length ac,.slice pa s.past.length pc] 31)).alloc (.cells #[I rc,I rt,I rk,I ra,I ro,I rn] 36)).alloc (.cells #[I x,I n] 39)).alloc (.cells #[.slice none 0 0,.slice none 0 0,.slice none 0 0,.slice none 0 0] 31)).alloc (.cells #[I rc,I rt,I x,I n] 59)) wx)=>five_blocks h)
 have hsz : (((((w.alloc (.cells #[.slice ca s.cells.length cc,u,.slice aa s.answers.length ac,.slice pa s.past.length pc] 31)).alloc (.cells #[I rc,I rt,I rk,I ra,I ro,I rn] 36)).alloc (.cells #[I x,I n] 39)).alloc (.cells #[.slice none 0 0,.slice none 0 0,.slice none 0 0,.slice none 0 0] 31)).alloc (.cells #[I rc,I rt,I x,I n] 59)).heap.size = w.heap.size + 5:=by simp
 have HSZ:=Lib.hid hsz
 clear hsz
 obtain ⟨i0,hi,hz0,hz1,hz2⟩:=info_parts Tryz.infoAnswer
 have HI:=Lib.hid hi
 clear hi
 go_enter Tryz.func35,Tryz.ntmps35
 go_wp2
 generalize hw1 : ((((w.alloc (.cells #[.slice ca s.cells.length cc,u,.slice aa s.answers.length ac,.slice pa s.past.length pc] 31)).alloc (.cells #[I rc,I rt,I rk,I ra,I ro,I rn] 36)).alloc (.cells #[I x,I n] 39)).alloc (.cells #[.slice none 0 0,.slice none 0 0,.slice none 0 0,.slice none 0 0] 31)).alloc (.cells #[I rc,I rt,I x,I n] 59) = w1 at *
 clear hw1
 go_loopw [8,9,21] (fun o d i wr=>∃ (k : Nat) (m : List An) (db : Bool),k ≤ s.answers.length ∧ i = I k ∧ d = .bool db ∧ PutTo s.answers ⟨rc,rt,⟨x,n⟩⟩ k db m ∧ wr.ownsRow w1.heap.size 59 4 o k (cellsA m) ∧ Ext w1 wr) (fun _ _ i _=>s.answers.length - (intOf i).toNat)
 case atStart=>exact ⟨0,[],false,by omega,rfl,rfl,.inl ⟨rfl,fun x hx=>by simp at hx,by simp⟩,World.ownsRow_nil _ _ _ _,Ext.refl _⟩
 case round =>
  obtain ⟨k,m,db,hk,rfl,rfl,hput,hown,he⟩:=hrel
  by_cases hlt : k < s.answers.length
  ·obtain ⟨y,hy⟩ : ∃ y,s.answers[k]? = some y:=⟨s.answers[k],List.getElem?_eq_getElem hlt⟩
   obtain ⟨b,off,rfl,c0,c1,c2,c3⟩:=HG.out k y hy
   have HY:=Lib.hid hy
   clear hy
   have mr : Ext w wr:=e0.trans he
   replace c0:=mr.cell c0
   replace c1:=mr.cell c1
   replace c2:=mr.cell c2
   replace c3:=mr.cell c3
   obtain ⟨yc,yt,⟨ye,yn⟩⟩:=y
   obtain ⟨-,b1,-,-,b4⟩:=HB.out wr he
   obtain ⟨⟨q0,q1,q2,q3,q4,q5⟩,-⟩:=box6 b1
   obtain ⟨z0,z1,z2,z3,-⟩:=box4 b4
   replace q0:=fun o=>((Ext.refl wr).alloc o).cell q0
   replace z0:=fun o=>((Ext.refl wr).alloc o).cell z0
   replace z1:=fun o=>((Ext.refl wr).alloc o).cell z1
   replace z2:=fun o=>((Ext.refl wr).alloc o).cell z2
   replace z3:=fun o=>((Ext.refl wr).alloc o).cell z3
   have HO:=Lib.hid hown
   have HPT:=Lib.hid hput
   clear hown hput b1 b4 q1 q2 q3 q4 q5
   cases db
   ·by_cases hc : yc = rc
    ·have hb : (yc == rc) = true:=by simpa using hc
     have HC:=Lib.hid hc
     clear hc
     go_wp2_with (at_builtin; refine stop_at ?_)
     unfold Hid
     have hlit:=anss_lit1 (w:=wr) (.cells #[I rc,I rt,I x,I n] 59) 59 ⟨rc,rt,⟨x,n⟩⟩
     have hle:=he.size
     refine wpList_append_row _ rfl (.tmp 35) (.tmp 37) 28 rfl w1.heap.size 59 i0 (.agg #[.int .i64 0,.int .i64 0,.int .i64 0,.int .i64 0]) 4 32 Tryz.underlying28 HI.out hz0 hz1 hz2 rfl (by decide) u8 k (cellsA m) rfl ((HO.out.alloc _).alloc _) _ rfl 1 _ hlit (cellsA_one _) (by omega) (by decide) (by simp; omega) ?_
     intro v' w' ho hg
     have he2 : Ext w1 w':=((he.alloc _).alloc _).grown hg (fun j hj=>(HO.out.lt j hj).1)
     clear hg hlit c0 c1 c2 c3 q0 z0 z1 z2 z3
     go_wp2
     go_roundw
     case rel=>exact ⟨k + 1,m ++ [⟨rc,rt,⟨x,n⟩⟩],true,by omega,by go_num,rfl,HPT.out.hit HY.out HC.out,by rw [cellsA_append]; exact ho,he2⟩
     case measure=>simp [intOf]; omega
    ·have hb : (yc == rc) = false:=by simpa using hc
     have HC:=Lib.hid hc
     clear hc
     go_wp2_with (at_builtin; refine stop_at ?_)
     unfold Hid
     have hlit:=anss_lit1 (w:=wr) (.cells #[I yc,I yt,I ye,I yn] 59) 59 ⟨yc,yt,⟨ye,yn⟩⟩
     have hle:=he.size
     refine wpList_append_row _ rfl (.tmp 35) (.tmp 37) 28 rfl w1.heap.size 59 i0 (.agg #[.int .i64 0,.int .i64 0,.int .i64 0,.int .i64 0]) 4 32 Tryz.underlying28 HI.out hz0 hz1 hz2 rfl (by decide) u8 k (cellsA m) rfl ((HO.out.alloc _).alloc _) _ rfl 1 _ hlit (cellsA_one _) (by omega) (by decide) (by simp; omega) ?_
     intro v' w' ho hg
     have he2 : Ext w1 w':=((he.alloc _).alloc _).grown hg (fun j hj=>(HO.out.lt j hj).1)
     clear hg hlit c0 c1 c2 c3 q0 z0 z1 z2 z3
     go_wp2
     go_roundw
     case rel=>exact ⟨k + 1,m ++ [⟨yc,yt,⟨ye,yn⟩⟩],false,by omega,by go_num,rfl,HPT.out.miss HY.out HC.out,by rw [cellsA_append]; exact ho,he2⟩
     case measure=>simp [intOf]; omega
   ·by_cases hc : yc = rc
    ·have hb : (yc == rc) = true:=by simpa using hc
     clear hc
     go_wp2_with (at_builtin; refine stop_at ?_)
     unfold Hid
     have hlit:=anss_lit1 (w:=wr) (.cells #[I yc,I yt,I ye,I yn] 59) 59 ⟨yc,yt,⟨ye,yn⟩⟩
     have hle:=he.size
     refine wpList_append_row _ rfl (.tmp 35) (.tmp 37) 28 rfl w1.heap.size 59 i0 (.agg #[.int .i64 0,.int .i64 0,.int .i64 0,.int .i64 0]) 4 32 Tryz.underlying28 HI.out hz0 hz1 hz2 rfl (by decide) u8 k (cellsA m) rfl ((HO.out.alloc _).alloc _) _ rfl 1 _ hlit (cellsA_one _) (by omega) (by decide) (by simp; omega) ?_
     intro v' w' ho hg
     have he2 : Ext w1 w':=((he.alloc _).alloc _).grown hg (fun j hj=>(HO.out.lt j hj).1)
     clear hg hlit c0 c1 c2 c3 q0 z0 z1 z2 z3
     go_wp2
     go_roundw
     case rel=>exact ⟨k + 1,m ++ [⟨yc,yt,⟨ye,yn⟩⟩],true,by omega,by go_num,rfl,HPT.out.after HY.out,by rw [cellsA_append]; exact ho,he2⟩
     case measure=>simp [intOf]; omega
    ·have hb : (yc == rc) = false:=by simpa using hc
     clear hc
     go_wp2_with (at_builtin; refine stop_at ?_)
     unfold Hid
     have hlit:=anss_lit1 (w:=wr) (.cells #[I yc,I yt,I ye,I yn] 59) 59 ⟨yc,yt,⟨ye,yn⟩⟩
     have hle:=he.size
     refine wpList_append_row _ rfl (.tmp 35) (.tmp 37) 28 rfl w1.heap.size 59 i0 (.agg #[.int .i64 0,.int .i64 0,.int .i64 0,.int .i64 0]) 4 32 Tryz.underlying28 HI.out hz0 hz1 hz2 rfl (by decide) u8 k (cellsA m) rfl ((HO.out.alloc _).alloc _) _ rfl 1 _ hlit (cellsA_one _) (by omega) (by decide) (by simp; omega) ?_
     intro v' w' ho hg
     have he2 : Ext w1 w':=((he.alloc _).alloc _).grown hg (fun j hj=>(HO.out.lt j hj).1)
     clear hg hlit c0 c1 c2 c3 q0 z0 z1 z2 z3
     go_wp2
     go_roundw
     case rel=>exact ⟨k + 1,m ++ [⟨yc,yt,⟨ye,yn⟩⟩],true,by omega,by go_num,rfl,HPT.out.after HY.out,by rw [cellsA_append]; exact ho,he2⟩
     case measure=>simp [intOf]; omega
  ·have hkl : k = s.answers.length:=by omega
   subst hkl
   clear hlt hk
   have HO:=Lib.hid hown
   have HPT:=Lib.hid hput
   clear hown hput
   cases db
   ·obtain ⟨b0,b1,-,b3,b4⟩:=HB.out wr he
    obtain ⟨z0,z1,z2,z3,-⟩:=box4 b4
    go_wp2_with (at_builtin; refine stop_at ?_)
    unfold Hid
    have hlit:=anss_lit0 (w:=wr) 59 ⟨rc,rt,⟨x,n⟩⟩
    have hle:=he.size
    refine wpList_append_row _ rfl (.tmp 42) (.tmp 44) 28 rfl w1.heap.size 59 i0 (.agg #[.int .i64 0,.int .i64 0,.int .i64 0,.int .i64 0]) 4 32 Tryz.underlying28 HI.out hz0 hz1 hz2 rfl (by decide) u8 s.answers.length (cellsA m) rfl (HO.out.alloc _) _ rfl 1 _ hlit (cellsA_one _) (by omega) (by decide) (by simp; omega) ?_
    intro v' wz ho hg
    have he2 : Ext w1 wz:=(he.alloc _).grown hg (fun j hj=>(HO.out.lt j hj).1)
    rw [← cellsA_append,HPT.out.last] at ho
    clear hg hlit z0 z1 z2 z3 b0 b1 b3 b4
    obtain ⟨b0,b1,-,b3,-⟩:=HB.out wz he2
    obtain ⟨x0,x1,x2,x3,-⟩:=box4 b0
    obtain ⟨⟨r0,r1,r2,r3,r4,r5⟩,-⟩:=box6 b1
    clear b0 b1
    obtain ⟨va,vc,hvs⟩:=rowOf_slice (rd_anss ho).out
    subst hvs
    have HO2:=Lib.hid ho
    clear ho
    obtain ⟨i1,hi1,hy0,hy1,hy2⟩:=info_parts Tryz.infoRequest
    have HI1:=Lib.hid hi1
    clear hi1
    have mz : Ext w wz:=e0.trans he2
    have HP4:=Lib.hid (rowOf_reqs.1 (H4.out.out.ext monoRq mz))
    go_wp2_with fail
    refine wp_region_mono_weak 9 [none,none,none,some (.inr (FullOf wz.heap.size 36 6 0 [])),none,none,some (.inr fun v wx=>wx.ownsRow wz.heap.size 36 6 v (0 + s.past.length) ([] ++ cells6 s.past)),none,some (.inr fun v wx=>Row wx 6 v 1 (cells6 [⟨rc,rt,⟨rk,ra,ro,rn⟩⟩]))] (fun v wx=>wx.ownsRow wz.heap.size 36 6 v (0 + s.past.length + 1) ([] ++ cells6 s.past ++ cells6 [⟨rc,rt,⟨rk,ra,ro,rn⟩⟩])) (by kernel_rfl) (by kernel_rfl) (by kernel_rfl) ?_ (fun v=>monoOwns _ _ _ _ _ v) ?_
    ·exact ⟨trivial,trivial,trivial,monoFull _ _ _ _ _,trivial,trivial,monoOwns _ _ _ _ _,trivial,fun _ _ _ he h=>Row.ext h he,trivial⟩
    iterate 1 (refine wpM_p (fun K hK=>?_); go_simp; first | refine hK _ ?_ | refine ⟨(fun h=>by cases h),hK _ ?_⟩; clear hK K)
    refine wpM_q (.slice ca s.cells.length cc) rfl (fun w' hw'=>by have z0:=hw'.cell x0; go_simp) ?_
    refine wpM_norm (fun K hK=>?_); go_simp; refine hK _ ?_; clear hK K
    iterate 1 (refine wpM_p (fun K hK=>?_); go_simp; first | refine hK _ ?_ | refine ⟨(fun h=>by cases h),hK _ ?_⟩; clear hK K)
    refine wpM_l _ rfl (fun w' hw' hk=>?_) (fun v49=>?_)
    ·have hsz:=hw'.size
     clear hk
     unfold makes
     go_simp
     exact ⟨(Ext.refl _).alloc _,full_lit #[] 0 hsz (by decide) rfl⟩
    refine wpM_norm (fun K hK=>?_); go_simp; refine hK _ ?_; clear hK K
    iterate 1 (refine wpM_p (fun K hK=>?_); go_simp; first | refine hK _ ?_ | refine ⟨(fun h=>by cases h),hK _ ?_⟩; clear hK K)
    refine wpM_q (.slice pa s.past.length pc) rfl (fun w' hw'=>by have z0:=hw'.cell x3; go_simp) ?_
    refine wpM_norm (fun K hK=>?_); go_simp; refine hK _ ?_; clear hK K
    refine wpM_l _ rfl (fun w' hw' hk=>?_) (fun v52=>?_)
    ·have h49 : FullOf wz.heap.size 36 6 0 [] v49 w':=hk 49 (by decide)
     obtain ⟨vv,ww,hrun,hoo,hee⟩:=run_append_full (P:=Tryz.prog) w' wz.heap.size 29 29 36 i1 _ 6 48 Tryz.underlying29 HI1.out hy0 hy1 hy2 rfl (by decide) v49 0 _ h49 (.slice pa s.past.length pc) s.past.length _ (HP4.out.ext hw') (cells6_one _) (by omega) (by decide) hw'.size
     exact makes_append rfl rfl rfl hrun hee hoo
    refine wpM_norm (fun K hK=>?_); go_simp; refine hK _ ?_; clear hK K
    refine wpM_q (RQ ⟨rc,rt,⟨rk,ra,ro,rn⟩⟩) rfl (fun w' hw'=>by have z0:=hw'.cell r0; have z1:=hw'.cell r1; have z2:=hw'.cell r2; have z3:=hw'.cell r3; have z4:=hw'.cell r4; have z5:=hw'.cell r5; go_simp) ?_
    refine wpM_norm (fun K hK=>?_); go_simp; refine hK _ ?_; clear hK K
    refine wpM_l _ rfl (fun w' hw' hk=>?_) (fun v54=>?_)
    ·have hsz:=hw'.size
     clear hk
     unfold makes
     go_simp
     exact ⟨(Ext.refl _).alloc _,Row.of_owns (World.ownsRow_lit (base:=0) (size:=6) w' _ 1 (Nat.zero_le _) (by decide) rfl)⟩
    refine wpM_norm (fun K hK=>?_); go_simp; refine hK _ ?_; clear hK K
    refine wpM_nil ⟨_,_,rfl,rfl,rfl,fun w' hw' hk=>?_,fun v55 w5 e5 ho5=>?_⟩
    ·have h52 : w'.ownsRow wz.heap.size 36 6 v52 (0 + s.past.length) ([] ++ cells6 s.past):=hk 52 (by decide)
     have h54 : Row w' 6 v54 1 (cells6 [⟨rc,rt,⟨rk,ra,ro,rn⟩⟩]):=hk 54 (by decide)
     obtain ⟨vv,ww,hrun,hoo,hgg⟩:=run_append_row (P:=Tryz.prog) w' wz.heap.size 29 29 36 i1 _ 6 48 Tryz.underlying29 HI1.out hy0 hy1 hy2 rfl (by decide) v52 _ _ h52 v54 1 _ h54 (cells6_one _) (by omega) (by decide) hw'.size
     exact ⟨vv,ww,run_append_op rfl rfl rfl hrun,hw'.grown hgg (fun j hj=>(h52.lt j hj).1),hoo⟩
    clear x0 x1 x2 x3 r0 r1 r2 r3 r4 r5
    have hro : Rd (fun k=>wz.heap.size ≤ k) (fun w=>RowOf 6 elRq w v55 (s.past ++ [⟨rc,rt,⟨rk,ra,ro,rn⟩⟩])) w5:=rd_rqs (by simpa [cells6_append] using ho5)
    obtain ⟨pa2,pc2,hps⟩:=rowOf_slice hro.out
    rw [show (s.past ++ [(⟨rc,rt,⟨rk,ra,ro,rn⟩⟩ : Rq)]).length = s.past.length + 1 by simp] at hps
    subst hps
    have HRO:=Lib.hid hro
    clear hro ho5
    have ez5:=e5
    replace e5 : Ext w1 w5:=he2.trans e5
    obtain ⟨-,-,-,b3,-⟩:=HB.out w5 e5
    obtain ⟨y0,y1,y2,y3,f0,f1,f2,f3⟩:=box4 b3
    go_wp2_with fail
    clear y0 y1 y2 y3 f0 f1 f2 f3
    have b5:=set4 b3 (.slice ca s.cells.length cc) (.slice none 0 0) (.slice va (putAn s.answers ⟨rc,rt,⟨x,n⟩⟩).length vc) (.slice pa2 (s.past.length + 1) pc2)
    obtain ⟨q0,q1,q2,q3,-⟩:=box4 b5
    obtain ⟨B,hB⟩:=away A w.heap.size 5
    have n3 : ¬ B (w.heap.size + 1 + 1 + 1):=hB.2.2.1 _ (by omega) (by omega)
    have m6:=ext_set4 (e0.trans e5) (b:=w.heap.size + 1 + 1 + 1) (by omega) (.slice ca s.cells.length cc) (.slice none 0 0) (.slice va (putAn s.answers ⟨rc,rt,⟨x,n⟩⟩).length vc) (.slice pa2 (s.past.length + 1) pc2)
    have hsz:=HSZ.out
    have hle5:=he2.size
    refine bodyPost_ret (by simp [results,Tryz.results35,go_sem,q0,q1,q2,q3]; rfl) rfl ?_
    refine ⟨_,rfl,m6,Rd.widen (A:=B) (agg_rd (st_rd (s:=commitSt s ⟨rc,rt,⟨rk,ra,ro,rn⟩⟩ ⟨x,n⟩) ?_ ?_ ?_ ?_)) (fun k _ h=>hB.2.2.2 k h)⟩
    ·exact (((((H1.out.widen hB.1).ext (e0.trans e5)).set n3 _ _).set n3 _ _).set n3 _ _).set n3 _ _
    ·exact Rd.all fun w=>writes_nil w
    ·exact ((((((rd_anss HO2.out).ext ez5).widen (B:=B) (fun k _ h=>hB.2.1 k (by omega))).set n3 _ _).set n3 _ _).set n3 _ _).set n3 _ _
    ·exact ((((HRO.out.widen (B:=B) (fun k _ h=>hB.2.1 k (by omega))).set n3 _ _).set n3 _ _).set n3 _ _).set n3 _ _
   ·have ho:=HO.out
    rw [HPT.out.done] at ho
    obtain ⟨b0,b1,-,b3,-⟩:=HB.out wr he
    obtain ⟨x0,x1,x2,x3,-⟩:=box4 b0
    obtain ⟨⟨r0,r1,r2,r3,r4,r5⟩,-⟩:=box6 b1
    clear b0 b1
    obtain ⟨va,vc,hvs⟩:=rowOf_slice (rd_anss ho).out
    subst hvs
    have HO2:=Lib.hid ho
    clear ho
    obtain ⟨i1,hi1,hy0,hy1,hy2⟩:=info_parts Tryz.infoRequest
    have HI1:=Lib.hid hi1
    clear hi1
    have mz : Ext w wr:=e0.trans he
    have HP4:=Lib.hid (rowOf_reqs.1 (H4.out.out.ext monoRq mz))
    go_wp2_with fail
    refine wp_region_mono_weak 9 [none,none,none,some (.inr (FullOf wr.heap.size 36 6 0 [])),none,none,some (.inr fun v wx=>wx.ownsRow wr.heap.size 36 6 v (0 + s.past.length) ([] ++ cells6 s.past)),none,some (.inr fun v wx=>Row wx 6 v 1 (cells6 [⟨rc,rt,⟨rk,ra,ro,rn⟩⟩]))] (fun v wx=>wx.ownsRow wr.heap.size 36 6 v (0 + s.past.length + 1) ([] ++ cells6 s.past ++ cells6 [⟨rc,rt,⟨rk,ra,ro,rn⟩⟩])) (by kernel_rfl) (by kernel_rfl) (by kernel_rfl) ?_ (fun v=>monoOwns _ _ _ _ _ v) ?_
    ·exact ⟨trivial,trivial,trivial,monoFull _ _ _ _ _,trivial,trivial,monoOwns _ _ _ _ _,trivial,fun _ _ _ he h=>Row.ext h he,trivial⟩
    iterate 1 (refine wpM_p (fun K hK=>?_); go_simp; first | refine hK _ ?_ | refine ⟨(fun h=>by cases h),hK _ ?_⟩; clear hK K)
    refine wpM_q (.slice ca s.cells.length cc) rfl (fun w' hw'=>by have z0:=hw'.cell x0; go_simp) ?_
    refine wpM_norm (fun K hK=>?_); go_simp; refine hK _ ?_; clear hK K
    iterate 1 (refine wpM_p (fun K hK=>?_); go_simp; first | refine hK _ ?_ | refine ⟨(fun h=>by cases h),hK _ ?_⟩; clear hK K)
    refine wpM_l _ rfl (fun w' hw' hk=>?_) (fun v49=>?_)
    ·have hsz:=hw'.size
     clear hk
     unfold makes
     go_simp
     exact ⟨(Ext.refl _).alloc _,full_lit #[] 0 hsz (by decide) rfl⟩
    refine wpM_norm (fun K hK=>?_); go_simp; refine hK _ ?_; clear hK K
    iterate 1 (refine wpM_p (fun K hK=>?_); go_simp; first | refine hK _ ?_ | refine ⟨(fun h=>by cases h),hK _ ?_⟩; clear hK K)
    refine wpM_q (.slice pa s.past.length pc) rfl (fun w' hw'=>by have z0:=hw'.cell x3; go_simp) ?_
    refine wpM_norm (fun K hK=>?_); go_simp; refine hK _ ?_; clear hK K
    refine wpM_l _ rfl (fun w' hw' hk=>?_) (fun v52=>?_)
    ·have h49 : FullOf wr.heap.size 36 6 0 [] v49 w':=hk 49 (by decide)
     obtain ⟨vv,ww,hrun,hoo,hee⟩:=run_append_full (P:=Tryz.prog) w' wr.heap.size 29 29 36 i1 _ 6 48 Tryz.underlying29 HI1.out hy0 hy1 hy2 rfl (by decide) v49 0 _ h49 (.slice pa s.past.length pc) s.past.length _ (HP4.out.ext hw') (cells6_one _) (by omega) (by decide) hw'.size
     exact makes_append rfl rfl rfl hrun hee hoo
    refine wpM_norm (fun K hK=>?_); go_simp; refine hK _ ?_; clear hK K
    refine wpM_q (RQ ⟨rc,rt,⟨rk,ra,ro,rn⟩⟩) rfl (fun w' hw'=>by have z0:=hw'.cell r0; have z1:=hw'.cell r1; have z2:=hw'.cell r2; have z3:=hw'.cell r3; have z4:=hw'.cell r4; have z5:=hw'.cell r5; go_simp) ?_
    refine wpM_norm (fun K hK=>?_); go_simp; refine hK _ ?_; clear hK K
    refine wpM_l _ rfl (fun w' hw' hk=>?_) (fun v54=>?_)
    ·have hsz:=hw'.size
     clear hk
     unfold makes
     go_simp
     exact ⟨(Ext.refl _).alloc _,Row.of_owns (World.ownsRow_lit (base:=0) (size:=6) w' _ 1 (Nat.zero_le _) (by decide) rfl)⟩
    refine wpM_norm (fun K hK=>?_); go_simp; refine hK _ ?_; clear hK K
    refine wpM_nil ⟨_,_,rfl,rfl,rfl,fun w' hw' hk=>?_,fun v55 w5 e5 ho5=>?_⟩
    ·have h52 : w'.ownsRow wr.heap.size 36 6 v52 (0 + s.past.length) ([] ++ cells6 s.past):=hk 52 (by decide)
     have h54 : Row w' 6 v54 1 (cells6 [⟨rc,rt,⟨rk,ra,ro,rn⟩⟩]):=hk 54 (by decide)
     obtain ⟨vv,ww,hrun,hoo,hgg⟩:=run_append_row (P:=Tryz.prog) w' wr.heap.size 29 29 36 i1 _ 6 48 Tryz.underlying29 HI1.out hy0 hy1 hy2 rfl (by decide) v52 _ _ h52 v54 1 _ h54 (cells6_one _) (by omega) (by decide) hw'.size
     exact ⟨vv,ww,run_append_op rfl rfl rfl hrun,hw'.grown hgg (fun j hj=>(h52.lt j hj).1),hoo⟩
    clear x0 x1 x2 x3 r0 r1 r2 r3 r4 r5
    have hro : Rd (fun k=>wr.heap.size ≤ k) (fun w=>RowOf 6 elRq w v55 (s.past ++ [⟨rc,rt,⟨rk,ra,ro,rn⟩⟩])) w5:=rd_rqs (by simpa [cells6_append] using ho5)
    obtain ⟨pa2,pc2,hps⟩:=rowOf_slice hro.out
    rw [show (s.past ++ [(⟨rc,rt,⟨rk,ra,ro,rn⟩⟩ : Rq)]).length = s.past.length + 1 by simp] at hps
    subst hps
    have HRO:=Lib.hid hro
    clear hro ho5
    have ez5:=e5
    replace e5 : Ext w1 w5:=he.trans e5
    obtain ⟨-,-,-,b3,-⟩:=HB.out w5 e5
    obtain ⟨y0,y1,y2,y3,f0,f1,f2,f3⟩:=box4 b3
    go_wp2_with fail
    clear y0 y1 y2 y3 f0 f1 f2 f3
    have b5:=set4 b3 (.slice ca s.cells.length cc) (.slice none 0 0) (.slice va (putAn s.answers ⟨rc,rt,⟨x,n⟩⟩).length vc) (.slice pa2 (s.past.length + 1) pc2)
    obtain ⟨q0,q1,q2,q3,-⟩:=box4 b5
    obtain ⟨B,hB⟩:=away A w.heap.size 5
    have n3 : ¬ B (w.heap.size + 1 + 1 + 1):=hB.2.2.1 _ (by omega) (by omega)
    have m6:=ext_set4 (e0.trans e5) (b:=w.heap.size + 1 + 1 + 1) (by omega) (.slice ca s.cells.length cc) (.slice none 0 0) (.slice va (putAn s.answers ⟨rc,rt,⟨x,n⟩⟩).length vc) (.slice pa2 (s.past.length + 1) pc2)
    have hsz:=HSZ.out
    have hle5:=he.size
    refine bodyPost_ret (by simp [results,Tryz.results35,go_sem,q0,q1,q2,q3]; rfl) rfl ?_
    refine ⟨_,rfl,m6,Rd.widen (A:=B) (agg_rd (st_rd (s:=commitSt s ⟨rc,rt,⟨rk,ra,ro,rn⟩⟩ ⟨x,n⟩) ?_ ?_ ?_ ?_)) (fun k _ h=>hB.2.2.2 k h)⟩
    ·exact (((((H1.out.widen hB.1).ext (e0.trans e5)).set n3 _ _).set n3 _ _).set n3 _ _).set n3 _ _
    ·exact Rd.all fun w=>writes_nil w
    ·exact ((((((rd_anss HO2.out).ext ez5).widen (B:=B) (fun k _ h=>hB.2.1 k (by omega))).set n3 _ _).set n3 _ _).set n3 _ _).set n3 _ _
    ·exact ((((HRO.out.widen (B:=B) (fun k _ h=>hB.2.1 k (by omega))).set n3 _ _).set n3 _ _).set n3 _ _).set n3 _ _

end Go.Proofs.YtdmipnnfooleladGreat

namespace Go.Proofs.YtdmipnnfooleladGreat
open Go.RowKit Go.Mk
set_option maxRecDepth 100000

set_option maxHeartbeats 400000 in
theorem nameCell_any (i : Int) (w : World) (h0 : 0 ≤ i) (h1 : i ≤ 4000000000000000000) :
  Calls Tryz.prog 87 #[I i] w fun e w'=>e = .returned (I (1 + 2 * i)) ∧ w' = w:=by
 go_enter Tryz.func87,Tryz.ntmps87
 go_wp2
 go_ret
 exact ⟨rfl,rfl⟩

set_option maxHeartbeats 400000 in
theorem numberCell_any (i : Int) (w : World) (h0 : 0 ≤ i) (h1 : i ≤ 4000000000000000000) :
  Calls Tryz.prog 88 #[I i] w fun e w'=>e = .returned (I (1 + 2 * i + 1)) ∧ w' = w:=by
 go_enter Tryz.func88,Tryz.ntmps88
 go_wp2_with fail
 refine Calls.same (nameCell_any _ _ (by omega) (by omega)) ?_
 go_wp2
 go_ret
 exact ⟨rfl,rfl⟩

set_option maxHeartbeats 400000 in
theorem has_any (v : Value) (xs : List Int) (i : Int) (w : World) (hv : Ints w v xs) :
  Calls Tryz.prog 67 #[v,I i] w fun e w'=>e = .returned (.bool (decide (0 ≤ i ∧ i < (xs.length : Int)))) ∧ w' = w:=by
 obtain ⟨ao,cap,rfl,h1,h2,h3⟩:=hv.form
 unfold maxLen at h2
 clear h3 hv
 by_cases hi : 0 ≤ i
 ·go_enter Tryz.func67,Tryz.ntmps67
  go_wp2
  go_ret
  exact ⟨by simp [hi],rfl⟩
 ·go_enter Tryz.func67,Tryz.ntmps67
  go_wp2
  go_ret
  exact ⟨by simp; omega,rfl⟩

set_option maxHeartbeats 400000 in
theorem entries_any (v : Value) (xs : List Int) (w : World) (hv : Ints w v xs) :
  Calls Tryz.prog 86 #[v] w fun e w'=>e = .returned (I (entriesOf xs)) ∧ w' = w:=by
 obtain ⟨ao,cap,rfl,h1,h2,h3⟩:=hv.form
 unfold maxLen at h2
 clear hv
 by_cases hz : xs.length = 0
 ·go_enter Tryz.func86,Tryz.ntmps86
  go_wp2
  go_ret
  exact ⟨by simp [entriesOf,hz],rfl⟩
 ·obtain ⟨b,off,rfl,hc⟩:=h3 0 (by omega)
  clear h3
  simp only [Nat.add_zero] at hc
  go_enter Tryz.func86,Tryz.ntmps86
  go_wp2
  all_goals
   go_ret
   refine ⟨ret_int ?_,rfl⟩
   unfold entriesOf
   rw [if_neg hz,List.getD_eq_getElem?_getD]
   omega

set_option maxHeartbeats 400000 in
theorem findAmong_any (v : Value) (xs : List Int) (n name : Int) (w : World) (hv : Ints w v xs) (hn : n ≤ 1000000000000000000) (hb : n ≤ 0 ∨ 2 * n < (xs.length : Int)) :
  Calls Tryz.prog 92 #[v,I n,I name] w fun e w'=>e = .returned (I (findIn xs name n.toNat 0)) ∧ w' = w:=by
 obtain ⟨ao,cap,rfl,h1,h2,h3⟩:=hv.form
 unfold maxLen at h2
 clear hv
 go_enter Tryz.func92,Tryz.ntmps92
 go_wp2
 go_loop [9] (fun i=>∃ k : Nat,(k : Int) ≤ max n 0 ∧ i = I k ∧ findIn xs name n.toNat 0 = findIn xs name (n.toNat - k) k) (fun i=>n.toNat - (intOf i).toNat)
 case atStart=>exact ⟨0,by omega,rfl,rfl⟩
 case round =>
  obtain ⟨k,hk,rfl,hf⟩:=hrel
  have HF : Hid (findIn xs name n.toNat 0 = findIn xs name (n.toNat - k) k):=hf
  clear hf
  by_cases hlt : (k : Int) < n
  ·obtain ⟨b,off,rfl,hc⟩:=h3 (1 + 2 * k) (by omega)
   clear h3
   go_wp2_with (go_at_call 87; refine Calls.same (nameCell_any _ _ (by omega) (by omega)) ?_)
   ·go_ret
    exact ⟨ret_int (by rw [HF.out,findIn_hit hlt (by rw [List.getD_eq_getElem?_getD]; assumption)]),rfl⟩
   ·go_round
    case rel=>exact ⟨k + 1,by omega,by go_num,by rw [HF.out,findIn_miss hlt (by rw [List.getD_eq_getElem?_getD]; assumption)]⟩
    case measure=>simp [intOf]; omega
  ·go_wp2
   go_ret
   exact ⟨ret_int (by rw [HF.out,findIn_end (by omega)]),rfl⟩

set_option maxHeartbeats 400000 in
theorem Find_any (v : Value) (xs : List Int) (name : Int) (w : World) (hv : Ints w v xs) (hl : xs.length ≤ 1000000000000000000) :
  Calls Tryz.prog 77 #[v,I name] w fun e w'=>e = .returned (I (findIn xs name (entriesOf xs).toNat 0)) ∧ w' = w:=by
 go_enter Tryz.func77,Tryz.ntmps77
 go_wp2_with fail
 refine Calls.same (entries_any v xs _ hv) ?_
 have he : entriesOf xs ≤ 1000000000000000000:=by unfold entriesOf; split <;> omega
 have hb : entriesOf xs ≤ 0 ∨ 2 * entriesOf xs < (xs.length : Int):=by unfold entriesOf; split <;> omega
 go_wp2_with fail
 refine Calls.same (findAmong_any v xs (entriesOf xs) name _ hv he hb) ?_
 go_wp2
 go_ret
 exact ⟨rfl,rfl⟩

end Go.Proofs.YtdmipnnfooleladGreat

namespace Go.Proofs.YtdmipnnfooleladGreat
open Go.RowKit Go.Mk
set_option maxRecDepth 100000

set_option maxHeartbeats 400000 in
theorem own_any (v : Value) (xs : List Int) (w : World) (hv : Ints w v xs) (hr : xs.length * 8 ≤ 140737488355328) :
  Calls Tryz.prog 66 #[v] w fun e w'=>e = .returned (.slice (some ⟨w.heap.size,0,none⟩) xs.length xs.length) ∧ w'.ownsRow w.heap.size 3 1 (.slice (some ⟨w.heap.size,0,none⟩) xs.length xs.length) xs.length (xs.map I) ∧ Ext w w':=by
 obtain ⟨i0,hi,hz0,hz1,hz2⟩:=info_parts Tryz.infoInt
 obtain ⟨hlen,ao,cap,rfl,h1,h2,h0,h3⟩:=hv
 unfold maxLen at h2
 go_enter Tryz.func66,Tryz.ntmps66
 go_wp2_with (at_make; refine wpList_make_full _ rfl _ _ 26 rfl w.heap.size 3 i0 (.int .i64 0) 1 Tryz.underlying26 hi hz0 hz1 .i64 .i64 _ _ xs.length rfl rfl rfl rfl (by rw [hz2]; omega) (by unfold maxLen; omega) (Nat.le_refl _) ?_; intro w1 hown hgrow)
 have he1 : Ext w w1:=(Ext.refl w).grown hgrow (fun k hk=>by cases hk)
 obtain ⟨w2,hrun,hown2,hgrow2⟩:=run_copy_all (P:=Tryz.prog) w1 26 3 3 Tryz.underlying26 Tryz.infoInt1 w.heap.size w.heap.size xs.length _ (xs.map I) _ hown (Row.ext ⟨hlen,ao,cap,rfl,h1,h2,h0,h3⟩ he1) (mapI_one xs)
 have he2 : Ext w w2:=he1.grown hgrow2 (fun k hk=>by cases hk; exact Nat.le_refl _)
 rw [hrun]
 clear hrun hown hgrow hgrow2 he1 h3
 go_wp2
 go_ret
 exact ⟨rfl,hown2,he2⟩

set_option maxHeartbeats 1000000 in
theorem Set_own (v u : Value) (xs : List Int) (l : List (Int × Int)) (w : World) (hv : Ints w v xs) (hu : Writes w u l) (hr : xs.length * 8 ≤ 140737488355328) (hr2 : l.length * 16 ≤ 140737488355328) :
  Gives Tryz.prog 55 #[v,u] w fun r w'=>∃ n,w'.ownsRow w.heap.size 3 1 r n ((setAll xs l).map I):=by
 unfold Gives
 obtain ⟨ao,cap,rfl,h1,h2,h3⟩:=hu.form
 unfold maxLen at h2
 go_enter Tryz.func55,Tryz.ntmps55
 go_wp2_with fail
 refine (own_any v xs _ hv hr).mono ?_
 rintro e w1 ⟨rfl,hown,he⟩
 generalize hg : w.heap.size = g at hown ⊢
 have HG : Hid (w.heap.size = g):=hg
 clear hg
 go_wp2_with fail
 go_loopw [12] (fun i wr=>∃ k : Nat,k ≤ l.length ∧ i = I k ∧ wr.ownsRow g 3 1 (.slice (some ⟨g,0,none⟩) xs.length xs.length) xs.length ((setAll xs (l.take k)).map I) ∧ Ext w wr) (fun i _=>l.length - (intOf i).toNat)
 case atStart=>exact ⟨0,by omega,rfl,hown,he⟩
 case round =>
  obtain ⟨k,hk,rfl,hown',he'⟩:=hrel
  clear hown he
  by_cases hlt : k < l.length
  ·obtain ⟨b,off,rfl,hc1,hc2⟩:=h3 k hlt
   clear h3
   have hd1:=he'.cell hc1
   have hd2:=he'.cell hc2
   clear hc1 hc2
   generalize hp : l.getD k (0,0) = p at hd1 hd2
   have HP : Hid (l[k]? = some p):=by unfold Hid; rw [← hp]; simp [hlt]
   clear hp
   obtain ⟨at_,n⟩:=p
   simp only [] at hd1 hd2
   have hyl : (setAll xs (l.take k)).length = xs.length:=length_setAll _ _
   have HN : Hid (setAll xs (l.take (k + 1)) = set1 (setAll xs (l.take k)) (at_,n)):=by unfold Hid; rw [List.take_add_one,HP.out]; exact setAll_snoc _ _ _
   generalize setAll xs (l.take k) = ys at hown' HN hyl
   have HYL : Hid (ys.length = xs.length):=hyl
   clear hyl
   have hown2:=fun o=>hown'.alloc o
   have fz : ∀ o,(wr.alloc o).frozen? ⟨g,at_.toNat,none⟩ = false:=fun o=>(hown2 o).frozenAt _
   by_cases hin : 0 ≤ at_ ∧ at_ < (xs.length : Int)
   ·obtain ⟨i1,i2⟩:=hin
    have hc : ∀ o,(wr.alloc o).cell? ⟨g,at_.toNat,none⟩ = some (I (ys.getD at_.toNat 0)):=fun o=>by
     rw [(hown2 o).cellAt _ (by omega)]
     have : at_.toNat < ys.length:=by rw [HYL.out]; omega
     simp [this]
    have i3 : at_ < (ys.length : Int):=by rw [HYL.out]; exact i2
    go_wp2_with (go_at_call 67; refine Calls.same (has_any _ ys at_ _ (ints_of_owns (hown2 _))) ?_)
    go_roundw
    case rel =>
     refine ⟨k + 1,by omega,by go_num,?_,(he'.alloc _).setCell (by rw [HG.out]; exact Nat.le_refl _) _⟩
     rw [HN.out]
     unfold set1
     rw [if_pos ⟨i1,i3⟩,List.map_set]
     exact ((hown2 _).stored _ _).1
    case measure=>simp [intOf]; omega
   ·have hdc : decide (0 ≤ at_ ∧ at_ < (ys.length : Int)) = false:=by rw [HYL.out]; simp; omega
    go_wp2_with (go_at_call 67; refine Calls.same (has_any _ ys at_ _ (ints_of_owns (hown2 _))) ?_)
    go_roundw
    case rel =>
     refine ⟨k + 1,by omega,by go_num,?_,he'.alloc _⟩
     rw [HN.out]
     unfold set1
     rw [if_neg (by rw [HYL.out]; exact hin)]
     exact hown2 _
    case measure=>simp [intOf]; omega
  ·go_wp2_with fail
   go_ret
   refine ⟨_,rfl,he',xs.length,?_⟩
   rw [List.take_of_length_le (by omega)] at hown'
   rw [HG.out]
   exact hown'

end Go.Proofs.YtdmipnnfooleladGreat

namespace Go.Proofs.YtdmipnnfooleladGreat
open Go.RowKit Go.Mk
set_option maxRecDepth 100000

set_option maxHeartbeats 1000000 in
theorem reverse_any (v : Value) (us : List (Int × Int)) (n base : Nat) (w : World) (ho : w.ownsRow base 79 2 v n (cells2 us)) (hr : us.length * 16 ≤ 140737488355328) :
  Calls Tryz.prog 68 #[v] w fun e w'=>e = .returned (.tuple #[]) ∧ w'.ownsRow base 79 2 v n (cells2 us.reverse) ∧ w.grownBy w' v.ownBlock:=by
 have hn : us.length = n:=by have:=ho.1; rw [length_cells2] at this; omega
 rcases ho.2 with ⟨rfl,hz⟩ | ⟨g,cap,cur,rfl,hb,hg,hnc,hcm,_⟩
 ·have : us = []:=List.eq_nil_of_length_eq_zero (by omega)
  subst this
  go_enter Tryz.func68,Tryz.ntmps68
  go_wp2
  refine wp_loop_rounds 1 ?_
  rw [rounds_succ]
  go_wp2
  go_end0
  exact ⟨rfl,ho,World.grownBy.refl _ _⟩
 ·clear hg
  unfold maxLen at hcm
  go_enter Tryz.func68,Tryz.ntmps68
  go_wp2
  go_loopw [2,3] (fun i j wr=>∃ k : Nat,2 * k ≤ n ∧ i = I k ∧ j = I ((n : Int) - 1 - k) ∧ wr.ownsRow base 79 2 (.slice (some ⟨g,0,none⟩) n cap) n (cells2 (rv us k)) ∧ w.grownBy wr (some g)) (fun i _ _=>n - (intOf i).toNat)
  case atStart=>exact ⟨0,by omega,rfl,by simp,by rw [rv_zero]; exact ho,World.grownBy.refl _ _⟩
  case round =>
   obtain ⟨k,hk,rfl,rfl,hown,hgr⟩:=hrel
   by_cases hlt : 2 * k + 1 < n
   ·have hlen:=length_rv us k
    obtain ⟨r1,r2⟩:=rv_at us k (by omega)
    obtain ⟨c1,c2⟩:=cells2_at (rv us k) k (by omega)
    obtain ⟨c3,c4⟩:=cells2_at (rv us k) (us.length - 1 - k) (by omega)
    rw [r1] at c1 c2
    rw [r2] at c3 c4
    rw [← hown.cellAt _ (by omega)] at c1 c2 c3 c4
    have HS : Hid (rv us (k + 1) = ((rv us k).set k (us.getD (us.length - 1 - k) (0,0))).set (us.length - 1 - k) (us.getD k (0,0))):=rv_step us k (by omega)
    generalize us.getD k (0,0) = p at *
    generalize us.getD (us.length - 1 - k) (0,0) = q at *
    obtain ⟨p1,p2⟩:=p
    obtain ⟨q1,q2⟩:=q
    simp only [] at c1 c2 c3 c4
    have hj : us.length - 1 - k = n - 1 - k:=by rw [hn]
    rw [hj] at c3 c4 HS
    generalize hJ : n - 1 - k = J at *
    have hJ' : (n : Int) - 1 - k = (J : Int):=by omega
    rw [hJ']
    go_wp2_with fail
    have f1 : wr.frozen? ⟨g,k * 2,none⟩ = false:=hown.frozenAt _
    have f2 : wr.frozen? ⟨g,k * 2 + 1,none⟩ = false:=hown.frozenAt _
    have f3 : wr.frozen? ⟨g,J * 2,none⟩ = false:=hown.frozenAt _
    have f4 : wr.frozen? ⟨g,J * 2 + 1,none⟩ = false:=hown.frozenAt _
    have hJn : J < n:=by omega
    have hkn : k < n:=by omega
    have hkJ : k < J:=by omega
    go_region
    have s1:=hown.stored (k * 2) (I q1)
    have s2:=s1.1.stored (k * 2 + 1) (I q2)
    have s3:=s2.1.stored (J * 2) (I p1)
    have s4:=s3.1.stored (J * 2 + 1) (I p2)
    have hgr' : w.grownBy _ (some g):=grown_trans (grown_trans (grown_trans (grown_trans hgr s1.2) s2.2) s3.2) s4.2
    have hown':=s4.1
    clear s1 s2 s3 s4 c1 c2 c3 c4 f1 f2 f3 f4
    go_wp2
    go_roundw
    case rel =>
     refine ⟨k + 1,by omega,by go_num,by go_num,?_,grown_drew hgr'⟩
     rw [HS.out,cells2_set,cells2_set]
     exact hown'
    case measure=>simp [intOf]; omega
   ·go_wp2
    go_end0
    rw [rv_end us k (by omega)] at hown
    exact ⟨rfl,hown,hgr⟩

set_option maxHeartbeats 1000000 in
theorem Undo_own (v u : Value) (xs : List Int) (l : List (Int × Int)) (w : World) (hv : Ints w v xs) (hu : Writes w u l) (hr : xs.length * 8 ≤ 140737488355328) (hr2 : l.length * 16 ≤ 140737488355328) :
  Gives Tryz.prog 54 #[v,u] w fun r w'=>∃ n,w'.ownsRow w.heap.size 79 2 r n (cells2 (undoAll xs l)):=by
 unfold Gives
 obtain ⟨i0,hi,hz0,hz1,hz2⟩:=info_parts Tryz.infoWrite
 obtain ⟨ao,cap,rfl,h1,h2,h3⟩:=hu.form
 unfold maxLen at h2
 go_enter Tryz.func54,Tryz.ntmps54
 go_wp2_with fail
 refine (own_any v xs _ hv hr).mono ?_
 rintro e w1 ⟨rfl,hown,he⟩
 generalize hg : w.heap.size = g at hown ⊢
 have HG : Hid (w.heap.size = g):=hg
 clear hg
 have hsz1 : g + 1 ≤ w1.heap.size:=(hown.lt g rfl).2
 go_wp2_with fail
 go_loopw [6,13] (fun o i wr=>∃ k : Nat,k ≤ l.length ∧ i = I k ∧ wr.ownsRow g 3 1 (.slice (some ⟨g,0,none⟩) xs.length xs.length) xs.length ((setAll xs (l.take k)).map I) ∧
   wr.ownsRow (g + 1) 79 2 o (undoAll xs (l.take k)).reverse.length (cells2 (undoAll xs (l.take k)).reverse) ∧ g + 1 ≤ wr.heap.size ∧ Ext w wr) (fun _ i _=>l.length - (intOf i).toNat)
 case atStart=>exact ⟨0,by omega,rfl,hown,World.ownsRow_nil _ _ _ _,hsz1,he⟩
 case round =>
  obtain ⟨k,hk,rfl,hown',hout,hsz,he'⟩:=hrel
  clear hown he
  have hul : (undoAll xs (l.take k)).reverse.length ≤ k:=by have:=undoAll_len xs (l.take k); simp at this ⊢; omega
  have h6:=hout.lt
  by_cases hlt : k < l.length
  ·obtain ⟨b,off,rfl,hc1,hc2⟩:=h3 k hlt
   clear h3
   have hd1:=he'.cell hc1
   have hd2:=he'.cell hc2
   clear hc1 hc2
   generalize hp : l.getD k (0,0) = p at hd1 hd2
   have HP : Hid (l[k]? = some p):=by unfold Hid; rw [← hp]; simp [hlt]
   clear hp
   obtain ⟨at_,n⟩:=p
   simp only [] at hd1 hd2
   have hyl : (setAll xs (l.take k)).length = xs.length:=length_setAll _ _
   have HN : Hid (setAll xs (l.take (k + 1)) = set1 (setAll xs (l.take k)) (at_,n)):=by unfold Hid; rw [List.take_add_one,HP.out]; exact setAll_snoc _ _ _
   have HU : Hid ((undoAll xs (l.take (k + 1))).reverse = (undoAll xs (l.take k)).reverse ++ (if 0 ≤ at_ ∧ at_ < (xs.length : Int) then [(at_,(setAll xs (l.take k)).getD at_.toNat 0)] else [])):=by
    unfold Hid
    rw [List.take_add_one,HP.out]
    show (undoAll xs (l.take k ++ [(at_,n)])).reverse = _
    rw [undoAll_snoc,List.reverse_append]
    split <;> simp
   generalize setAll xs (l.take k) = ys at hown' HN HU hyl
   generalize (undoAll xs (l.take k)).reverse = us at hout HU hul
   have HYL : Hid (ys.length = xs.length):=hyl
   clear hyl
   have hown2:=fun o=>hown'.alloc o
   have fz : ∀ o,(wr.alloc o).frozen? ⟨g,at_.toNat,none⟩ = false:=fun o=>(hown2 o).frozenAt _
   by_cases hin : 0 ≤ at_ ∧ at_ < (xs.length : Int)
   ·obtain ⟨i1,i2⟩:=hin
    have hc : ∀ o,(wr.alloc o).cell? ⟨g,at_.toNat,none⟩ = some (I (ys.getD at_.toNat 0)):=fun o=>by
     rw [(hown2 o).cellAt _ (by omega)]
     have : at_.toNat < ys.length:=by rw [HYL.out]; omega
     simp [this]
    have i3 : at_ < (ys.length : Int):=by rw [HYL.out]; exact i2
    go_wp2_with (go_at_call 67; refine Calls.same (has_any _ ys at_ _ (ints_of_owns (hown2 _))) ?_)
    have hout2:=hout.alloc (Obj.cells #[Value.int IntKind.i64 at_,Value.int IntKind.i64 n] 79)
    have hown3:=hown2 (Obj.cells #[Value.int IntKind.i64 at_,Value.int IntKind.i64 n] 79)
    have he3:=he'.alloc (Obj.cells #[Value.int IntKind.i64 at_,Value.int IntKind.i64 n] 79)
    have hsz3 : g + 1 ≤ (wr.alloc (Obj.cells #[Value.int IntKind.i64 at_,Value.int IntKind.i64 n] 79)).heap.size:=by simp; omega
    have e1 : (wr.alloc (Obj.cells #[Value.int IntKind.i64 at_,Value.int IntKind.i64 n] 79)).cell? ⟨wr.heap.size,0,none⟩ = some (I at_):=by simp
    have e1' : (wr.alloc (Obj.cells #[Value.int IntKind.i64 at_,Value.int IntKind.i64 n] 79)).cell? ⟨wr.heap.size,1,none⟩ = some (I n):=by simp
    have e2:=hc (Obj.cells #[Value.int IntKind.i64 at_,Value.int IntKind.i64 n] 79)
    have hwr : wr.heap.size < (wr.alloc (Obj.cells #[Value.int IntKind.i64 at_,Value.int IntKind.i64 n] 79)).heap.size:=by simp
    generalize wr.alloc (Obj.cells #[Value.int IntKind.i64 at_,Value.int IntKind.i64 n] 79) = W at *
    clear hd1 hd2 hown2 fz hc hown' hout hsz he'
    generalize hY : ys.getD at_.toNat 0 = y at *
    refine wp_region_mono_tail 10 [none,none,none,none,none,none,none,none,none,some (.inr fun v w=>Writes w v [(at_,y)])] (by kernel_rfl) (by kernel_rfl) ?_ ?_
    ·exact ⟨trivial,trivial,trivial,trivial,trivial,trivial,trivial,trivial,trivial,monoWrites _,trivial⟩
    iterate 2 (refine wpM_p (fun K hK=>?_); go_simp; refine hK _ ?_; clear hK K)
    refine wpM_q (I at_) rfl (fun w' hw'=>by have:=hw'.cell e1; go_simp) ?_
    iterate 2 (refine wpM_p (fun K hK=>?_); go_simp; refine hK _ ?_; clear hK K)
    refine wpM_q (I at_) rfl (fun w' hw'=>by have:=hw'.cell e1; go_simp) ?_
    iterate 1 (refine wpM_p (fun K hK=>?_); go_simp; refine hK _ ?_; clear hK K)
    refine wpM_q (I y) rfl (fun w' hw'=>by have:=hw'.cell e2; go_simp) ?_
    iterate 1 (refine wpM_p (fun K hK=>?_); go_simp; refine hK _ ?_; clear hK K)
    refine wpM_l _ rfl (fun w' hw' _=>?_) (fun v30=>?_)
    ·unfold makes
     go_simp
     exact ⟨(Ext.refl _).alloc _,writes_lit _ _ _ 1 rfl rfl (by decide)⟩
    refine wpM_nil ?_
    intro w2 he2 hF
    have h30 : Writes w2 v30 [(at_,y)]:=hF 30
    clear hF
    have e3:=he2.cell e1
    have e3':=he2.cell e1'
    refine wpList_append_row _ rfl (.tmp 21) (.tmp 30) 27 rfl (g + 1) 79 i0 _ 2 16 Tryz.underlying27 hi hz0 hz1 hz2 rfl (by decide) u6 us.length (cells2 us) rfl ?_ v30 rfl 1 _ h30 (cells2_one _) (by omega) (by decide) ?_ ?_
    ·exact owns_ext hout2 he2
    ·exact Nat.le_trans hsz3 he2.size
    intro o' w3 ho hg3
    have hneg : u6.ownBlock ≠ some g:=fun e=>by have:=(h6 g e).1; omega
    have hnep : u6.ownBlock ≠ some wr.heap.size:=fun e=>by have:=(h6 _ e).2; omega
    have e4:=grown_cell hg3 e3 hnep
    have e4':=grown_cell hg3 e3' hnep
    have hown4:=(owns_ext hown3 he2).kept hg3 (.inr (fun e=>hneg e.symm))
    have he4 : Ext w w3:=(he3.trans he2).grown hg3 (fun k hk=>by have:=(h6 k hk).1; have:=HG.out; omega)
    have hsz4 : g + 1 ≤ w3.heap.size:=Nat.le_trans hsz3 (Nat.le_trans he2.size hg3.size)
    have e5 : w3.cell? ⟨g,at_.toNat,none⟩ = some (I y):=grown_cell hg3 (he2.cell e2) hneg
    have f5 : w3.frozen? ⟨g,at_.toNat,none⟩ = false:=hown4.frozenAt _
    clear e1 e1' e2 e3 e3' hown3 hout2 he3 hsz3 hg3 he2 h30 hwr
    go_wp2
    go_roundw
    case rel =>
     have hst:=hown4.stored at_.toNat (I n)
     have ho2:=ho.kept hst.2 (.inr (fun e=>by have:=(ho.lt g e).1; omega))
     refine ⟨k + 1,by omega,by go_num,?_,?_,by simpa using hsz4,he4.setCell (by rw [HG.out]; exact Nat.le_refl _) _⟩
     ·rw [HN.out]
      unfold set1
      rw [if_pos ⟨i1,i3⟩,List.map_set]
      exact hst.1
     ·rw [HU.out,if_pos ⟨i1,i2⟩,cells2_append,List.length_append]
      exact ho2
    case measure=>simp [intOf]; omega
   ·have hdc : decide (0 ≤ at_ ∧ at_ < (ys.length : Int)) = false:=by rw [HYL.out]; simp; omega
    go_wp2_with (go_at_call 67; refine Calls.same (has_any _ ys at_ _ (ints_of_owns (hown2 _))) ?_)
    go_roundw
    case rel =>
     refine ⟨k + 1,by omega,by go_num,?_,?_,by simp; omega,he'.alloc _⟩
     ·rw [HN.out]
      unfold set1
      rw [if_neg (by rw [HYL.out]; exact hin)]
      exact hown2 _
     ·rw [HU.out,if_neg hin,List.append_nil]
      exact hout.alloc _
    case measure=>simp [intOf]; omega
  ·rw [List.take_of_length_le (by omega)] at hout
   clear hown' h3
   go_wp2_with fail
   refine (reverse_any _ _ _ _ _ hout (by have:=undoAll_len xs l; simp; omega)).mono ?_
   rintro e w3 ⟨rfl,ho,hg⟩
   rw [List.reverse_reverse] at ho
   have he3 : Ext w w3:=he'.grown hg (fun k hk=>by have:=(h6 k hk).1; have:=HG.out; omega)
   clear hg
   go_wp2
   go_ret
   exact ⟨_,rfl,he3,_,owns_base ho (by have:=HG.out; omega)⟩

end Go.Proofs.YtdmipnnfooleladGreat

namespace Go.Proofs.YtdmipnnfooleladGreat
open Go.RowKit Go.Mk
set_option maxRecDepth 100000

end Go.Proofs.YtdmipnnfooleladGreat

/- Texts of the proof, merged: E8 E9 S3. -/
import Derived.Test.YtdmipnnfoolelafGreatKTA
import Derived.Test.YtdmipnnfoolelafGreatKTI
import Derived.Test.YtdmipnnfoolelafGreatKTH
set_option maxHeartbeats 1000000
set_option maxRecDepth 100000

namespace Go.Proofs.YtdmipnnfoolelafGreat
open Go.RowKit Go.Mk

theorem zi9 (v:Value) (l:List UInt8) (w:World) (hv:zbd w v l) (hf:¬ (l.length=8/\l.getD 0 0=97)) :
  Calls Tryz.prog 100 #[v] w fun e w'=>e=.returned (.tuple #[AN (readAn l).1,I (readAn l).2])/\Ext w w':=by
 have hff:decide (l.length=8/\l.getD 0 0=97)=false:=decide_eq_false hf;have hF:=fun wx (h:Ext w wx)=>zf4 v l 97 8 (by decide) wx (hv.ext h);rw [hff] at hF;rw [ziU hf];clear hv hf hff;go_enter Tryz.func100,Tryz.ntmps100
 go_wp2_with fail
 refine Calls.same (hF _ ((Ext.refl w).alloc _)) ?_;go_wp2
 refine bodyPost_ret (by simp [results,Tryz.results100,go_sem]; rfl) rfl ?_;exact ⟨rfl,(Ext.refl w).alloc _⟩

theorem zi6 (v:Value) (b1 b2 b3 b4 b5 b6 b7:UInt8) (w:World) (hv:zbd w v [97,b1,b2,b3,b4,b5,b6,b7]) :
  Calls Tryz.prog 100 #[v] w fun e w'=>e=.returned (.tuple #[AN (readAn [97,b1,b2,b3,b4,b5,b6,b7]).1,I (readAn [97,b1,b2,b3,b4,b5,b6,b7]).2])/\Ext w w':=by
 have hF:=fun wx (h:Ext w wx)=>zf4 v _ 97 8 (by decide) wx (hv.ext h);have hneg:zbz ⟨b1.toNat,b2.toNat,⟨b3.toNat,numB [b4,b5,b6,b7]⟩⟩=0->readAn [97,b1,b2,b3,b4,b5,b6,b7]=(⟨b1.toNat,b2.toNat,⟨b3.toNat,numB [b4,b5,b6,b7]⟩⟩,0):=fun h=>if_neg (show ¬ (zbz ⟨b1.toNat,b2.toNat,⟨b3.toNat,numB [b4,b5,b6,b7]⟩⟩≠0) from fun k=>k h);have hpos:¬ zbz ⟨b1.toNat,b2.toNat,⟨b3.toNat,numB [b4,b5,b6,b7]⟩⟩=0->readAn [97,b1,b2,b3,b4,b5,b6,b7]=(zeroAn,zbz ⟨b1.toNat,b2.toNat,⟨b3.toNat,numB [b4,b5,b6,b7]⟩⟩):=fun h=>if_pos (show zbz ⟨b1.toNat,b2.toNat,⟨b3.toNat,numB [b4,b5,b6,b7]⟩⟩≠0 from h);have hff:decide ([97,b1,b2,b3,b4,b5,b6,b7].length=8/\[97,b1,b2,b3,b4,b5,b6,b7].getD 0 0=97)=true:=rfl;rw [hff] at hF;clear hff;generalize readAn [97,b1,b2,b3,b4,b5,b6,b7]=RR at *;obtain ⟨R,E⟩:=RR;obtain ⟨b,off,cap,rfl,hc1,hc2,⟨-,c1,c2,c3⟩,h6⟩:=zqq hv;have hN:=fun wx (h:Ext w wx)=>zjm _ b4 b5 b6 b7 wx (h6.ext h);unfold maxLen at hc2;clear hv h6;generalize numB [b4,b5,b6,b7]=n at *;have HN:=zhd hneg;have HP:=zhd hpos;clear hneg hpos;have hk6:¬ cap=4:=by omega
 have hbw:=zfK;have e0:Ext w (w.alloc (.cells #[I 0,I 0,I 0,I 0] 97)):=(Ext.refl w).alloc _;have HB:=zhd (fun wx (h:Ext (w.alloc (.cells #[I 0,I 0,I 0,I 0] 97)) wx)=>zbo h);go_enter Tryz.func100,Tryz.ntmps100
 go_wp2_with fail
 refine Calls.same (hF _ e0) ?_;go_wp2_with fail
 clear hF;generalize hw0:w.alloc (.cells #[I 0,I 0,I 0,I 0] 97)=w0 at *;have HW0:=zhd hw0;clear hw0;replace c1:=e0.cell c1;replace c2:=e0.cell c2;replace c3:=e0.cell c3;refine zan 9 [none,none,none,none,none,none,some (.inl (I n)),none,some (.inr (zfC w0.heap.size 39 #[I 0,I 0]))] (by kernel_rfl) (by kernel_rfl) ?_ ?_
 ·exact ⟨trivial,trivial,trivial,trivial,trivial,trivial,trivial,trivial,zd9 _ _ _,trivial⟩
 iterate 2 (refine zap (fun K hK=>?_); go_simp; refine hK _ ?_; clear hK K)
 refine zay (U b3) rfl (fun w' hw'=>by have q0:=hw'.cell c3; go_simp) ?_;iterate 3 (refine zap (fun K hK=>?_); go_simp; refine hK _ ?_; clear hK K)
 refine zdp _ rfl (fun w' hw' _=>?_) ?_
 ·have hg:=zcb (hN w' (e0.trans hw'));unfold zaQ;go_simp
  exact ⟨Ext.refl _,hg⟩
 (refine zap (fun K hK=>?_); go_simp; refine hK _ ?_; clear hK K)
 refine zbb _ rfl (fun w' hw' hk=>?_) (fun v4=>?_)
 ·clear hk;unfold zaQ;go_simp
  exact ⟨(Ext.refl _).alloc _,zea hw'.size⟩
 refine zaP ?_;intro w1 e1 hX;obtain ⟨d,rfl,hd0,hd1⟩:zfC w0.heap.size 39 #[I 0,I 0] v4 w1:=hX 4;clear hX hN;obtain ⟨x0,x1,f0,f1⟩:=box2 hd1;have e2:=zqW e1 hd0 (I b3.toNat) (I n);have hd2:=ztx hd1 (I b3.toNat) (I n);go_wp2_with fail
 clear x0 x1 f0 f1 c3 hd1 e1;generalize hw2:(w1.setCell ⟨d,0,none⟩ (I b3.toNat)).setCell ⟨d,1,none⟩ (I n)=w2 at *;clear hw2;replace c1:=e2.cell c1;replace c2:=e2.cell c2;obtain ⟨x0,x1,-⟩:=box2 hd2;clear hd2;refine zan 11 [none,none,none,none,none,none,none,none,none,none,some (.inr (zfC w0.heap.size 97 #[I 0,I 0,I 0,I 0]))] (by kernel_rfl) (by kernel_rfl) ?_ ?_
 ·exact ⟨trivial,trivial,trivial,trivial,trivial,trivial,trivial,trivial,trivial,trivial,zd9 _ _ _,trivial⟩
 iterate 2 (refine zap (fun K hK=>?_); go_simp; refine hK _ ?_; clear hK K)
 refine zay (U b1) rfl (fun w' hw'=>by have q0:=hw'.cell c1; go_simp) ?_;iterate 3 (refine zap (fun K hK=>?_); go_simp; refine hK _ ?_; clear hK K)
 refine zay (U b2) rfl (fun w' hw'=>by have q0:=hw'.cell c2; go_simp) ?_;(refine zap (fun K hK=>?_); go_simp; refine hK _ ?_; clear hK K)
 refine zay (.agg #[I b3.toNat,I n]) rfl (fun w' hw'=>by have q0:=hw'.cell x0; have q1:=hw'.cell x1; go_simp) ?_;(refine zap (fun K hK=>?_); go_simp; refine hK _ ?_; clear hK K)
 refine zbb _ rfl (fun w' hw' hk=>?_) (fun v5=>?_)
 ·clear hk;unfold zaQ;go_simp
  exact ⟨(Ext.refl _).alloc _,zea (Nat.le_trans e2.size hw'.size)⟩
 refine zaP ?_;intro w3 e3 hX;obtain ⟨g,rfl,hg0,hg1⟩:zfC w0.heap.size 97 #[I 0,I 0,I 0,I 0] v5 w3:=hX 5;clear hX x0 x1 c1 c2;obtain ⟨x0,x1,x2,x3,f0,f1,f2,f3⟩:=zb4 hg1;have e4:=zcj (e2.trans e3) hg0 (I b1.toNat) (I b2.toNat) (I b3.toNat) (I n);have hg2:=set4 hg1 (I b1.toNat) (I b2.toNat) (I b3.toNat) (I n);go_wp2_with fail
 clear x0 x1 x2 x3 f0 f1 f2 f3 hg1 e3;generalize hw4:(((w3.setCell ⟨g,0,none⟩ (I b1.toNat)).setCell ⟨g,1,none⟩ (I b2.toNat)).setCell ⟨g,2,none⟩ (I b3.toNat)).setCell ⟨g,3,none⟩ (I n)=w4 at *;clear hw4 hbw;refine Calls.exts (ziY (b1.toNat:Int) b2.toNat b3.toNat n w4) (fun w5 e5=>?_);have rb:=HB.o w5 (e4.trans e5);obtain ⟨z0,z1,z2,z3,f0,f1,f2,f3⟩:=zb4 rb;have m5:Ext w w5:=e0.trans (e4.trans e5);by_cases hz:zbz ⟨b1.toNat,b2.toNat,⟨b3.toNat,n⟩⟩=0
 ·rw [hz];obtain ⟨x0,x1,x2,x3,-⟩:=zb4 (zb2 hg2 e5);have HZ:=zhd hz;clear hz;go_wp2
  have rb2:=set4 rb (I b1.toNat) (I b2.toNat) (I b3.toNat) (I n);obtain ⟨q0,q1,q2,q3,-⟩:=zb4 rb2;have m6:=zcj m5 (Nat.le_refl w.heap.size) (I b1.toNat) (I b2.toNat) (I b3.toNat) (I n);clear x0 x1 x2 x3 z0 z1 z2 z3 f0 f1 f2 f3;refine bodyPost_ret (by simp [results,Tryz.results100,go_sem,q0,q1,q2,q3]; rfl) rfl ?_;obtain ⟨h1,h2⟩:=Prod.mk.inj (HN.o HZ.o);rw [h1,h2];exact ⟨rfl,m6⟩
 ·have hb:(zbz ⟨b1.toNat,b2.toNat,⟨b3.toNat,n⟩⟩ != 0)=true:=by simpa using hz
  have HZ:=zhd hz;clear hz;go_wp2
  have rb2:=set4 rb (I 0) (I 0) (I 0) (I 0);obtain ⟨q0,q1,q2,q3,-⟩:=zb4 rb2;have m6:=zcj m5 (Nat.le_refl w.heap.size) (I 0) (I 0) (I 0) (I 0);clear z0 z1 z2 z3 f0 f1 f2 f3;refine bodyPost_ret (by simp [results,Tryz.results100,go_sem,q0,q1,q2,q3]; rfl) rfl ?_;obtain ⟨h1,h2⟩:=Prod.mk.inj (HP.o HZ.o);rw [h1,h2];exact ⟨rfl,m6⟩

theorem zeV (v:Value) (l:List UInt8) (w:World) (hv:zbd w v l) :
  Calls Tryz.prog 100 #[v] w fun e w'=>e=.returned (.tuple #[AN (readAn l).1,I (readAn l).2])/\Ext w w':=by
 by_cases hf:l.length=8/\l.getD 0 0=97
 ·obtain ⟨b1,b2,b3,b4,b5,b6,b7,rfl⟩:=znc hf
  exact zi6 v b1 b2 b3 b4 b5 b6 b7 w hv
 ·exact zi9 v l w hv hf

open Go.RowKit Go.Mk

theorem zhq (v:Value) (l:List UInt8) (w:World) (hv:zbd w v l) (hf:¬ (l.length=10/\l.getD 0 0=113)) :
  Calls Tryz.prog 64 #[v] w fun e w'=>e=.returned (.tuple #[RQ (readRq l).1,I (readRq l).2])/\Ext w w':=by
 rw [ziV hf];obtain ⟨ao,cap,rfl,h1,h2,h3⟩:=hv.form;unfold maxLen at h2;clear hv;by_cases hl:l.length=10
 ·obtain ⟨b,off,rfl,hc⟩:=h3 0 (by omega);have hm:¬ l.getD 0 0=113:=fun h=>hf ⟨hl,h⟩;clear h3 hf;simp only [Nat.add_zero] at hc;rw [hl] at h1 ⊢;generalize l.getD 0 0=x at *
  have hu:((x.toNat:Int) != 113)=true:=by
   rw [bne_iff_ne];intro h;exact hm (UInt8.toNat_inj.1 (show x.toNat=113 by omega))
  replace hc:=((Ext.refl w).alloc (.cells #[I 0,I 0,I 0,I 0,I 0,I 0] 36)).cell hc;clear hm hl;go_enter Tryz.func64,Tryz.ntmps64
  go_wp2
  refine bodyPost_ret (by simp [results,Tryz.results64,go_sem]; rfl) rfl ?_;exact ⟨rfl,(Ext.refl w).alloc _⟩
 ·have hne:(((l.length:Int)) != 10)=true:=by rw [bne_iff_ne]; omega
  clear h3 hf hl;go_enter Tryz.func64,Tryz.ntmps64
  go_wp2
  refine bodyPost_ret (by simp [results,Tryz.results64,go_sem]; rfl) rfl ?_;exact ⟨rfl,(Ext.refl w).alloc _⟩

theorem zhp (v:Value) (b1 b2 b3 b4 b5 b6 b7 b8 b9:UInt8) (w:World) (hv:zbd w v [113,b1,b2,b3,b4,b5,b6,b7,b8,b9]) :
  Calls Tryz.prog 64 #[v] w fun e w'=>e=.returned (.tuple #[RQ (readRq [113,b1,b2,b3,b4,b5,b6,b7,b8,b9]).1,I (readRq [113,b1,b2,b3,b4,b5,b6,b7,b8,b9]).2])/\Ext w w':=by
 have hneg:zbJ ⟨b1.toNat,b2.toNat,⟨b3.toNat,b4.toNat,b5.toNat,numB [b6,b7,b8,b9]⟩⟩=0->readRq [113,b1,b2,b3,b4,b5,b6,b7,b8,b9]=(⟨b1.toNat,b2.toNat,⟨b3.toNat,b4.toNat,b5.toNat,numB [b6,b7,b8,b9]⟩⟩,0):=fun h=>if_neg (show ¬ (zbJ ⟨b1.toNat,b2.toNat,⟨b3.toNat,b4.toNat,b5.toNat,numB [b6,b7,b8,b9]⟩⟩≠0) from fun k=>k h);have hpos:¬ zbJ ⟨b1.toNat,b2.toNat,⟨b3.toNat,b4.toNat,b5.toNat,numB [b6,b7,b8,b9]⟩⟩=0->readRq [113,b1,b2,b3,b4,b5,b6,b7,b8,b9]=(zeroRq,zbJ ⟨b1.toNat,b2.toNat,⟨b3.toNat,b4.toNat,b5.toNat,numB [b6,b7,b8,b9]⟩⟩):=fun h=>if_pos (show zbJ ⟨b1.toNat,b2.toNat,⟨b3.toNat,b4.toNat,b5.toNat,numB [b6,b7,b8,b9]⟩⟩≠0 from h);generalize readRq [113,b1,b2,b3,b4,b5,b6,b7,b8,b9]=RR at *;obtain ⟨R,E⟩:=RR;obtain ⟨b,off,cap,rfl,hc1,hc2,⟨c0,c1,c2,c3,c4,c5⟩,h6⟩:=zoL hv;have hN:=fun wx (h:Ext w wx)=>zoT _ b6 b7 b8 b9 wx (h6.ext h);unfold maxLen at hc2;clear hv h6;generalize numB [b6,b7,b8,b9]=n at *;have HN:=zhd hneg;have HP:=zhd hpos;clear hneg hpos;have hk6:¬ cap=6:=by omega
 have hbw:=zfK;have e0:Ext w (w.alloc (.cells #[I 0,I 0,I 0,I 0,I 0,I 0] 36)):=(Ext.refl w).alloc _;have HB:=zhd (fun wx (h:Ext (w.alloc (.cells #[I 0,I 0,I 0,I 0,I 0,I 0] 36)) wx)=>zbo h);replace c0:=e0.cell c0;replace c1:=e0.cell c1;replace c2:=e0.cell c2;replace c3:=e0.cell c3;replace c4:=e0.cell c4;replace c5:=e0.cell c5;go_enter Tryz.func64,Tryz.ntmps64
 go_wp2_with fail
 generalize hw0:w.alloc (.cells #[I 0,I 0,I 0,I 0,I 0,I 0] 36)=w0 at *;have HW0:=zhd hw0;clear hw0 c0;refine zan 26 [none,none,none,none,none,none,none,none,none,none,none,none,none,none,none,none,none,none,none,none,none,none,some (.inl (I n)),none,none,some (.inr (zfC w0.heap.size 36 #[I 0,I 0,I 0,I 0,I 0,I 0]))] (by kernel_rfl) (by kernel_rfl) ?_ ?_
 ·exact ⟨trivial,trivial,trivial,trivial,trivial,trivial,trivial,trivial,trivial,trivial,trivial,trivial,trivial,trivial,trivial,trivial,trivial,trivial,trivial,trivial,trivial,trivial,trivial,trivial,trivial,zd9 _ _ _,trivial⟩
 iterate 2 (refine zap (fun K hK=>?_); go_simp; refine hK _ ?_; clear hK K)
 refine zay (U b1) rfl (fun w' hw'=>by have q0:=hw'.cell c1; go_simp) ?_;iterate 3 (refine zap (fun K hK=>?_); go_simp; refine hK _ ?_; clear hK K)
 refine zay (U b2) rfl (fun w' hw'=>by have q0:=hw'.cell c2; go_simp) ?_;iterate 3 (refine zap (fun K hK=>?_); go_simp; refine hK _ ?_; clear hK K)
 refine zay (U b3) rfl (fun w' hw'=>by have q0:=hw'.cell c3; go_simp) ?_;iterate 3 (refine zap (fun K hK=>?_); go_simp; refine hK _ ?_; clear hK K)
 refine zay (U b4) rfl (fun w' hw'=>by have q0:=hw'.cell c4; go_simp) ?_;iterate 3 (refine zap (fun K hK=>?_); go_simp; refine hK _ ?_; clear hK K)
 refine zay (U b5) rfl (fun w' hw'=>by have q0:=hw'.cell c5; go_simp) ?_;iterate 3 (refine zap (fun K hK=>?_); go_simp; refine hK _ ?_; clear hK K)
 refine zdp _ rfl (fun w' hw' _=>?_) ?_
 ·have hg:=zcb (hN w' (e0.trans hw'));unfold zaQ;go_simp
  exact ⟨Ext.refl _,hg⟩
 iterate 2 (refine zap (fun K hK=>?_); go_simp; refine hK _ ?_; clear hK K)
 refine zbb _ rfl (fun w' hw' hk=>?_) (fun v4=>?_)
 ·clear hk;unfold zaQ;go_simp
  exact ⟨(Ext.refl _).alloc _,zea hw'.size⟩
 refine zaP ?_;intro w1 e1 hX;obtain ⟨d,rfl,hd0,hd1⟩:zfC w0.heap.size 36 #[I 0,I 0,I 0,I 0,I 0,I 0] v4 w1:=hX 4;clear hX hN;obtain ⟨⟨x0,x1,x2,x3,x4,x5⟩,f0,f1,f2,f3,f4,f5⟩:=box6 hd1;have e2:=zfQ e1 hd0 (I b1.toNat) (I b2.toNat) (I b3.toNat) (I b4.toNat) (I b5.toNat) (I n);have hd2:=zpx hd1 (I b1.toNat) (I b2.toNat) (I b3.toNat) (I b4.toNat) (I b5.toNat) (I n);go_wp2_with fail
 clear x0 x1 x2 x3 x4 x5 f0 f1 f2 f3 f4 f5 c1 c2 c3 c4 c5 hd1 e1;generalize hw2:(((((w1.setCell ⟨d,0,none⟩ (I b1.toNat)).setCell ⟨d,1,none⟩ (I b2.toNat)).setCell ⟨d,2,none⟩ (I b3.toNat)).setCell ⟨d,3,none⟩ (I b4.toNat)).setCell ⟨d,4,none⟩ (I b5.toNat)).setCell ⟨d,5,none⟩ (I n)=w2 at *;clear hw2 hbw;refine Calls.exts (zhj (b1.toNat:Int) b2.toNat b3.toNat b4.toNat b5.toNat n w2) (fun w5 e5=>?_);have rb:=HB.o w5 (e2.trans e5);obtain ⟨⟨z0,z1,z2,z3,z4,z5⟩,f0,f1,f2,f3,f4,f5⟩:=box6 rb;have m5:Ext w w5:=e0.trans (e2.trans e5);by_cases hz:zbJ ⟨b1.toNat,b2.toNat,⟨b3.toNat,b4.toNat,b5.toNat,n⟩⟩=0
 ·rw [hz];obtain ⟨⟨x0,x1,x2,x3,x4,x5⟩,-⟩:=box6 (zb2 hd2 e5);have HZ:=zhd hz;clear hz;go_wp2
  have rb2:=zpx rb (I b1.toNat) (I b2.toNat) (I b3.toNat) (I b4.toNat) (I b5.toNat) (I n);obtain ⟨⟨q0,q1,q2,q3,q4,q5⟩,-⟩:=box6 rb2;have m6:=zfQ m5 (Nat.le_refl w.heap.size) (I b1.toNat) (I b2.toNat) (I b3.toNat) (I b4.toNat) (I b5.toNat) (I n);clear x0 x1 x2 x3 x4 x5 z0 z1 z2 z3 z4 z5 f0 f1 f2 f3 f4 f5;refine bodyPost_ret (by simp [results,Tryz.results64,go_sem,q0,q1,q2,q3,q4,q5]; rfl) rfl ?_;obtain ⟨h1,h2⟩:=Prod.mk.inj (HN.o HZ.o);rw [h1,h2];exact ⟨rfl,m6⟩
 ·have hb:(zbJ ⟨b1.toNat,b2.toNat,⟨b3.toNat,b4.toNat,b5.toNat,n⟩⟩ != 0)=true:=by simpa using hz
  have HZ:=zhd hz;clear hz;go_wp2
  have rb2:=zpx rb (I 0) (I 0) (I 0) (I 0) (I 0) (I 0);obtain ⟨⟨q0,q1,q2,q3,q4,q5⟩,-⟩:=box6 rb2;have m6:=zfQ m5 (Nat.le_refl w.heap.size) (I 0) (I 0) (I 0) (I 0) (I 0) (I 0);clear z0 z1 z2 z3 z4 z5 f0 f1 f2 f3 f4 f5;refine bodyPost_ret (by simp [results,Tryz.results64,go_sem,q0,q1,q2,q3,q4,q5]; rfl) rfl ?_;obtain ⟨h1,h2⟩:=Prod.mk.inj (HP.o HZ.o);rw [h1,h2];exact ⟨rfl,m6⟩

theorem zhE (v:Value) (l:List UInt8) (w:World) (hv:zbd w v l) :
  Calls Tryz.prog 64 #[v] w fun e w'=>e=.returned (.tuple #[RQ (readRq l).1,I (readRq l).2])/\Ext w w':=by
 by_cases hf:l.length=10/\l.getD 0 0=113
 ·obtain ⟨b1,b2,b3,b4,b5,b6,b7,b8,b9,rfl⟩:=zql hf
  exact zhp v b1 b2 b3 b4 b5 b6 b7 b8 b9 w hv
 ·exact zhq v l w hv hf

theorem zhG (v:Value) (l:List UInt8) (w:World) (hv:zbd w v l) (hf:¬ (l.length=8/\l.getD 0 0=97)) :
  Calls Tryz.prog 59 #[v] w fun e w'=>e=.returned (.tuple #[AN (readAn l).1,I (readAn l).2])/\Ext w w':=by
 rw [ziU hf];obtain ⟨ao,cap,rfl,h1,h2,h3⟩:=hv.form;unfold maxLen at h2;clear hv;by_cases hl:l.length=8
 ·obtain ⟨b,off,rfl,hc⟩:=h3 0 (by omega);have hm:¬ l.getD 0 0=97:=fun h=>hf ⟨hl,h⟩;clear h3 hf;simp only [Nat.add_zero] at hc;rw [hl] at h1 ⊢;generalize l.getD 0 0=x at *
  have hu:((x.toNat:Int) != 97)=true:=by
   rw [bne_iff_ne];intro h;exact hm (UInt8.toNat_inj.1 (show x.toNat=97 by omega))
  replace hc:=((Ext.refl w).alloc (.cells #[I 0,I 0,I 0,I 0] 97)).cell hc;clear hm hl;go_enter Tryz.func59,Tryz.ntmps59
  go_wp2
  refine bodyPost_ret (by simp [results,Tryz.results59,go_sem]; rfl) rfl ?_;exact ⟨rfl,(Ext.refl w).alloc _⟩
 ·have hne:(((l.length:Int)) != 8)=true:=by rw [bne_iff_ne]; omega
  clear h3 hf hl;go_enter Tryz.func59,Tryz.ntmps59
  go_wp2
  refine bodyPost_ret (by simp [results,Tryz.results59,go_sem]; rfl) rfl ?_;exact ⟨rfl,(Ext.refl w).alloc _⟩

theorem zhS (v:Value) (b1 b2 b3 b4 b5 b6 b7:UInt8) (w:World) (hv:zbd w v [97,b1,b2,b3,b4,b5,b6,b7]) :
  Calls Tryz.prog 59 #[v] w fun e w'=>e=.returned (.tuple #[AN (readAn [97,b1,b2,b3,b4,b5,b6,b7]).1,I (readAn [97,b1,b2,b3,b4,b5,b6,b7]).2])/\Ext w w':=by
 have hneg:zbz ⟨b1.toNat,b2.toNat,⟨b3.toNat,numB [b4,b5,b6,b7]⟩⟩=0->readAn [97,b1,b2,b3,b4,b5,b6,b7]=(⟨b1.toNat,b2.toNat,⟨b3.toNat,numB [b4,b5,b6,b7]⟩⟩,0):=fun h=>if_neg (show ¬ (zbz ⟨b1.toNat,b2.toNat,⟨b3.toNat,numB [b4,b5,b6,b7]⟩⟩≠0) from fun k=>k h);have hpos:¬ zbz ⟨b1.toNat,b2.toNat,⟨b3.toNat,numB [b4,b5,b6,b7]⟩⟩=0->readAn [97,b1,b2,b3,b4,b5,b6,b7]=(zeroAn,zbz ⟨b1.toNat,b2.toNat,⟨b3.toNat,numB [b4,b5,b6,b7]⟩⟩):=fun h=>if_pos (show zbz ⟨b1.toNat,b2.toNat,⟨b3.toNat,numB [b4,b5,b6,b7]⟩⟩≠0 from h);generalize readAn [97,b1,b2,b3,b4,b5,b6,b7]=RR at *;obtain ⟨R,E⟩:=RR;obtain ⟨b,off,cap,rfl,hc1,hc2,⟨c0,c1,c2,c3⟩,h6⟩:=zqq hv;have hN:=fun wx (h:Ext w wx)=>zoT _ b4 b5 b6 b7 wx (h6.ext h);unfold maxLen at hc2;clear hv h6;generalize numB [b4,b5,b6,b7]=n at *;have HN:=zhd hneg;have HP:=zhd hpos;clear hneg hpos;have hk6:¬ cap=4:=by omega
 have hbw:=zfK;have e0:Ext w (w.alloc (.cells #[I 0,I 0,I 0,I 0] 97)):=(Ext.refl w).alloc _;have HB:=zhd (fun wx (h:Ext (w.alloc (.cells #[I 0,I 0,I 0,I 0] 97)) wx)=>zbo h);replace c0:=e0.cell c0;replace c1:=e0.cell c1;replace c2:=e0.cell c2;replace c3:=e0.cell c3;go_enter Tryz.func59,Tryz.ntmps59
 go_wp2_with fail
 generalize hw0:w.alloc (.cells #[I 0,I 0,I 0,I 0] 97)=w0 at *;have HW0:=zhd hw0;clear hw0 c0;refine zan 18 [none,none,none,none,none,none,none,none,none,none,none,none,none,none,some (.inl (I n)),none,none,some (.inr (zfC w0.heap.size 97 #[I 0,I 0,I 0,I 0]))] (by kernel_rfl) (by kernel_rfl) ?_ ?_
 ·exact ⟨trivial,trivial,trivial,trivial,trivial,trivial,trivial,trivial,trivial,trivial,trivial,trivial,trivial,trivial,trivial,trivial,trivial,zd9 _ _ _,trivial⟩
 iterate 2 (refine zap (fun K hK=>?_); go_simp; refine hK _ ?_; clear hK K)
 refine zay (U b1) rfl (fun w' hw'=>by have q0:=hw'.cell c1; go_simp) ?_;iterate 3 (refine zap (fun K hK=>?_); go_simp; refine hK _ ?_; clear hK K)
 refine zay (U b2) rfl (fun w' hw'=>by have q0:=hw'.cell c2; go_simp) ?_;iterate 3 (refine zap (fun K hK=>?_); go_simp; refine hK _ ?_; clear hK K)
 refine zay (U b3) rfl (fun w' hw'=>by have q0:=hw'.cell c3; go_simp) ?_;iterate 3 (refine zap (fun K hK=>?_); go_simp; refine hK _ ?_; clear hK K)
 refine zdp _ rfl (fun w' hw' _=>?_) ?_
 ·have hg:=zcb (hN w' (e0.trans hw'));unfold zaQ;go_simp
  exact ⟨Ext.refl _,hg⟩
 iterate 2 (refine zap (fun K hK=>?_); go_simp; refine hK _ ?_; clear hK K)
 refine zbb _ rfl (fun w' hw' hk=>?_) (fun v4=>?_)
 ·clear hk;unfold zaQ;go_simp
  exact ⟨(Ext.refl _).alloc _,zea hw'.size⟩
 refine zaP ?_;intro w1 e1 hX;obtain ⟨d,rfl,hd0,hd1⟩:zfC w0.heap.size 97 #[I 0,I 0,I 0,I 0] v4 w1:=hX 4;clear hX hN;obtain ⟨x0,x1,x2,x3,f0,f1,f2,f3⟩:=zb4 hd1;have e2:=zcj e1 hd0 (I b1.toNat) (I b2.toNat) (I b3.toNat) (I n);have hd2:=set4 hd1 (I b1.toNat) (I b2.toNat) (I b3.toNat) (I n);go_wp2_with fail
 clear x0 x1 x2 x3 f0 f1 f2 f3 c1 c2 c3 hd1 e1;generalize hw2:(((w1.setCell ⟨d,0,none⟩ (I b1.toNat)).setCell ⟨d,1,none⟩ (I b2.toNat)).setCell ⟨d,2,none⟩ (I b3.toNat)).setCell ⟨d,3,none⟩ (I n)=w2 at *;clear hw2 hbw;refine Calls.exts (zhJ (b1.toNat:Int) b2.toNat b3.toNat n w2) (fun w5 e5=>?_);have rb:=HB.o w5 (e2.trans e5);obtain ⟨z0,z1,z2,z3,f0,f1,f2,f3⟩:=zb4 rb;have m5:Ext w w5:=e0.trans (e2.trans e5);by_cases hz:zbz ⟨b1.toNat,b2.toNat,⟨b3.toNat,n⟩⟩=0
 ·rw [hz];obtain ⟨x0,x1,x2,x3,-⟩:=zb4 (zb2 hd2 e5);have HZ:=zhd hz;clear hz;go_wp2
  have rb2:=set4 rb (I b1.toNat) (I b2.toNat) (I b3.toNat) (I n);obtain ⟨q0,q1,q2,q3,-⟩:=zb4 rb2;have m6:=zcj m5 (Nat.le_refl w.heap.size) (I b1.toNat) (I b2.toNat) (I b3.toNat) (I n);clear x0 x1 x2 x3 z0 z1 z2 z3 f0 f1 f2 f3;refine bodyPost_ret (by simp [results,Tryz.results59,go_sem,q0,q1,q2,q3]; rfl) rfl ?_;obtain ⟨h1,h2⟩:=Prod.mk.inj (HN.o HZ.o);rw [h1,h2];exact ⟨rfl,m6⟩
 ·have hb:(zbz ⟨b1.toNat,b2.toNat,⟨b3.toNat,n⟩⟩ != 0)=true:=by simpa using hz
  have HZ:=zhd hz;clear hz;go_wp2
  have rb2:=set4 rb (I 0) (I 0) (I 0) (I 0);obtain ⟨q0,q1,q2,q3,-⟩:=zb4 rb2;have m6:=zcj m5 (Nat.le_refl w.heap.size) (I 0) (I 0) (I 0) (I 0);clear z0 z1 z2 z3 f0 f1 f2 f3;refine bodyPost_ret (by simp [results,Tryz.results59,go_sem,q0,q1,q2,q3]; rfl) rfl ?_;obtain ⟨h1,h2⟩:=Prod.mk.inj (HP.o HZ.o);rw [h1,h2];exact ⟨rfl,m6⟩

theorem zfj (v:Value) (l:List UInt8) (w:World) (hv:zbd w v l) :
  Calls Tryz.prog 59 #[v] w fun e w'=>e=.returned (.tuple #[AN (readAn l).1,I (readAn l).2])/\Ext w w':=by
 by_cases hf:l.length=8/\l.getD 0 0=97
 ·obtain ⟨b1,b2,b3,b4,b5,b6,b7,rfl⟩:=znc hf
  exact zhS v b1 b2 b3 b4 b5 b6 b7 w hv
 ·exact zhG v l w hv hf

open Go.RowKit Go.Mk

theorem zfT {w:World} {v:Value} {l:List An} (h:zas 4 zhL w v l):∃ ao cap,v=.slice ao l.length cap/\l.length<=cap/\cap<=maxLen /\
  ∀ k x,l[k]?=some x->∃ b off,ao=some ⟨b,off,none⟩/\w.cell? ⟨b,off+k * 4,none⟩=some (I x.client)/\w.cell? ⟨b,off+k * 4+1,none⟩=some (I x.token)/\w.cell? ⟨b,off+k * 4+2,none⟩=some (I x.reply.err)/\w.cell? ⟨b,off+k * 4+3,none⟩=some (I x.reply.n):=by
 obtain ⟨ao,cap,h1,h2,h3,-,h5⟩:=h.form (by decide)
 refine ⟨ao,cap,h1,h2,h3,fun k x hx=>?_⟩
 obtain ⟨b,off,c,e,-,hc,hcell⟩:=h5 k x hx
 have hc:c=[I x.client,I x.token,I x.reply.err,I x.reply.n]:=hc
 subst hc
 exact ⟨b,off,e,hcell 0 _ rfl,by rw [Nat.add_assoc]; exact hcell 1 _ rfl,by rw [Nat.add_assoc]; exact hcell 2 _ rfl,by rw [Nat.add_assoc]; exact hcell 3 _ rfl⟩

theorem zqT {l:List An} {k:Nat} {x:An} {n:Int} (h:l[k]?=some x) (hn:x.client=n):lastAn (l.drop k) n=(x,true):=by
 have hk:k < l.length:=(List.getElem?_eq_some_iff.1 h).1
 rw [List.drop_eq_getElem_cons hk,(List.getElem?_eq_some_iff.1 h).2]
 exact if_pos hn
theorem zo6 {l:List An} {k:Nat} {x:An} {n:Int} (h:l[k]?=some x) (hn:¬ x.client=n):lastAn (l.drop k) n=lastAn (l.drop (k+1)) n:=by
 have hk:k < l.length:=(List.getElem?_eq_some_iff.1 h).1
 rw [List.drop_eq_getElem_cons hk,(List.getElem?_eq_some_iff.1 h).2]
 exact if_neg hn
theorem zrj {l:List An} {k:Nat} {n:Int} (h:l.length<=k):lastAn (l.drop k) n=(zeroAn,false):=by
 rw [List.drop_of_length_le h]
 rfl

theorem zmH (c u a p:Value) (s:St) (n:Int) (w:World) (h:zcn w [c,u,a,p] s) :
  Calls Tryz.prog 65 #[.agg #[c,u,a,p],I n] w fun e w'=>e=.returned (.tuple #[AN (lastAn s.answers n).1,.bool (lastAn s.answers n).2])/\Ext w w':=by
 obtain ⟨h1,h2,h3,h4⟩:=zcK.1 h;clear h h1 h2 h4;obtain ⟨aa,ac,rfl,g1,g2,g3⟩:=zfT h3;unfold maxLen at g2;clear h3;generalize hl:s.answers=l at *;clear hl;obtain ⟨RA,RB,hRR⟩:∃ RA RB,lastAn l n=(RA,RB):=⟨_,_,rfl⟩;have HR:=zhd hRR;rw [hRR];clear hRR;have HG:=zhd g3;clear g3;go_enter Tryz.func65,Tryz.ntmps65
 go_wp2
 go_loop [10] (fun i=>∃ k:Nat,k<=l.length/\i=I k/\lastAn (l.drop k) n=(RA,RB)) (fun i=>l.length - (intOf i).toNat)
 case atStart=>exact ⟨0,by omega,rfl,HR.o⟩
 case round =>
  obtain ⟨k,hk,rfl,hf⟩:=hrel;have HF:=zhd hf;clear hf;have e0:Ext w ((w.alloc (.cells #[c,u,.slice aa l.length ac,p] 31)).alloc (.cells #[I 0,I 0,I 0,I 0] 97)):=((Ext.refl w).alloc _).alloc _;by_cases hlt:k < l.length
  ·obtain ⟨x,hx⟩:∃ x,l[k]?=some x:=⟨l[k],List.getElem?_eq_getElem hlt⟩;obtain ⟨b,off,rfl,c0,c1,c2,c3⟩:=HG.o k x hx;have HX:=zhd hx;clear hx;replace c0:=e0.cell c0;replace c1:=e0.cell c1;replace c2:=e0.cell c2;replace c3:=e0.cell c3;obtain ⟨xc,xt,⟨xe,xn⟩⟩:=x;by_cases hc:xc=n
   ·have hb:(xc == n)=true:=by simpa using hc
    have HC:=zhd hc;clear hc;go_wp2
    refine bodyPost_ret (by simp [results,Tryz.results65,go_sem]; rfl) rfl ?_;have:=zqT HX.o HC.o;rw [HF.o] at this;obtain ⟨rfl,rfl⟩:=Prod.mk.inj this;exact ⟨rfl,((Ext.refl w).alloc _).alloc _⟩
   ·have hb:(xc == n)=false:=by simpa using hc
    have HC:=zhd hc;clear hc;go_wp2
    go_round
    case rel=>exact ⟨k+1,by omega,by go_num,by rw [<- zo6 HX.o HC.o]; exact HF.o⟩
    case measure=>simp [intOf]; omega
  ·go_wp2
   refine bodyPost_ret (by simp [results,Tryz.results65,go_sem]; rfl) rfl ?_;have:=HF.o;rw [zrj (by omega)] at this;obtain ⟨rfl,rfl⟩:=Prod.mk.inj this;exact ⟨rfl,e0⟩

end Go.Proofs.YtdmipnnfoolelafGreat

/- Texts of the proof, merged: E9 S3. -/
import Derived.Test.YtdmipnnfoolelafKTA
import Derived.Test.YtdmipnnfoolelafKTJ
set_option maxHeartbeats 1000000

namespace Go.Proofs.Ytdmipnnfoolelaf
open Go.RowKit Go.Mk

theorem zfw (v:Value) (l:List UInt8) (w:World) (hv:zbk w v l) (hf:¬ (l.length=10/\l.getD 0 0=113)) :
  Calls Try.prog 55 #[v] w fun e w'=>e=.returned (.tuple #[RQ (readRq l).1,I (readRq l).2])/\Ext w w':=by
 rw [zjj hf];obtain ⟨ao,cap,rfl,h1,h2,h3⟩:=hv.form;unfold maxLen at h2;clear hv;by_cases hl:l.length=10
 ·obtain ⟨b,off,rfl,hc⟩:=h3 0 (by omega);have hm:¬ l.getD 0 0=113:=fun h=>hf ⟨hl,h⟩;clear h3 hf;simp only [Nat.add_zero] at hc;rw [hl] at h1 ⊢;generalize l.getD 0 0=x at *
  have hu:((x.toNat:Int) != 113)=true:=by
   rw [bne_iff_ne];intro h;exact hm (UInt8.toNat_inj.1 (show x.toNat=113 by omega))
  replace hc:=((Ext.refl w).alloc (.cells #[I 0,I 0,I 0,I 0,I 0,I 0] 35)).cell hc;clear hm hl;go_enter Try.func55,Try.ntmps55
  go_wp2
  refine bodyPost_ret (by simp [results,Try.results55,go_sem]; rfl) rfl ?_;exact ⟨rfl,(Ext.refl w).alloc _⟩
 ·have hne:(((l.length:Int)) != 10)=true:=by rw [bne_iff_ne]; omega
  clear h3 hf hl;go_enter Try.func55,Try.ntmps55
  go_wp2
  refine bodyPost_ret (by simp [results,Try.results55,go_sem]; rfl) rfl ?_;exact ⟨rfl,(Ext.refl w).alloc _⟩

theorem zfu (v:Value) (b1 b2 b3 b4 b5 b6 b7 b8 b9:UInt8) (w:World) (hv:zbk w v [113,b1,b2,b3,b4,b5,b6,b7,b8,b9]) :
  Calls Try.prog 55 #[v] w fun e w'=>e=.returned (.tuple #[RQ (readRq [113,b1,b2,b3,b4,b5,b6,b7,b8,b9]).1,I (readRq [113,b1,b2,b3,b4,b5,b6,b7,b8,b9]).2])/\Ext w w':=by
 have hneg:zbH ⟨b1.toNat,b2.toNat,⟨b3.toNat,b4.toNat,b5.toNat,numB [b6,b7,b8,b9]⟩⟩=0->readRq [113,b1,b2,b3,b4,b5,b6,b7,b8,b9]=(⟨b1.toNat,b2.toNat,⟨b3.toNat,b4.toNat,b5.toNat,numB [b6,b7,b8,b9]⟩⟩,0):=fun h=>if_neg (show ¬ (zbH ⟨b1.toNat,b2.toNat,⟨b3.toNat,b4.toNat,b5.toNat,numB [b6,b7,b8,b9]⟩⟩≠0) from fun k=>k h);have hpos:¬ zbH ⟨b1.toNat,b2.toNat,⟨b3.toNat,b4.toNat,b5.toNat,numB [b6,b7,b8,b9]⟩⟩=0->readRq [113,b1,b2,b3,b4,b5,b6,b7,b8,b9]=(zeroRq,zbH ⟨b1.toNat,b2.toNat,⟨b3.toNat,b4.toNat,b5.toNat,numB [b6,b7,b8,b9]⟩⟩):=fun h=>if_pos (show zbH ⟨b1.toNat,b2.toNat,⟨b3.toNat,b4.toNat,b5.toNat,numB [b6,b7,b8,b9]⟩⟩≠0 from h);generalize readRq [113,b1,b2,b3,b4,b5,b6,b7,b8,b9]=RR at *;obtain ⟨R,E⟩:=RR;obtain ⟨b,off,cap,rfl,hc1,hc2,⟨c0,c1,c2,c3,c4,c5⟩,h6⟩:=znu hv;have hN:=fun wx (h:Ext w wx)=>zkW _ b6 b7 b8 b9 wx (h6.ext h);unfold maxLen at hc2;clear hv h6;generalize numB [b6,b7,b8,b9]=n at *;have HN:=zhd hneg;have HP:=zhd hpos;clear hneg hpos;have hk6:¬ cap=6:=by omega
 have hbw:=zgm;have e0:Ext w (w.alloc (.cells #[I 0,I 0,I 0,I 0,I 0,I 0] 35)):=(Ext.refl w).alloc _;have HB:=zhd (fun wx (h:Ext (w.alloc (.cells #[I 0,I 0,I 0,I 0,I 0,I 0] 35)) wx)=>zbb h);replace c0:=e0.cell c0;replace c1:=e0.cell c1;replace c2:=e0.cell c2;replace c3:=e0.cell c3;replace c4:=e0.cell c4;replace c5:=e0.cell c5;go_enter Try.func55,Try.ntmps55
 go_wp2_with fail
 generalize hw0:w.alloc (.cells #[I 0,I 0,I 0,I 0,I 0,I 0] 35)=w0 at *;have HW0:=zhd hw0;clear hw0 c0;refine zau 26 [none,none,none,none,none,none,none,none,none,none,none,none,none,none,none,none,none,none,none,none,none,none,some (.inl (I n)),none,none,some (.inr (zlP w0.heap.size 35 #[I 0,I 0,I 0,I 0,I 0,I 0]))] (by kernel_rfl) (by kernel_rfl) ?_ ?_
 ·exact ⟨trivial,trivial,trivial,trivial,trivial,trivial,trivial,trivial,trivial,trivial,trivial,trivial,trivial,trivial,trivial,trivial,trivial,trivial,trivial,trivial,trivial,trivial,trivial,trivial,trivial,zjy _ _ _,trivial⟩
 iterate 2 (refine zaj (fun K hK=>?_); go_simp; refine hK _ ?_; clear hK K)
 refine zax (U b1) rfl (fun w' hw'=>by have q0:=hw'.cell c1; go_simp) ?_;iterate 3 (refine zaj (fun K hK=>?_); go_simp; refine hK _ ?_; clear hK K)
 refine zax (U b2) rfl (fun w' hw'=>by have q0:=hw'.cell c2; go_simp) ?_;iterate 3 (refine zaj (fun K hK=>?_); go_simp; refine hK _ ?_; clear hK K)
 refine zax (U b3) rfl (fun w' hw'=>by have q0:=hw'.cell c3; go_simp) ?_;iterate 3 (refine zaj (fun K hK=>?_); go_simp; refine hK _ ?_; clear hK K)
 refine zax (U b4) rfl (fun w' hw'=>by have q0:=hw'.cell c4; go_simp) ?_;iterate 3 (refine zaj (fun K hK=>?_); go_simp; refine hK _ ?_; clear hK K)
 refine zax (U b5) rfl (fun w' hw'=>by have q0:=hw'.cell c5; go_simp) ?_;iterate 3 (refine zaj (fun K hK=>?_); go_simp; refine hK _ ?_; clear hK K)
 refine zdd _ rfl (fun w' hw' _=>?_) ?_
 ·have hg:=zb6 (hN w' (e0.trans hw'));unfold zaI;go_simp
  exact ⟨Ext.refl _,hg⟩
 iterate 2 (refine zaj (fun K hK=>?_); go_simp; refine hK _ ?_; clear hK K)
 refine za0 _ rfl (fun w' hw' hk=>?_) (fun v4=>?_)
 ·clear hk;unfold zaI;go_simp
  exact ⟨(Ext.refl _).alloc _,zjP hw'.size⟩
 refine zaL ?_;intro w1 e1 hX;obtain ⟨d,rfl,hd0,hd1⟩:zlP w0.heap.size 35 #[I 0,I 0,I 0,I 0,I 0,I 0] v4 w1:=hX 4;clear hX hN;obtain ⟨⟨x0,x1,x2,x3,x4,x5⟩,f0,f1,f2,f3,f4,f5⟩:=zjo hd1;have e2:=zgX e1 hd0 (I b1.toNat) (I b2.toNat) (I b3.toNat) (I b4.toNat) (I b5.toNat) (I n);have hd2:=zok hd1 (I b1.toNat) (I b2.toNat) (I b3.toNat) (I b4.toNat) (I b5.toNat) (I n);go_wp2_with fail
 clear x0 x1 x2 x3 x4 x5 f0 f1 f2 f3 f4 f5 c1 c2 c3 c4 c5 hd1 e1;generalize hw2:(((((w1.setCell ⟨d,0,none⟩ (I b1.toNat)).setCell ⟨d,1,none⟩ (I b2.toNat)).setCell ⟨d,2,none⟩ (I b3.toNat)).setCell ⟨d,3,none⟩ (I b4.toNat)).setCell ⟨d,4,none⟩ (I b5.toNat)).setCell ⟨d,5,none⟩ (I n)=w2 at *;clear hw2 hbw;refine Calls.exts (zfs (b1.toNat:Int) b2.toNat b3.toNat b4.toNat b5.toNat n w2) (fun w5 e5=>?_);have rb:=HB.o w5 (e2.trans e5);obtain ⟨⟨z0,z1,z2,z3,z4,z5⟩,f0,f1,f2,f3,f4,f5⟩:=zjo rb;have m5:Ext w w5:=e0.trans (e2.trans e5);by_cases hz:zbH ⟨b1.toNat,b2.toNat,⟨b3.toNat,b4.toNat,b5.toNat,n⟩⟩=0
 ·rw [hz];obtain ⟨⟨x0,x1,x2,x3,x4,x5⟩,-⟩:=zjo (zc9 hd2 e5);have HZ:=zhd hz;clear hz;go_wp2
  have rb2:=zok rb (I b1.toNat) (I b2.toNat) (I b3.toNat) (I b4.toNat) (I b5.toNat) (I n);obtain ⟨⟨q0,q1,q2,q3,q4,q5⟩,-⟩:=zjo rb2;have m6:=zgX m5 (Nat.le_refl w.heap.size) (I b1.toNat) (I b2.toNat) (I b3.toNat) (I b4.toNat) (I b5.toNat) (I n);clear x0 x1 x2 x3 x4 x5 z0 z1 z2 z3 z4 z5 f0 f1 f2 f3 f4 f5;refine bodyPost_ret (by simp [results,Try.results55,go_sem,q0,q1,q2,q3,q4,q5]; rfl) rfl ?_;obtain ⟨h1,h2⟩:=Prod.mk.inj (HN.o HZ.o);rw [h1,h2];exact ⟨rfl,m6⟩
 ·have hb:(zbH ⟨b1.toNat,b2.toNat,⟨b3.toNat,b4.toNat,b5.toNat,n⟩⟩ != 0)=true:=by simpa using hz
  have HZ:=zhd hz;clear hz;go_wp2
  have rb2:=zok rb (I 0) (I 0) (I 0) (I 0) (I 0) (I 0);obtain ⟨⟨q0,q1,q2,q3,q4,q5⟩,-⟩:=zjo rb2;have m6:=zgX m5 (Nat.le_refl w.heap.size) (I 0) (I 0) (I 0) (I 0) (I 0) (I 0);clear z0 z1 z2 z3 z4 z5 f0 f1 f2 f3 f4 f5;refine bodyPost_ret (by simp [results,Try.results55,go_sem,q0,q1,q2,q3,q4,q5]; rfl) rfl ?_;obtain ⟨h1,h2⟩:=Prod.mk.inj (HP.o HZ.o);rw [h1,h2];exact ⟨rfl,m6⟩

theorem zfJ (v:Value) (l:List UInt8) (w:World) (hv:zbk w v l) :
  Calls Try.prog 55 #[v] w fun e w'=>e=.returned (.tuple #[RQ (readRq l).1,I (readRq l).2])/\Ext w w':=by
 by_cases hf:l.length=10/\l.getD 0 0=113
 ·obtain ⟨b1,b2,b3,b4,b5,b6,b7,b8,b9,rfl⟩:=znY hf
  exact zfu v b1 b2 b3 b4 b5 b6 b7 b8 b9 w hv
 ·exact zfw v l w hv hf

theorem zfO (v:Value) (l:List UInt8) (w:World) (hv:zbk w v l) (hf:¬ (l.length=8/\l.getD 0 0=97)) :
  Calls Try.prog 50 #[v] w fun e w'=>e=.returned (.tuple #[AN (readAn l).1,I (readAn l).2])/\Ext w w':=by
 rw [zjJ hf];obtain ⟨ao,cap,rfl,h1,h2,h3⟩:=hv.form;unfold maxLen at h2;clear hv;by_cases hl:l.length=8
 ·obtain ⟨b,off,rfl,hc⟩:=h3 0 (by omega);have hm:¬ l.getD 0 0=97:=fun h=>hf ⟨hl,h⟩;clear h3 hf;simp only [Nat.add_zero] at hc;rw [hl] at h1 ⊢;generalize l.getD 0 0=x at *
  have hu:((x.toNat:Int) != 97)=true:=by
   rw [bne_iff_ne];intro h;exact hm (UInt8.toNat_inj.1 (show x.toNat=97 by omega))
  replace hc:=((Ext.refl w).alloc (.cells #[I 0,I 0,I 0,I 0] 96)).cell hc;clear hm hl;go_enter Try.func50,Try.ntmps50
  go_wp2
  refine bodyPost_ret (by simp [results,Try.results50,go_sem]; rfl) rfl ?_;exact ⟨rfl,(Ext.refl w).alloc _⟩
 ·have hne:(((l.length:Int)) != 8)=true:=by rw [bne_iff_ne]; omega
  clear h3 hf hl;go_enter Try.func50,Try.ntmps50
  go_wp2
  refine bodyPost_ret (by simp [results,Try.results50,go_sem]; rfl) rfl ?_;exact ⟨rfl,(Ext.refl w).alloc _⟩

theorem zfH (v:Value) (b1 b2 b3 b4 b5 b6 b7:UInt8) (w:World) (hv:zbk w v [97,b1,b2,b3,b4,b5,b6,b7]) :
  Calls Try.prog 50 #[v] w fun e w'=>e=.returned (.tuple #[AN (readAn [97,b1,b2,b3,b4,b5,b6,b7]).1,I (readAn [97,b1,b2,b3,b4,b5,b6,b7]).2])/\Ext w w':=by
 have hneg:zbE ⟨b1.toNat,b2.toNat,⟨b3.toNat,numB [b4,b5,b6,b7]⟩⟩=0->readAn [97,b1,b2,b3,b4,b5,b6,b7]=(⟨b1.toNat,b2.toNat,⟨b3.toNat,numB [b4,b5,b6,b7]⟩⟩,0):=fun h=>if_neg (show ¬ (zbE ⟨b1.toNat,b2.toNat,⟨b3.toNat,numB [b4,b5,b6,b7]⟩⟩≠0) from fun k=>k h);have hpos:¬ zbE ⟨b1.toNat,b2.toNat,⟨b3.toNat,numB [b4,b5,b6,b7]⟩⟩=0->readAn [97,b1,b2,b3,b4,b5,b6,b7]=(zeroAn,zbE ⟨b1.toNat,b2.toNat,⟨b3.toNat,numB [b4,b5,b6,b7]⟩⟩):=fun h=>if_pos (show zbE ⟨b1.toNat,b2.toNat,⟨b3.toNat,numB [b4,b5,b6,b7]⟩⟩≠0 from h);generalize readAn [97,b1,b2,b3,b4,b5,b6,b7]=RR at *;obtain ⟨R,E⟩:=RR;obtain ⟨b,off,cap,rfl,hc1,hc2,⟨c0,c1,c2,c3⟩,h6⟩:=zn0 hv;have hN:=fun wx (h:Ext w wx)=>zkW _ b4 b5 b6 b7 wx (h6.ext h);unfold maxLen at hc2;clear hv h6;generalize numB [b4,b5,b6,b7]=n at *;have HN:=zhd hneg;have HP:=zhd hpos;clear hneg hpos;have hk6:¬ cap=4:=by omega
 have hbw:=zgm;have e0:Ext w (w.alloc (.cells #[I 0,I 0,I 0,I 0] 96)):=(Ext.refl w).alloc _;have HB:=zhd (fun wx (h:Ext (w.alloc (.cells #[I 0,I 0,I 0,I 0] 96)) wx)=>zbb h);replace c0:=e0.cell c0;replace c1:=e0.cell c1;replace c2:=e0.cell c2;replace c3:=e0.cell c3;go_enter Try.func50,Try.ntmps50
 go_wp2_with fail
 generalize hw0:w.alloc (.cells #[I 0,I 0,I 0,I 0] 96)=w0 at *;have HW0:=zhd hw0;clear hw0 c0;refine zau 18 [none,none,none,none,none,none,none,none,none,none,none,none,none,none,some (.inl (I n)),none,none,some (.inr (zlP w0.heap.size 96 #[I 0,I 0,I 0,I 0]))] (by kernel_rfl) (by kernel_rfl) ?_ ?_
 ·exact ⟨trivial,trivial,trivial,trivial,trivial,trivial,trivial,trivial,trivial,trivial,trivial,trivial,trivial,trivial,trivial,trivial,trivial,zjy _ _ _,trivial⟩
 iterate 2 (refine zaj (fun K hK=>?_); go_simp; refine hK _ ?_; clear hK K)
 refine zax (U b1) rfl (fun w' hw'=>by have q0:=hw'.cell c1; go_simp) ?_;iterate 3 (refine zaj (fun K hK=>?_); go_simp; refine hK _ ?_; clear hK K)
 refine zax (U b2) rfl (fun w' hw'=>by have q0:=hw'.cell c2; go_simp) ?_;iterate 3 (refine zaj (fun K hK=>?_); go_simp; refine hK _ ?_; clear hK K)
 refine zax (U b3) rfl (fun w' hw'=>by have q0:=hw'.cell c3; go_simp) ?_;iterate 3 (refine zaj (fun K hK=>?_); go_simp; refine hK _ ?_; clear hK K)
 refine zdd _ rfl (fun w' hw' _=>?_) ?_
 ·have hg:=zb6 (hN w' (e0.trans hw'));unfold zaI;go_simp
  exact ⟨Ext.refl _,hg⟩
 iterate 2 (refine zaj (fun K hK=>?_); go_simp; refine hK _ ?_; clear hK K)
 refine za0 _ rfl (fun w' hw' hk=>?_) (fun v4=>?_)
 ·clear hk;unfold zaI;go_simp
  exact ⟨(Ext.refl _).alloc _,zjP hw'.size⟩
 refine zaL ?_;intro w1 e1 hX;obtain ⟨d,rfl,hd0,hd1⟩:zlP w0.heap.size 96 #[I 0,I 0,I 0,I 0] v4 w1:=hX 4;clear hX hN;obtain ⟨x0,x1,x2,x3,f0,f1,f2,f3⟩:=zdo hd1;have e2:=zc5 e1 hd0 (I b1.toNat) (I b2.toNat) (I b3.toNat) (I n);have hd2:=set4 hd1 (I b1.toNat) (I b2.toNat) (I b3.toNat) (I n);go_wp2_with fail
 clear x0 x1 x2 x3 f0 f1 f2 f3 c1 c2 c3 hd1 e1;generalize hw2:(((w1.setCell ⟨d,0,none⟩ (I b1.toNat)).setCell ⟨d,1,none⟩ (I b2.toNat)).setCell ⟨d,2,none⟩ (I b3.toNat)).setCell ⟨d,3,none⟩ (I n)=w2 at *;clear hw2 hbw;refine Calls.exts (zfR (b1.toNat:Int) b2.toNat b3.toNat n w2) (fun w5 e5=>?_);have rb:=HB.o w5 (e2.trans e5);obtain ⟨z0,z1,z2,z3,f0,f1,f2,f3⟩:=zdo rb;have m5:Ext w w5:=e0.trans (e2.trans e5);by_cases hz:zbE ⟨b1.toNat,b2.toNat,⟨b3.toNat,n⟩⟩=0
 ·rw [hz];obtain ⟨x0,x1,x2,x3,-⟩:=zdo (zc9 hd2 e5);have HZ:=zhd hz;clear hz;go_wp2
  have rb2:=set4 rb (I b1.toNat) (I b2.toNat) (I b3.toNat) (I n);obtain ⟨q0,q1,q2,q3,-⟩:=zdo rb2;have m6:=zc5 m5 (Nat.le_refl w.heap.size) (I b1.toNat) (I b2.toNat) (I b3.toNat) (I n);clear x0 x1 x2 x3 z0 z1 z2 z3 f0 f1 f2 f3;refine bodyPost_ret (by simp [results,Try.results50,go_sem,q0,q1,q2,q3]; rfl) rfl ?_;obtain ⟨h1,h2⟩:=Prod.mk.inj (HN.o HZ.o);rw [h1,h2];exact ⟨rfl,m6⟩
 ·have hb:(zbE ⟨b1.toNat,b2.toNat,⟨b3.toNat,n⟩⟩ != 0)=true:=by simpa using hz
  have HZ:=zhd hz;clear hz;go_wp2
  have rb2:=set4 rb (I 0) (I 0) (I 0) (I 0);obtain ⟨q0,q1,q2,q3,-⟩:=zdo rb2;have m6:=zc5 m5 (Nat.le_refl w.heap.size) (I 0) (I 0) (I 0) (I 0);clear z0 z1 z2 z3 f0 f1 f2 f3;refine bodyPost_ret (by simp [results,Try.results50,go_sem,q0,q1,q2,q3]; rfl) rfl ?_;obtain ⟨h1,h2⟩:=Prod.mk.inj (HP.o HZ.o);rw [h1,h2];exact ⟨rfl,m6⟩

theorem zd5 (v:Value) (l:List UInt8) (w:World) (hv:zbk w v l) :
  Calls Try.prog 50 #[v] w fun e w'=>e=.returned (.tuple #[AN (readAn l).1,I (readAn l).2])/\Ext w w':=by
 by_cases hf:l.length=8/\l.getD 0 0=97
 ·obtain ⟨b1,b2,b3,b4,b5,b6,b7,rfl⟩:=zm4 hf
  exact zfH v b1 b2 b3 b4 b5 b6 b7 w hv
 ·exact zfO v l w hv hf

open Go.RowKit Go.Mk

theorem zja {w:World} {v:Value} {l:List An} (h:zaq 4 ziR w v l):∃ ao cap,v=.slice ao l.length cap/\l.length<=cap/\cap<=maxLen /\
  ∀ k x,l[k]?=some x->∃ b off,ao=some ⟨b,off,none⟩/\w.cell? ⟨b,off+k * 4,none⟩=some (I x.client)/\w.cell? ⟨b,off+k * 4+1,none⟩=some (I x.token)/\w.cell? ⟨b,off+k * 4+2,none⟩=some (I x.reply.err)/\w.cell? ⟨b,off+k * 4+3,none⟩=some (I x.reply.n):=by
 obtain ⟨ao,cap,h1,h2,h3,-,h5⟩:=h.form (by decide)
 refine ⟨ao,cap,h1,h2,h3,fun k x hx=>?_⟩
 obtain ⟨b,off,c,e,-,hc,hcell⟩:=h5 k x hx
 have hc:c=[I x.client,I x.token,I x.reply.err,I x.reply.n]:=hc
 subst hc
 exact ⟨b,off,e,hcell 0 _ rfl,by rw [Nat.add_assoc]; exact hcell 1 _ rfl,by rw [Nat.add_assoc]; exact hcell 2 _ rfl,by rw [Nat.add_assoc]; exact hcell 3 _ rfl⟩

theorem zl3 {l:List An} {k:Nat} {x:An} {n:Int} (h:l[k]?=some x) (hn:x.client=n):lastAn (l.drop k) n=(x,true):=by
 have hk:k < l.length:=(List.getElem?_eq_some_iff.1 h).1
 rw [List.drop_eq_getElem_cons hk,(List.getElem?_eq_some_iff.1 h).2]
 exact if_pos hn
theorem zlp {l:List An} {k:Nat} {x:An} {n:Int} (h:l[k]?=some x) (hn:¬ x.client=n):lastAn (l.drop k) n=lastAn (l.drop (k+1)) n:=by
 have hk:k < l.length:=(List.getElem?_eq_some_iff.1 h).1
 rw [List.drop_eq_getElem_cons hk,(List.getElem?_eq_some_iff.1 h).2]
 exact if_neg hn
theorem zmD {l:List An} {k:Nat} {n:Int} (h:l.length<=k):lastAn (l.drop k) n=(zeroAn,false):=by
 rw [List.drop_of_length_le h]
 rfl

theorem zjr (c u a p:Value) (s:St) (n:Int) (w:World) (h:zcm w [c,u,a,p] s) :
  Calls Try.prog 56 #[.agg #[c,u,a,p],I n] w fun e w'=>e=.returned (.tuple #[AN (lastAn s.answers n).1,.bool (lastAn s.answers n).2])/\Ext w w':=by
 obtain ⟨h1,h2,h3,h4⟩:=zdB.1 h;clear h h1 h2 h4;obtain ⟨aa,ac,rfl,g1,g2,g3⟩:=zja h3;unfold maxLen at g2;clear h3;generalize hl:s.answers=l at *;clear hl;obtain ⟨RA,RB,hRR⟩:∃ RA RB,lastAn l n=(RA,RB):=⟨_,_,rfl⟩;have HR:=zhd hRR;rw [hRR];clear hRR;have HG:=zhd g3;clear g3;go_enter Try.func56,Try.ntmps56
 go_wp2
 go_loop [10] (fun i=>∃ k:Nat,k<=l.length/\i=I k/\lastAn (l.drop k) n=(RA,RB)) (fun i=>l.length - (intOf i).toNat)
 case atStart=>exact ⟨0,by omega,rfl,HR.o⟩
 case round =>
  obtain ⟨k,hk,rfl,hf⟩:=hrel;have HF:=zhd hf;clear hf;have e0:Ext w ((w.alloc (.cells #[c,u,.slice aa l.length ac,p] 30)).alloc (.cells #[I 0,I 0,I 0,I 0] 96)):=((Ext.refl w).alloc _).alloc _;by_cases hlt:k < l.length
  ·obtain ⟨x,hx⟩:∃ x,l[k]?=some x:=⟨l[k],List.getElem?_eq_getElem hlt⟩;obtain ⟨b,off,rfl,c0,c1,c2,c3⟩:=HG.o k x hx;have HX:=zhd hx;clear hx;replace c0:=e0.cell c0;replace c1:=e0.cell c1;replace c2:=e0.cell c2;replace c3:=e0.cell c3;obtain ⟨xc,xt,⟨xe,xn⟩⟩:=x;by_cases hc:xc=n
   ·have hb:(xc == n)=true:=by simpa using hc
    have HC:=zhd hc;clear hc;go_wp2
    refine bodyPost_ret (by simp [results,Try.results56,go_sem]; rfl) rfl ?_;have:=zl3 HX.o HC.o;rw [HF.o] at this;obtain ⟨rfl,rfl⟩:=Prod.mk.inj this;exact ⟨rfl,((Ext.refl w).alloc _).alloc _⟩
   ·have hb:(xc == n)=false:=by simpa using hc
    have HC:=zhd hc;clear hc;go_wp2
    go_round
    case rel=>exact ⟨k+1,by omega,by go_num,by rw [<- zlp HX.o HC.o]; exact HF.o⟩
    case measure=>simp [intOf]; omega
  ·go_wp2
   refine bodyPost_ret (by simp [results,Try.results56,go_sem]; rfl) rfl ?_;have:=HF.o;rw [zmD (by omega)] at this;obtain ⟨rfl,rfl⟩:=Prod.mk.inj this;exact ⟨rfl,e0⟩

end Go.Proofs.Ytdmipnnfoolelaf

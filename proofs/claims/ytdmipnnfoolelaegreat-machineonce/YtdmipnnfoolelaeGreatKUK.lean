/- Texts of the proof, merged: E6 E7 E8. -/
import Derived.Test.YtdmipnnfoolelaeGreatKUA
import Derived.Test.YtdmipnnfoolelaeGreatKUJ
import Derived.Test.YtdmipnnfoolelaeGreatKUI
set_option maxHeartbeats 1000000
set_option maxRecDepth 100000

namespace Go.Proofs.YtdmipnnfoolelaeGreat
open Go.RowKit Go.Mk

theorem wrapU (n:Int):(Value.int .u8 (IntKind.u8.wrap n))=U (Mk.byteOf n):=by
 rw [<- byteU]
 refine congrArg (Value.int .u8) ?_
 unfold IntKind.wrap
 simp [IntKind.signed,IntKind.bits]

theorem zfu (c t k a o n:Int) (w:World) :
  zaU Tryz.prog 53 #[RQ ⟨c,t,⟨k,a,o,n⟩⟩] w fun v w'=>zdd w.heap.size w' v (zcq ⟨c,t,⟨k,a,o,n⟩⟩):=by
 unfold zaU;have e0:Ext w (w.alloc (.cells #[I c,I t,I k,I a,I o,I n] 36)):=(Ext.refl w).alloc _
 have HB:Hid (∀ wx,Ext (w.alloc (.cells #[I c,I t,I k,I a,I o,I n] 36)) wx->wx.cell? ⟨w.heap.size,0,none⟩=some (I c)/\wx.cell? ⟨w.heap.size,1,none⟩=some (I t)/\wx.cell? ⟨w.heap.size,2,none⟩=some (I k)/\wx.cell? ⟨w.heap.size,3,none⟩=some (I a)/\wx.cell? ⟨w.heap.size,4,none⟩=some (I o)/\wx.cell? ⟨w.heap.size,5,none⟩=some (I n)):=fun wx hx =>
  ⟨hx.cell (by simp),hx.cell (by simp),hx.cell (by simp),hx.cell (by simp),hx.cell (by simp),hx.cell (by simp)⟩
 go_enter Tryz.func53,Tryz.ntmps53
 go_wp2_with fail
 generalize hw0:w.alloc (.cells #[I c,I t,I k,I a,I o,I n] 36)=w0 at *;have HW0:=zhd hw0;clear hw0;obtain ⟨c0,c1,c2,c3,c4,c5⟩:=HB.o w0 (Ext.refl _)
 refine zbj [none,none,none,none,none,none,none,none,none,none,none,none,none,none,none,none,none,none,
  some (.inr fun v wx=>zbb wx v [Mk.byteOf c,Mk.byteOf t,Mk.byteOf k,Mk.byteOf a,Mk.byteOf o]),some (.inl (.string ⟨#[Mk.byteOf c,Mk.byteOf t,Mk.byteOf k,Mk.byteOf a,Mk.byteOf o]⟩)),some (.inl (.string ⟨#[113,Mk.byteOf c,Mk.byteOf t,Mk.byteOf k,Mk.byteOf a,Mk.byteOf o]⟩)),none,none,none,
  some (.inl (.string ⟨(zdo n).toArray⟩)),some (.inl (.string ⟨(zcq ⟨c,t,⟨k,a,o,n⟩⟩).toArray⟩)),some (.inr fun v wx=>zdd w.heap.size wx v (zcq ⟨c,t,⟨k,a,o,n⟩⟩)),none] (by kernel_rfl) (by kernel_rfl) ?_ ?_
 ·exact ⟨trivial,trivial,trivial,trivial,trivial,trivial,trivial,trivial,trivial,trivial,trivial,trivial,trivial,trivial,trivial,trivial,trivial,trivial,zki _,trivial,trivial,trivial,trivial,trivial,trivial,trivial,zeQ _ _,trivial,trivial⟩
 (refine zap (fun K hK=>?_); go_simp; refine hK _ ?_; clear hK K)
 refine zav (I c) rfl (fun w' hw'=>by have q0:=hw'.cell c0; go_simp) ?_;iterate 2 (refine zap (fun K hK=>?_); go_simp; refine hK _ ?_; clear hK K)
 refine zav (I t) rfl (fun w' hw'=>by have q0:=hw'.cell c1; go_simp) ?_;iterate 3 (refine zap (fun K hK=>?_); go_simp; refine hK _ ?_; clear hK K)
 refine zav (I k) rfl (fun w' hw'=>by have q0:=hw'.cell c2; go_simp) ?_;iterate 3 (refine zap (fun K hK=>?_); go_simp; refine hK _ ?_; clear hK K)
 refine zav (I a) rfl (fun w' hw'=>by have q0:=hw'.cell c3; go_simp) ?_;iterate 3 (refine zap (fun K hK=>?_); go_simp; refine hK _ ?_; clear hK K)
 refine zav (I o) rfl (fun w' hw'=>by have q0:=hw'.cell c4; go_simp) ?_;(refine zap (fun K hK=>?_); go_simp; refine hK _ ?_; clear hK K)
 refine za9 _ rfl (fun w' hw' _=>?_) (fun v21=>?_)
 ·unfold zaL;go_simp
  exact ⟨(Ext.refl _).alloc _,zgN _ _ _ 5 (by rw [wrapU,wrapU,wrapU,wrapU,wrapU]; rfl) rfl (by decide)⟩
 refine zdb _ rfl (fun w' hw' hk=>?_) ?_
 ·have h21:zbb w' v21 [Mk.byteOf c,Mk.byteOf t,Mk.byteOf k,Mk.byteOf a,Mk.byteOf o]:=hk 21 (by decide);have hcv:=zds (P:=Tryz.prog) h21 zhQ zu5 zu9;clear hk;unfold zaL;go_simp
  exact ⟨Ext.refl _,rfl⟩
 refine zai fun K h=>?_; go_simp; refine h _ ?_; clear h K;refine zdb _ rfl (fun w' hw' _=>?_) ?_
 ·have ha:=run_string_add_lists (P:=Tryz.prog) w' [113] [Mk.byteOf c,Mk.byteOf t,Mk.byteOf k,Mk.byteOf a,Mk.byteOf o] (by decide) (by simp);unfold zaL;go_simp
  exact ⟨Ext.refl _,rfl⟩
 refine zai fun K h=>?_; go_simp; refine h _ ?_; clear h K;iterate 2 (refine zap (fun K hK=>?_); go_simp; refine hK _ ?_; clear hK K)
 refine zav (I n) rfl (fun w' hw'=>by have q0:=hw'.cell c5; go_simp) ?_;refine zdb _ rfl (fun w' hw' _=>?_) ?_
 ·have hg:=zcs (zml n w');unfold zaL;go_simp
  exact ⟨Ext.refl _,hg⟩
 refine zai fun K h=>?_; go_simp; refine h _ ?_; clear h K;refine zdb _ rfl (fun w' hw' _=>?_) ?_
 ·have ha:=run_string_add_lists (P:=Tryz.prog) w' [113,Mk.byteOf c,Mk.byteOf t,Mk.byteOf k,Mk.byteOf a,Mk.byteOf o] (zdo n) (by simp) (by simp [zdo]);unfold zaL;go_simp
  exact ⟨Ext.refl _,rfl⟩
 refine zai fun K h=>?_; go_simp; refine h _ ?_; clear h K;refine za9 _ rfl (fun w' hw' _=>?_) (fun v29=>?_)
 ·have ha:=run_bytes_of_string (P:=Tryz.prog) w' 9 78 5 ⟨(zcq ⟨c,t,⟨k,a,o,n⟩⟩).toArray⟩ zu9 zhQ zu5;unfold zaL;go_simp
  exact ⟨(Ext.refl _).drew.alloc _,_,_,_,_,rfl,Nat.le_trans (by rw [<- HW0.o]; simp) hw'.size,zf2 w' 5 (zcq ⟨c,t,⟨k,a,o,n⟩⟩) (show 10<=maxLen by decide) _⟩
 (refine zap (fun K hK=>?_); go_simp; refine hK _ ?_; clear hK K)
 refine zaM ?_;intro w4 he4 hX;have hr:zdd w.heap.size w4 v29 (zcq ⟨c,t,⟨k,a,o,n⟩⟩):=hX 29;clear hX c0 c1 c2 c3 c4 c5;go_wp2
 go_ret
 exact ⟨v29,rfl,e0.trans he4,hr⟩

theorem zf5 (c t x n:Int) (w:World) :
  zaU Tryz.prog 55 #[AN ⟨c,t,⟨x,n⟩⟩] w fun v w'=>zdd w.heap.size w' v (zch ⟨c,t,⟨x,n⟩⟩):=by
 unfold zaU;have e0:Ext w (w.alloc (.cells #[I c,I t,I x,I n] 99)):=(Ext.refl w).alloc _
 have HB:Hid (∀ wx,Ext (w.alloc (.cells #[I c,I t,I x,I n] 99)) wx->wx.cell? ⟨w.heap.size,0,none⟩=some (I c)/\wx.cell? ⟨w.heap.size,1,none⟩=some (I t)/\wx.cell? ⟨w.heap.size,2,none⟩=some (I x)/\wx.cell? ⟨w.heap.size,3,none⟩=some (I n)):=fun wx hx =>
  ⟨hx.cell (by simp),hx.cell (by simp),hx.cell (by simp),hx.cell (by simp)⟩
 go_enter Tryz.func55,Tryz.ntmps55
 go_wp2_with fail
 generalize hw0:w.alloc (.cells #[I c,I t,I x,I n] 99)=w0 at *;have HW0:=zhd hw0;clear hw0;obtain ⟨c0,c1,c2,c3⟩:=HB.o w0 (Ext.refl _)
 refine zbj [none,none,none,none,none,none,none,none,none,none,
  some (.inr fun v wx=>zbb wx v [Mk.byteOf c,Mk.byteOf t,Mk.byteOf x]),some (.inl (.string ⟨#[Mk.byteOf c,Mk.byteOf t,Mk.byteOf x]⟩)),some (.inl (.string ⟨#[97,Mk.byteOf c,Mk.byteOf t,Mk.byteOf x]⟩)),none,none,none,
  some (.inl (.string ⟨(zdo n).toArray⟩)),some (.inl (.string ⟨(zch ⟨c,t,⟨x,n⟩⟩).toArray⟩)),some (.inr fun v wx=>zdd w.heap.size wx v (zch ⟨c,t,⟨x,n⟩⟩)),none] (by kernel_rfl) (by kernel_rfl) ?_ ?_
 ·exact ⟨trivial,trivial,trivial,trivial,trivial,trivial,trivial,trivial,trivial,trivial,zki _,trivial,trivial,trivial,trivial,trivial,trivial,trivial,zeQ _ _,trivial,trivial⟩
 (refine zap (fun K hK=>?_); go_simp; refine hK _ ?_; clear hK K)
 refine zav (I c) rfl (fun w' hw'=>by have q0:=hw'.cell c0; go_simp) ?_;iterate 2 (refine zap (fun K hK=>?_); go_simp; refine hK _ ?_; clear hK K)
 refine zav (I t) rfl (fun w' hw'=>by have q0:=hw'.cell c1; go_simp) ?_;iterate 3 (refine zap (fun K hK=>?_); go_simp; refine hK _ ?_; clear hK K)
 refine zav (I x) rfl (fun w' hw'=>by have q0:=hw'.cell c2; go_simp) ?_;(refine zap (fun K hK=>?_); go_simp; refine hK _ ?_; clear hK K)
 refine za9 _ rfl (fun w' hw' _=>?_) (fun v13=>?_)
 ·unfold zaL;go_simp
  exact ⟨(Ext.refl _).alloc _,zgN _ _ _ 3 (by rw [wrapU,wrapU,wrapU]; rfl) rfl (by decide)⟩
 refine zdb _ rfl (fun w' hw' hk=>?_) ?_
 ·have h13:zbb w' v13 [Mk.byteOf c,Mk.byteOf t,Mk.byteOf x]:=hk 13 (by decide);have hcv:=zds (P:=Tryz.prog) h13 zhQ zu5 zu9;clear hk;unfold zaL;go_simp
  exact ⟨Ext.refl _,rfl⟩
 refine zai fun K h=>?_; go_simp; refine h _ ?_; clear h K;refine zdb _ rfl (fun w' hw' _=>?_) ?_
 ·have ha:=run_string_add_lists (P:=Tryz.prog) w' [97] [Mk.byteOf c,Mk.byteOf t,Mk.byteOf x] (by decide) (by simp);unfold zaL;go_simp
  exact ⟨Ext.refl _,rfl⟩
 refine zai fun K h=>?_; go_simp; refine h _ ?_; clear h K;iterate 2 (refine zap (fun K hK=>?_); go_simp; refine hK _ ?_; clear hK K)
 refine zav (I n) rfl (fun w' hw'=>by have q0:=hw'.cell c3; go_simp) ?_;refine zdb _ rfl (fun w' hw' _=>?_) ?_
 ·have hg:=zcs (zml n w');unfold zaL;go_simp
  exact ⟨Ext.refl _,hg⟩
 refine zai fun K h=>?_; go_simp; refine h _ ?_; clear h K;refine zdb _ rfl (fun w' hw' _=>?_) ?_
 ·have ha:=run_string_add_lists (P:=Tryz.prog) w' [97,Mk.byteOf c,Mk.byteOf t,Mk.byteOf x] (zdo n) (by simp) (by simp [zdo]);unfold zaL;go_simp
  exact ⟨Ext.refl _,rfl⟩
 refine zai fun K h=>?_; go_simp; refine h _ ?_; clear h K;refine za9 _ rfl (fun w' hw' _=>?_) (fun v21=>?_)
 ·have ha:=run_bytes_of_string (P:=Tryz.prog) w' 9 78 5 ⟨(zch ⟨c,t,⟨x,n⟩⟩).toArray⟩ zu9 zhQ zu5;unfold zaL;go_simp
  exact ⟨(Ext.refl _).drew.alloc _,_,_,_,_,rfl,Nat.le_trans (by rw [<- HW0.o]; simp) hw'.size,zf2 w' 5 (zch ⟨c,t,⟨x,n⟩⟩) (show 8<=maxLen by decide) _⟩
 (refine zap (fun K hK=>?_); go_simp; refine hK _ ?_; clear hK K)
 refine zaM ?_;intro w4 he4 hX;have hr:zdd w.heap.size w4 v21 (zch ⟨c,t,⟨x,n⟩⟩):=hX 21;clear hX c0 c1 c2 c3;go_wp2
 go_ret
 exact ⟨v21,rfl,e0.trans he4,hr⟩

open Go.RowKit Go.Mk

theorem znI {w:World} {v:Value} {b0 b1 b2 b3 b4 b5 b6 b7 b8 b9:UInt8} (h:zbb w v [b0,b1,b2,b3,b4,b5,b6,b7,b8,b9]):∃ b off cap,v=.slice (some ⟨b,off,none⟩) 10 cap/\10<=cap/\cap<=maxLen /\
  (w.cell? ⟨b,off,none⟩=some (U b0)/\w.cell? ⟨b,off+1,none⟩=some (U b1)/\w.cell? ⟨b,off+2,none⟩=some (U b2)/\w.cell? ⟨b,off+3,none⟩=some (U b3)/\w.cell? ⟨b,off+4,none⟩=some (U b4)/\w.cell? ⟨b,off+5,none⟩=some (U b5)) /\
   zbb w (.slice (some ⟨b,off+6,none⟩) 4 (cap - 6)) [b6,b7,b8,b9]:=by
 obtain ⟨ao,cap,rfl,h1,h2,h3⟩:=h.form
 obtain ⟨b,off,rfl,c0⟩:=h3 0 (by simp)
 refine ⟨b,off,cap,rfl,h1,h2,⟨c0,?_,?_,?_,?_,?_⟩,h.drop 6 (by simp)⟩
 ·obtain ⟨_,_,e1,c1⟩:=h3 1 (by simp); cases e1; exact c1
 ·obtain ⟨_,_,e1,c1⟩:=h3 2 (by simp); cases e1; exact c1
 ·obtain ⟨_,_,e1,c1⟩:=h3 3 (by simp); cases e1; exact c1
 ·obtain ⟨_,_,e1,c1⟩:=h3 4 (by simp); cases e1; exact c1
 ·obtain ⟨_,_,e1,c1⟩:=h3 5 (by simp); cases e1; exact c1

theorem zpZ {w:World} {v:Value} {b0 b1 b2 b3 b4 b5 b6 b7:UInt8} (h:zbb w v [b0,b1,b2,b3,b4,b5,b6,b7]):∃ b off cap,v=.slice (some ⟨b,off,none⟩) 8 cap/\8<=cap/\cap<=maxLen /\
  (w.cell? ⟨b,off,none⟩=some (U b0)/\w.cell? ⟨b,off+1,none⟩=some (U b1)/\w.cell? ⟨b,off+2,none⟩=some (U b2)/\w.cell? ⟨b,off+3,none⟩=some (U b3)) /\
   zbb w (.slice (some ⟨b,off+4,none⟩) 4 (cap - 4)) [b4,b5,b6,b7]:=by
 obtain ⟨ao,cap,rfl,h1,h2,h3⟩:=h.form
 obtain ⟨b,off,rfl,c0⟩:=h3 0 (by simp)
 refine ⟨b,off,cap,rfl,h1,h2,⟨c0,?_,?_,?_⟩,h.drop 4 (by simp)⟩
 ·obtain ⟨_,_,e1,c1⟩:=h3 1 (by simp); cases e1; exact c1
 ·obtain ⟨_,_,e1,c1⟩:=h3 2 (by simp); cases e1; exact c1
 ·obtain ⟨_,_,e1,c1⟩:=h3 3 (by simp); cases e1; exact c1

theorem zff (x:UInt8):IntKind.i64.wrap (x.toNat:Int)=(x.toNat:Int):=by
 have:=x.toNat_lt
 unfold IntKind.wrap
 simp [IntKind.signed,IntKind.bits]
 omega

theorem zia {l:List UInt8} (h:¬ (l.length=10/\l.getD 0 0=113)):readRq l=(zeroRq,2):=if_pos (by by_cases h1:l.length=10 <;> simp_all)
theorem zig {l:List UInt8} (h:¬ (l.length=8/\l.getD 0 0=97)):readAn l=(zeroAn,2):=if_pos (by by_cases h1:l.length=8 <;> simp_all)

theorem zhS (v:Value) (l:List UInt8) (w:World) (hv:zbb w v l) (hf:¬ (l.length=10/\l.getD 0 0=113)) :
  Calls Tryz.prog 104 #[v] w fun e w'=>e=.returned (.tuple #[RQ (readRq l).1,I (readRq l).2])/\Ext w w':=by
 have hff:decide (l.length=10/\l.getD 0 0=113)=false:=decide_eq_false hf;have hF:=fun wx (h:Ext w wx)=>zfN v l 113 10 (by decide) wx (hv.ext h);rw [hff] at hF;rw [zia hf];clear hv hf hff;go_enter Tryz.func104,Tryz.ntmps104
 go_wp2_with fail
 refine Calls.same (hF _ ((Ext.refl w).alloc _)) ?_;go_wp2
 refine bodyPost_ret (by simp [results,Tryz.results104,go_sem]; rfl) rfl ?_;exact ⟨rfl,(Ext.refl w).alloc _⟩

theorem zh3 (v:Value) (b1 b2 b3 b4 b5 b6 b7 b8 b9:UInt8) (w:World) (hv:zbb w v [113,b1,b2,b3,b4,b5,b6,b7,b8,b9]) :
  Calls Tryz.prog 104 #[v] w fun e w'=>e=.returned (.tuple #[RQ (readRq [113,b1,b2,b3,b4,b5,b6,b7,b8,b9]).1,I (readRq [113,b1,b2,b3,b4,b5,b6,b7,b8,b9]).2])/\Ext w w':=by
 have hF:=fun wx (h:Ext w wx)=>zfN v _ 113 10 (by decide) wx (hv.ext h);have hneg:zbC ⟨b1.toNat,b2.toNat,⟨b3.toNat,b4.toNat,b5.toNat,numB [b6,b7,b8,b9]⟩⟩=0->readRq [113,b1,b2,b3,b4,b5,b6,b7,b8,b9]=(⟨b1.toNat,b2.toNat,⟨b3.toNat,b4.toNat,b5.toNat,numB [b6,b7,b8,b9]⟩⟩,0):=fun h=>if_neg (show ¬ (zbC ⟨b1.toNat,b2.toNat,⟨b3.toNat,b4.toNat,b5.toNat,numB [b6,b7,b8,b9]⟩⟩≠0) from fun k=>k h);have hpos:¬ zbC ⟨b1.toNat,b2.toNat,⟨b3.toNat,b4.toNat,b5.toNat,numB [b6,b7,b8,b9]⟩⟩=0->readRq [113,b1,b2,b3,b4,b5,b6,b7,b8,b9]=(zeroRq,zbC ⟨b1.toNat,b2.toNat,⟨b3.toNat,b4.toNat,b5.toNat,numB [b6,b7,b8,b9]⟩⟩):=fun h=>if_pos (show zbC ⟨b1.toNat,b2.toNat,⟨b3.toNat,b4.toNat,b5.toNat,numB [b6,b7,b8,b9]⟩⟩≠0 from h);have hff:decide ([113,b1,b2,b3,b4,b5,b6,b7,b8,b9].length=10/\[113,b1,b2,b3,b4,b5,b6,b7,b8,b9].getD 0 0=113)=true:=rfl;rw [hff] at hF;clear hff;generalize readRq [113,b1,b2,b3,b4,b5,b6,b7,b8,b9]=RR at *;obtain ⟨R,E⟩:=RR;obtain ⟨b,off,cap,rfl,hc1,hc2,⟨-,c1,c2,c3,c4,c5⟩,h6⟩:=znI hv;have hN:=fun wx (h:Ext w wx)=>zjF _ b6 b7 b8 b9 wx (h6.ext h);unfold maxLen at hc2;clear hv h6;generalize numB [b6,b7,b8,b9]=n at *;have HN:=zhd hneg;have HP:=zhd hpos;clear hneg hpos;have hk6:¬ cap=6:=by omega
 have hbw:=zff;have e0:Ext w (w.alloc (.cells #[I 0,I 0,I 0,I 0,I 0,I 0] 36)):=(Ext.refl w).alloc _;have HB:=zhd (fun wx (h:Ext (w.alloc (.cells #[I 0,I 0,I 0,I 0,I 0,I 0] 36)) wx)=>zbi h);go_enter Tryz.func104,Tryz.ntmps104
 go_wp2_with fail
 refine Calls.same (hF _ e0) ?_;go_wp2_with fail
 clear hF;generalize hw0:w.alloc (.cells #[I 0,I 0,I 0,I 0,I 0,I 0] 36)=w0 at *;have HW0:=zhd hw0;clear hw0;replace c1:=e0.cell c1;replace c2:=e0.cell c2;replace c3:=e0.cell c3;replace c4:=e0.cell c4;replace c5:=e0.cell c5;refine zan 17 [none,none,none,none,none,none,none,none,none,none,none,none,none,none,some (.inl (I n)),none,some (.inr (zfv w0.heap.size 34 #[I 0,I 0,I 0,I 0]))] (by kernel_rfl) (by kernel_rfl) ?_ ?_
 ·exact ⟨trivial,trivial,trivial,trivial,trivial,trivial,trivial,trivial,trivial,trivial,trivial,trivial,trivial,trivial,trivial,trivial,zdT _ _ _,trivial⟩
 iterate 2 (refine zap (fun K hK=>?_); go_simp; refine hK _ ?_; clear hK K)
 refine zav (U b3) rfl (fun w' hw'=>by have q0:=hw'.cell c3; go_simp) ?_;iterate 3 (refine zap (fun K hK=>?_); go_simp; refine hK _ ?_; clear hK K)
 refine zav (U b4) rfl (fun w' hw'=>by have q0:=hw'.cell c4; go_simp) ?_;iterate 3 (refine zap (fun K hK=>?_); go_simp; refine hK _ ?_; clear hK K)
 refine zav (U b5) rfl (fun w' hw'=>by have q0:=hw'.cell c5; go_simp) ?_;iterate 3 (refine zap (fun K hK=>?_); go_simp; refine hK _ ?_; clear hK K)
 refine zdb _ rfl (fun w' hw' _=>?_) ?_
 ·have hg:=zcs (hN w' (e0.trans hw'));unfold zaL;go_simp
  exact ⟨Ext.refl _,hg⟩
 (refine zap (fun K hK=>?_); go_simp; refine hK _ ?_; clear hK K)
 refine za9 _ rfl (fun w' hw' hk=>?_) (fun v4=>?_)
 ·clear hk;unfold zaL;go_simp
  exact ⟨(Ext.refl _).alloc _,zdZ hw'.size⟩
 refine zaM ?_;intro w1 e1 hX;obtain ⟨d,rfl,hd0,hd1⟩:zfv w0.heap.size 34 #[I 0,I 0,I 0,I 0] v4 w1:=hX 4;clear hX hN;obtain ⟨x0,x1,x2,x3,f0,f1,f2,f3⟩:=box4 hd1;have e2:=zb1 e1 hd0 (I b3.toNat) (I b4.toNat) (I b5.toNat) (I n);have hd2:=set4 hd1 (I b3.toNat) (I b4.toNat) (I b5.toNat) (I n);go_wp2_with fail
 clear x0 x1 x2 x3 f0 f1 f2 f3 c3 c4 c5 hd1 e1;generalize hw2:(((w1.setCell ⟨d,0,none⟩ (I b3.toNat)).setCell ⟨d,1,none⟩ (I b4.toNat)).setCell ⟨d,2,none⟩ (I b5.toNat)).setCell ⟨d,3,none⟩ (I n)=w2 at *;clear hw2;replace c1:=e2.cell c1;replace c2:=e2.cell c2;obtain ⟨x0,x1,x2,x3,-⟩:=box4 hd2;clear hd2;refine zan 11 [none,none,none,none,none,none,none,none,none,none,some (.inr (zfv w0.heap.size 36 #[I 0,I 0,I 0,I 0,I 0,I 0]))] (by kernel_rfl) (by kernel_rfl) ?_ ?_
 ·exact ⟨trivial,trivial,trivial,trivial,trivial,trivial,trivial,trivial,trivial,trivial,zdT _ _ _,trivial⟩
 iterate 2 (refine zap (fun K hK=>?_); go_simp; refine hK _ ?_; clear hK K)
 refine zav (U b1) rfl (fun w' hw'=>by have q0:=hw'.cell c1; go_simp) ?_;iterate 3 (refine zap (fun K hK=>?_); go_simp; refine hK _ ?_; clear hK K)
 refine zav (U b2) rfl (fun w' hw'=>by have q0:=hw'.cell c2; go_simp) ?_;(refine zap (fun K hK=>?_); go_simp; refine hK _ ?_; clear hK K)
 refine zav (.agg #[I b3.toNat,I b4.toNat,I b5.toNat,I n]) rfl (fun w' hw'=>by have q0:=hw'.cell x0; have q1:=hw'.cell x1; have q2:=hw'.cell x2; have q3:=hw'.cell x3; go_simp) ?_;(refine zap (fun K hK=>?_); go_simp; refine hK _ ?_; clear hK K)
 refine za9 _ rfl (fun w' hw' hk=>?_) (fun v5=>?_)
 ·clear hk;unfold zaL;go_simp
  exact ⟨(Ext.refl _).alloc _,zdZ (Nat.le_trans e2.size hw'.size)⟩
 refine zaM ?_;intro w3 e3 hX;obtain ⟨g,rfl,hg0,hg1⟩:zfv w0.heap.size 36 #[I 0,I 0,I 0,I 0,I 0,I 0] v5 w3:=hX 5;clear hX x0 x1 x2 x3 c1 c2;obtain ⟨⟨x0,x1,x2,x3,x4,x5⟩,f0,f1,f2,f3,f4,f5⟩:=zhj hg1;have e4:=zfc (e2.trans e3) hg0 (I b1.toNat) (I b2.toNat) (I b3.toNat) (I b4.toNat) (I b5.toNat) (I n);have hg2:=zop hg1 (I b1.toNat) (I b2.toNat) (I b3.toNat) (I b4.toNat) (I b5.toNat) (I n);go_wp2_with fail
 clear x0 x1 x2 x3 x4 x5 f0 f1 f2 f3 f4 f5 hg1 e3;generalize hw4:(((((w3.setCell ⟨g,0,none⟩ (I b1.toNat)).setCell ⟨g,1,none⟩ (I b2.toNat)).setCell ⟨g,2,none⟩ (I b3.toNat)).setCell ⟨g,3,none⟩ (I b4.toNat)).setCell ⟨g,4,none⟩ (I b5.toNat)).setCell ⟨g,5,none⟩ (I n)=w4 at *;clear hw4 hbw;refine Calls.exts (zhW (b1.toNat:Int) b2.toNat b3.toNat b4.toNat b5.toNat n w4) (fun w5 e5=>?_);have rb:=HB.o w5 (e4.trans e5);obtain ⟨⟨z0,z1,z2,z3,z4,z5⟩,f0,f1,f2,f3,f4,f5⟩:=zhj rb;have m5:Ext w w5:=e0.trans (e4.trans e5);by_cases hz:zbC ⟨b1.toNat,b2.toNat,⟨b3.toNat,b4.toNat,b5.toNat,n⟩⟩=0
 ·rw [hz];obtain ⟨⟨x0,x1,x2,x3,x4,x5⟩,-⟩:=zhj (zbP hg2 e5);have HZ:=zhd hz;clear hz;go_wp2
  have rb2:=zop rb (I b1.toNat) (I b2.toNat) (I b3.toNat) (I b4.toNat) (I b5.toNat) (I n);obtain ⟨⟨q0,q1,q2,q3,q4,q5⟩,-⟩:=zhj rb2;have m6:=zfc m5 (Nat.le_refl w.heap.size) (I b1.toNat) (I b2.toNat) (I b3.toNat) (I b4.toNat) (I b5.toNat) (I n);clear x0 x1 x2 x3 x4 x5 z0 z1 z2 z3 z4 z5 f0 f1 f2 f3 f4 f5;refine bodyPost_ret (by simp [results,Tryz.results104,go_sem,q0,q1,q2,q3,q4,q5]; rfl) rfl ?_;obtain ⟨h1,h2⟩:=Prod.mk.inj (HN.o HZ.o);rw [h1,h2];exact ⟨rfl,m6⟩
 ·have hb:(zbC ⟨b1.toNat,b2.toNat,⟨b3.toNat,b4.toNat,b5.toNat,n⟩⟩ != 0)=true:=by simpa using hz
  have HZ:=zhd hz;clear hz;go_wp2
  have rb2:=zop rb (I 0) (I 0) (I 0) (I 0) (I 0) (I 0);obtain ⟨⟨q0,q1,q2,q3,q4,q5⟩,-⟩:=zhj rb2;have m6:=zfc m5 (Nat.le_refl w.heap.size) (I 0) (I 0) (I 0) (I 0) (I 0) (I 0);clear z0 z1 z2 z3 z4 z5 f0 f1 f2 f3 f4 f5;refine bodyPost_ret (by simp [results,Tryz.results104,go_sem,q0,q1,q2,q3,q4,q5]; rfl) rfl ?_;obtain ⟨h1,h2⟩:=Prod.mk.inj (HP.o HZ.o);rw [h1,h2];exact ⟨rfl,m6⟩

theorem zp9 {l:List UInt8} (h:l.length=10/\l.getD 0 0=113):∃ b1 b2 b3 b4 b5 b6 b7 b8 b9,l=[113,b1,b2,b3,b4,b5,b6,b7,b8,b9]:=by
 obtain ⟨h1,h2⟩:=h
 match l,h1,h2 with
 | [b0,b1,b2,b3,b4,b5,b6,b7,b8,b9],_,h0 =>
  have h0:b0=113:=h0
  subst h0
  exact ⟨_,_,_,_,_,_,_,_,_,rfl⟩
theorem zlH {l:List UInt8} (h:l.length=8/\l.getD 0 0=97):∃ b1 b2 b3 b4 b5 b6 b7,l=[97,b1,b2,b3,b4,b5,b6,b7]:=by
 obtain ⟨h1,h2⟩:=h
 match l,h1,h2 with
 | [b0,b1,b2,b3,b4,b5,b6,b7],_,h0 =>
  have h0:b0=97:=h0
  subst h0
  exact ⟨_,_,_,_,_,_,_,rfl⟩

theorem ziv (v:Value) (l:List UInt8) (w:World) (hv:zbb w v l) :
  Calls Tryz.prog 104 #[v] w fun e w'=>e=.returned (.tuple #[RQ (readRq l).1,I (readRq l).2])/\Ext w w':=by
 by_cases hf:l.length=10/\l.getD 0 0=113
 ·obtain ⟨b1,b2,b3,b4,b5,b6,b7,b8,b9,rfl⟩:=zp9 hf
  exact zh3 v b1 b2 b3 b4 b5 b6 b7 b8 b9 w hv
 ·exact zhS v l w hv hf

open Go.RowKit Go.Mk

theorem zix (v:Value) (l:List UInt8) (w:World) (hv:zbb w v l) (hf:¬ (l.length=8/\l.getD 0 0=97)) :
  Calls Tryz.prog 92 #[v] w fun e w'=>e=.returned (.tuple #[AN (readAn l).1,I (readAn l).2])/\Ext w w':=by
 have hff:decide (l.length=8/\l.getD 0 0=97)=false:=decide_eq_false hf;have hF:=fun wx (h:Ext w wx)=>zfN v l 97 8 (by decide) wx (hv.ext h);rw [hff] at hF;rw [zig hf];clear hv hf hff;go_enter Tryz.func92,Tryz.ntmps92
 go_wp2_with fail
 refine Calls.same (hF _ ((Ext.refl w).alloc _)) ?_;go_wp2
 refine bodyPost_ret (by simp [results,Tryz.results92,go_sem]; rfl) rfl ?_;exact ⟨rfl,(Ext.refl w).alloc _⟩

theorem zis (v:Value) (b1 b2 b3 b4 b5 b6 b7:UInt8) (w:World) (hv:zbb w v [97,b1,b2,b3,b4,b5,b6,b7]) :
  Calls Tryz.prog 92 #[v] w fun e w'=>e=.returned (.tuple #[AN (readAn [97,b1,b2,b3,b4,b5,b6,b7]).1,I (readAn [97,b1,b2,b3,b4,b5,b6,b7]).2])/\Ext w w':=by
 have hF:=fun wx (h:Ext w wx)=>zfN v _ 97 8 (by decide) wx (hv.ext h);have hneg:zbt ⟨b1.toNat,b2.toNat,⟨b3.toNat,numB [b4,b5,b6,b7]⟩⟩=0->readAn [97,b1,b2,b3,b4,b5,b6,b7]=(⟨b1.toNat,b2.toNat,⟨b3.toNat,numB [b4,b5,b6,b7]⟩⟩,0):=fun h=>if_neg (show ¬ (zbt ⟨b1.toNat,b2.toNat,⟨b3.toNat,numB [b4,b5,b6,b7]⟩⟩≠0) from fun k=>k h);have hpos:¬ zbt ⟨b1.toNat,b2.toNat,⟨b3.toNat,numB [b4,b5,b6,b7]⟩⟩=0->readAn [97,b1,b2,b3,b4,b5,b6,b7]=(zeroAn,zbt ⟨b1.toNat,b2.toNat,⟨b3.toNat,numB [b4,b5,b6,b7]⟩⟩):=fun h=>if_pos (show zbt ⟨b1.toNat,b2.toNat,⟨b3.toNat,numB [b4,b5,b6,b7]⟩⟩≠0 from h);have hff:decide ([97,b1,b2,b3,b4,b5,b6,b7].length=8/\[97,b1,b2,b3,b4,b5,b6,b7].getD 0 0=97)=true:=rfl;rw [hff] at hF;clear hff;generalize readAn [97,b1,b2,b3,b4,b5,b6,b7]=RR at *;obtain ⟨R,E⟩:=RR;obtain ⟨b,off,cap,rfl,hc1,hc2,⟨-,c1,c2,c3⟩,h6⟩:=zpZ hv;have hN:=fun wx (h:Ext w wx)=>zjF _ b4 b5 b6 b7 wx (h6.ext h);unfold maxLen at hc2;clear hv h6;generalize numB [b4,b5,b6,b7]=n at *;have HN:=zhd hneg;have HP:=zhd hpos;clear hneg hpos;have hk6:¬ cap=4:=by omega
 have hbw:=zff;have e0:Ext w (w.alloc (.cells #[I 0,I 0,I 0,I 0] 99)):=(Ext.refl w).alloc _;have HB:=zhd (fun wx (h:Ext (w.alloc (.cells #[I 0,I 0,I 0,I 0] 99)) wx)=>zbi h);go_enter Tryz.func92,Tryz.ntmps92
 go_wp2_with fail
 refine Calls.same (hF _ e0) ?_;go_wp2_with fail
 clear hF;generalize hw0:w.alloc (.cells #[I 0,I 0,I 0,I 0] 99)=w0 at *;have HW0:=zhd hw0;clear hw0;replace c1:=e0.cell c1;replace c2:=e0.cell c2;replace c3:=e0.cell c3;refine zan 9 [none,none,none,none,none,none,some (.inl (I n)),none,some (.inr (zfv w0.heap.size 39 #[I 0,I 0]))] (by kernel_rfl) (by kernel_rfl) ?_ ?_
 ·exact ⟨trivial,trivial,trivial,trivial,trivial,trivial,trivial,trivial,zdT _ _ _,trivial⟩
 iterate 2 (refine zap (fun K hK=>?_); go_simp; refine hK _ ?_; clear hK K)
 refine zav (U b3) rfl (fun w' hw'=>by have q0:=hw'.cell c3; go_simp) ?_;iterate 3 (refine zap (fun K hK=>?_); go_simp; refine hK _ ?_; clear hK K)
 refine zdb _ rfl (fun w' hw' _=>?_) ?_
 ·have hg:=zcs (hN w' (e0.trans hw'));unfold zaL;go_simp
  exact ⟨Ext.refl _,hg⟩
 (refine zap (fun K hK=>?_); go_simp; refine hK _ ?_; clear hK K)
 refine za9 _ rfl (fun w' hw' hk=>?_) (fun v4=>?_)
 ·clear hk;unfold zaL;go_simp
  exact ⟨(Ext.refl _).alloc _,zdZ hw'.size⟩
 refine zaM ?_;intro w1 e1 hX;obtain ⟨d,rfl,hd0,hd1⟩:zfv w0.heap.size 39 #[I 0,I 0] v4 w1:=hX 4;clear hX hN;obtain ⟨x0,x1,f0,f1⟩:=box2 hd1;have e2:=zpz e1 hd0 (I b3.toNat) (I n);have hd2:=zrG hd1 (I b3.toNat) (I n);go_wp2_with fail
 clear x0 x1 f0 f1 c3 hd1 e1;generalize hw2:(w1.setCell ⟨d,0,none⟩ (I b3.toNat)).setCell ⟨d,1,none⟩ (I n)=w2 at *;clear hw2;replace c1:=e2.cell c1;replace c2:=e2.cell c2;obtain ⟨x0,x1,-⟩:=box2 hd2;clear hd2;refine zan 11 [none,none,none,none,none,none,none,none,none,none,some (.inr (zfv w0.heap.size 99 #[I 0,I 0,I 0,I 0]))] (by kernel_rfl) (by kernel_rfl) ?_ ?_
 ·exact ⟨trivial,trivial,trivial,trivial,trivial,trivial,trivial,trivial,trivial,trivial,zdT _ _ _,trivial⟩
 iterate 2 (refine zap (fun K hK=>?_); go_simp; refine hK _ ?_; clear hK K)
 refine zav (U b1) rfl (fun w' hw'=>by have q0:=hw'.cell c1; go_simp) ?_;iterate 3 (refine zap (fun K hK=>?_); go_simp; refine hK _ ?_; clear hK K)
 refine zav (U b2) rfl (fun w' hw'=>by have q0:=hw'.cell c2; go_simp) ?_;(refine zap (fun K hK=>?_); go_simp; refine hK _ ?_; clear hK K)
 refine zav (.agg #[I b3.toNat,I n]) rfl (fun w' hw'=>by have q0:=hw'.cell x0; have q1:=hw'.cell x1; go_simp) ?_;(refine zap (fun K hK=>?_); go_simp; refine hK _ ?_; clear hK K)
 refine za9 _ rfl (fun w' hw' hk=>?_) (fun v5=>?_)
 ·clear hk;unfold zaL;go_simp
  exact ⟨(Ext.refl _).alloc _,zdZ (Nat.le_trans e2.size hw'.size)⟩
 refine zaM ?_;intro w3 e3 hX;obtain ⟨g,rfl,hg0,hg1⟩:zfv w0.heap.size 99 #[I 0,I 0,I 0,I 0] v5 w3:=hX 5;clear hX x0 x1 c1 c2;obtain ⟨x0,x1,x2,x3,f0,f1,f2,f3⟩:=box4 hg1;have e4:=zb1 (e2.trans e3) hg0 (I b1.toNat) (I b2.toNat) (I b3.toNat) (I n);have hg2:=set4 hg1 (I b1.toNat) (I b2.toNat) (I b3.toNat) (I n);go_wp2_with fail
 clear x0 x1 x2 x3 f0 f1 f2 f3 hg1 e3;generalize hw4:(((w3.setCell ⟨g,0,none⟩ (I b1.toNat)).setCell ⟨g,1,none⟩ (I b2.toNat)).setCell ⟨g,2,none⟩ (I b3.toNat)).setCell ⟨g,3,none⟩ (I n)=w4 at *;clear hw4 hbw;refine Calls.exts (zit (b1.toNat:Int) b2.toNat b3.toNat n w4) (fun w5 e5=>?_);have rb:=HB.o w5 (e4.trans e5);obtain ⟨z0,z1,z2,z3,f0,f1,f2,f3⟩:=box4 rb;have m5:Ext w w5:=e0.trans (e4.trans e5);by_cases hz:zbt ⟨b1.toNat,b2.toNat,⟨b3.toNat,n⟩⟩=0
 ·rw [hz];obtain ⟨x0,x1,x2,x3,-⟩:=box4 (zbP hg2 e5);have HZ:=zhd hz;clear hz;go_wp2
  have rb2:=set4 rb (I b1.toNat) (I b2.toNat) (I b3.toNat) (I n);obtain ⟨q0,q1,q2,q3,-⟩:=box4 rb2;have m6:=zb1 m5 (Nat.le_refl w.heap.size) (I b1.toNat) (I b2.toNat) (I b3.toNat) (I n);clear x0 x1 x2 x3 z0 z1 z2 z3 f0 f1 f2 f3;refine bodyPost_ret (by simp [results,Tryz.results92,go_sem,q0,q1,q2,q3]; rfl) rfl ?_;obtain ⟨h1,h2⟩:=Prod.mk.inj (HN.o HZ.o);rw [h1,h2];exact ⟨rfl,m6⟩
 ·have hb:(zbt ⟨b1.toNat,b2.toNat,⟨b3.toNat,n⟩⟩ != 0)=true:=by simpa using hz
  have HZ:=zhd hz;clear hz;go_wp2
  have rb2:=set4 rb (I 0) (I 0) (I 0) (I 0);obtain ⟨q0,q1,q2,q3,-⟩:=box4 rb2;have m6:=zb1 m5 (Nat.le_refl w.heap.size) (I 0) (I 0) (I 0) (I 0);clear z0 z1 z2 z3 f0 f1 f2 f3;refine bodyPost_ret (by simp [results,Tryz.results92,go_sem,q0,q1,q2,q3]; rfl) rfl ?_;obtain ⟨h1,h2⟩:=Prod.mk.inj (HP.o HZ.o);rw [h1,h2];exact ⟨rfl,m6⟩

theorem zeM (v:Value) (l:List UInt8) (w:World) (hv:zbb w v l) :
  Calls Tryz.prog 92 #[v] w fun e w'=>e=.returned (.tuple #[AN (readAn l).1,I (readAn l).2])/\Ext w w':=by
 by_cases hf:l.length=8/\l.getD 0 0=97
 ·obtain ⟨b1,b2,b3,b4,b5,b6,b7,rfl⟩:=zlH hf
  exact zis v b1 b2 b3 b4 b5 b6 b7 w hv
 ·exact zix v l w hv hf

end Go.Proofs.YtdmipnnfoolelaeGreat

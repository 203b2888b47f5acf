/- Texts of the proof, merged: E6 E7 E8. -/
import Derived.Test.YtikbhmnjlmbeeafGreatKRA
import Derived.Test.YtikbhmnjlmbeeafGreatKRK
import Derived.Test.YtikbhmnjlmbeeafGreatKRJ
set_option maxHeartbeats 1000000
set_option maxRecDepth 100000

namespace Go.Proofs.YtikbhmnjlmbeeafGreat
open Go.RowKit Go.Mk

theorem wrapU (n : Int) : (Value.int .u8 (IntKind.u8.wrap n)) = U (Mk.byteOf n):=by
 rw [<- byteU]
 refine congrArg (Value.int .u8) ?_
 unfold IntKind.wrap
 simp [IntKind.signed,IntKind.bits]

theorem ze6 (c t k a o n : Int) (w : World) :
  za3 Tryz.prog 38 #[RQ ⟨c,t,⟨k,a,o,n⟩⟩] w fun v w'=>zdg w.heap.size w' v (zcp ⟨c,t,⟨k,a,o,n⟩⟩):=by
 unfold za3;have e0 : Ext w (w.alloc (.cells #[I c,I t,I k,I a,I o,I n] 36)):=(Ext.refl w).alloc _
 have HB : Hid (∀ wx,Ext (w.alloc (.cells #[I c,I t,I k,I a,I o,I n] 36)) wx -> wx.cell? ⟨w.heap.size,0,none⟩ = some (I c) /\ wx.cell? ⟨w.heap.size,1,none⟩ = some (I t) /\ wx.cell? ⟨w.heap.size,2,none⟩ = some (I k) /\ wx.cell? ⟨w.heap.size,3,none⟩ = some (I a) /\ wx.cell? ⟨w.heap.size,4,none⟩ = some (I o) /\ wx.cell? ⟨w.heap.size,5,none⟩ = some (I n)):=fun wx hx =>
  ⟨hx.cell (by simp),hx.cell (by simp),hx.cell (by simp),hx.cell (by simp),hx.cell (by simp),hx.cell (by simp)⟩
 go_enter Tryz.func38,Tryz.ntmps38
 go_wp2_with fail
 generalize hw0 : w.alloc (.cells #[I c,I t,I k,I a,I o,I n] 36) = w0 at *;have HW0:=hd hw0;clear hw0;obtain ⟨c0,c1,c2,c3,c4,c5⟩:=HB.o w0 (Ext.refl _)
 refine zca [none,none,none,none,none,none,none,none,none,none,none,none,none,none,none,none,none,none,
  some (.inr fun v wx=>zbc wx v [Mk.byteOf c,Mk.byteOf t,Mk.byteOf k,Mk.byteOf a,Mk.byteOf o]),some (.inl (.string ⟨#[Mk.byteOf c,Mk.byteOf t,Mk.byteOf k,Mk.byteOf a,Mk.byteOf o]⟩)),some (.inl (.string ⟨#[113,Mk.byteOf c,Mk.byteOf t,Mk.byteOf k,Mk.byteOf a,Mk.byteOf o]⟩)),none,none,none,
  some (.inl (.string ⟨(zdj n).toArray⟩)),some (.inl (.string ⟨(zcp ⟨c,t,⟨k,a,o,n⟩⟩).toArray⟩)),some (.inr fun v wx=>zdg w.heap.size wx v (zcp ⟨c,t,⟨k,a,o,n⟩⟩)),none] (by kernel_rfl) (by kernel_rfl) ?_ ?_
 ·exact ⟨trivial,trivial,trivial,trivial,trivial,trivial,trivial,trivial,trivial,trivial,trivial,trivial,trivial,trivial,trivial,trivial,trivial,trivial,zjM _,trivial,trivial,trivial,trivial,trivial,trivial,trivial,zeM _ _,trivial,trivial⟩
 (refine zau (fun K hK=>?_); go_simp; refine hK _ ?_; clear hK K)
 refine zaC (I c) rfl (fun w' hw'=>by have q0:=hw'.cell c0; go_simp) ?_;iterate 2 (refine zau (fun K hK=>?_); go_simp; refine hK _ ?_; clear hK K)
 refine zaC (I t) rfl (fun w' hw'=>by have q0:=hw'.cell c1; go_simp) ?_;iterate 3 (refine zau (fun K hK=>?_); go_simp; refine hK _ ?_; clear hK K)
 refine zaC (I k) rfl (fun w' hw'=>by have q0:=hw'.cell c2; go_simp) ?_;iterate 3 (refine zau (fun K hK=>?_); go_simp; refine hK _ ?_; clear hK K)
 refine zaC (I a) rfl (fun w' hw'=>by have q0:=hw'.cell c3; go_simp) ?_;iterate 3 (refine zau (fun K hK=>?_); go_simp; refine hK _ ?_; clear hK K)
 refine zaC (I o) rfl (fun w' hw'=>by have q0:=hw'.cell c4; go_simp) ?_;(refine zau (fun K hK=>?_); go_simp; refine hK _ ?_; clear hK K)
 refine za8 _ rfl (fun w' hw' _=>?_) (fun v21=>?_)
 ·unfold zaR;go_simp
  exact ⟨(Ext.refl _).alloc _,zgf _ _ _ 5 (by rw [wrapU,wrapU,wrapU,wrapU,wrapU]; rfl) rfl (by decide)⟩
 refine zdv _ rfl (fun w' hw' hk=>?_) ?_
 ·have h21 : zbc w' v21 [Mk.byteOf c,Mk.byteOf t,Mk.byteOf k,Mk.byteOf a,Mk.byteOf o]:=hk 21 (by decide);have hcv:=zeZ (P:=Tryz.prog) h21 zu69 zu5 zu9;clear hk;unfold zaR;go_simp
  exact ⟨Ext.refl _,rfl⟩
 refine zam fun K h=>?_; go_simp; refine h _ ?_; clear h K;refine zdv _ rfl (fun w' hw' _=>?_) ?_
 ·have ha:=run_string_add_lists (P:=Tryz.prog) w' [113] [Mk.byteOf c,Mk.byteOf t,Mk.byteOf k,Mk.byteOf a,Mk.byteOf o] (by decide) (by simp);unfold zaR;go_simp
  exact ⟨Ext.refl _,rfl⟩
 refine zam fun K h=>?_; go_simp; refine h _ ?_; clear h K;iterate 2 (refine zau (fun K hK=>?_); go_simp; refine hK _ ?_; clear hK K)
 refine zaC (I n) rfl (fun w' hw'=>by have q0:=hw'.cell c5; go_simp) ?_;refine zdv _ rfl (fun w' hw' _=>?_) ?_
 ·have hg:=zcS (zkM n w');unfold zaR;go_simp
  exact ⟨Ext.refl _,hg⟩
 refine zam fun K h=>?_; go_simp; refine h _ ?_; clear h K;refine zdv _ rfl (fun w' hw' _=>?_) ?_
 ·have ha:=run_string_add_lists (P:=Tryz.prog) w' [113,Mk.byteOf c,Mk.byteOf t,Mk.byteOf k,Mk.byteOf a,Mk.byteOf o] (zdj n) (by simp) (by simp [zdj]);unfold zaR;go_simp
  exact ⟨Ext.refl _,rfl⟩
 refine zam fun K h=>?_; go_simp; refine h _ ?_; clear h K;refine za8 _ rfl (fun w' hw' _=>?_) (fun v29=>?_)
 ·have ha:=run_bytes_of_string (P:=Tryz.prog) w' 9 69 5 ⟨(zcp ⟨c,t,⟨k,a,o,n⟩⟩).toArray⟩ zu9 zu69 zu5;unfold zaR;go_simp
  exact ⟨(Ext.refl _).drew.alloc _,_,_,_,_,rfl,Nat.le_trans (by rw [<- HW0.o]; simp) hw'.size,zfL w' 5 (zcp ⟨c,t,⟨k,a,o,n⟩⟩) (show 10 <= maxLen by decide) _⟩
 (refine zau (fun K hK=>?_); go_simp; refine hK _ ?_; clear hK K)
 refine za2 ?_;intro w4 he4 hX;have hr : zdg w.heap.size w4 v29 (zcp ⟨c,t,⟨k,a,o,n⟩⟩):=hX 29;clear hX c0 c1 c2 c3 c4 c5;go_wp2
 go_ret
 exact ⟨v29,rfl,e0.trans he4,hr⟩

theorem zfN (c t x n : Int) (w : World) :
  za3 Tryz.prog 40 #[AN ⟨c,t,⟨x,n⟩⟩] w fun v w'=>zdg w.heap.size w' v (zci ⟨c,t,⟨x,n⟩⟩):=by
 unfold za3;have e0 : Ext w (w.alloc (.cells #[I c,I t,I x,I n] 87)):=(Ext.refl w).alloc _
 have HB : Hid (∀ wx,Ext (w.alloc (.cells #[I c,I t,I x,I n] 87)) wx -> wx.cell? ⟨w.heap.size,0,none⟩ = some (I c) /\ wx.cell? ⟨w.heap.size,1,none⟩ = some (I t) /\ wx.cell? ⟨w.heap.size,2,none⟩ = some (I x) /\ wx.cell? ⟨w.heap.size,3,none⟩ = some (I n)):=fun wx hx =>
  ⟨hx.cell (by simp),hx.cell (by simp),hx.cell (by simp),hx.cell (by simp)⟩
 go_enter Tryz.func40,Tryz.ntmps40
 go_wp2_with fail
 generalize hw0 : w.alloc (.cells #[I c,I t,I x,I n] 87) = w0 at *;have HW0:=hd hw0;clear hw0;obtain ⟨c0,c1,c2,c3⟩:=HB.o w0 (Ext.refl _)
 refine zca [none,none,none,none,none,none,none,none,none,none,
  some (.inr fun v wx=>zbc wx v [Mk.byteOf c,Mk.byteOf t,Mk.byteOf x]),some (.inl (.string ⟨#[Mk.byteOf c,Mk.byteOf t,Mk.byteOf x]⟩)),some (.inl (.string ⟨#[97,Mk.byteOf c,Mk.byteOf t,Mk.byteOf x]⟩)),none,none,none,
  some (.inl (.string ⟨(zdj n).toArray⟩)),some (.inl (.string ⟨(zci ⟨c,t,⟨x,n⟩⟩).toArray⟩)),some (.inr fun v wx=>zdg w.heap.size wx v (zci ⟨c,t,⟨x,n⟩⟩)),none] (by kernel_rfl) (by kernel_rfl) ?_ ?_
 ·exact ⟨trivial,trivial,trivial,trivial,trivial,trivial,trivial,trivial,trivial,trivial,zjM _,trivial,trivial,trivial,trivial,trivial,trivial,trivial,zeM _ _,trivial,trivial⟩
 (refine zau (fun K hK=>?_); go_simp; refine hK _ ?_; clear hK K)
 refine zaC (I c) rfl (fun w' hw'=>by have q0:=hw'.cell c0; go_simp) ?_;iterate 2 (refine zau (fun K hK=>?_); go_simp; refine hK _ ?_; clear hK K)
 refine zaC (I t) rfl (fun w' hw'=>by have q0:=hw'.cell c1; go_simp) ?_;iterate 3 (refine zau (fun K hK=>?_); go_simp; refine hK _ ?_; clear hK K)
 refine zaC (I x) rfl (fun w' hw'=>by have q0:=hw'.cell c2; go_simp) ?_;(refine zau (fun K hK=>?_); go_simp; refine hK _ ?_; clear hK K)
 refine za8 _ rfl (fun w' hw' _=>?_) (fun v13=>?_)
 ·unfold zaR;go_simp
  exact ⟨(Ext.refl _).alloc _,zgf _ _ _ 3 (by rw [wrapU,wrapU,wrapU]; rfl) rfl (by decide)⟩
 refine zdv _ rfl (fun w' hw' hk=>?_) ?_
 ·have h13 : zbc w' v13 [Mk.byteOf c,Mk.byteOf t,Mk.byteOf x]:=hk 13 (by decide);have hcv:=zeZ (P:=Tryz.prog) h13 zu69 zu5 zu9;clear hk;unfold zaR;go_simp
  exact ⟨Ext.refl _,rfl⟩
 refine zam fun K h=>?_; go_simp; refine h _ ?_; clear h K;refine zdv _ rfl (fun w' hw' _=>?_) ?_
 ·have ha:=run_string_add_lists (P:=Tryz.prog) w' [97] [Mk.byteOf c,Mk.byteOf t,Mk.byteOf x] (by decide) (by simp);unfold zaR;go_simp
  exact ⟨Ext.refl _,rfl⟩
 refine zam fun K h=>?_; go_simp; refine h _ ?_; clear h K;iterate 2 (refine zau (fun K hK=>?_); go_simp; refine hK _ ?_; clear hK K)
 refine zaC (I n) rfl (fun w' hw'=>by have q0:=hw'.cell c3; go_simp) ?_;refine zdv _ rfl (fun w' hw' _=>?_) ?_
 ·have hg:=zcS (zkM n w');unfold zaR;go_simp
  exact ⟨Ext.refl _,hg⟩
 refine zam fun K h=>?_; go_simp; refine h _ ?_; clear h K;refine zdv _ rfl (fun w' hw' _=>?_) ?_
 ·have ha:=run_string_add_lists (P:=Tryz.prog) w' [97,Mk.byteOf c,Mk.byteOf t,Mk.byteOf x] (zdj n) (by simp) (by simp [zdj]);unfold zaR;go_simp
  exact ⟨Ext.refl _,rfl⟩
 refine zam fun K h=>?_; go_simp; refine h _ ?_; clear h K;refine za8 _ rfl (fun w' hw' _=>?_) (fun v21=>?_)
 ·have ha:=run_bytes_of_string (P:=Tryz.prog) w' 9 69 5 ⟨(zci ⟨c,t,⟨x,n⟩⟩).toArray⟩ zu9 zu69 zu5;unfold zaR;go_simp
  exact ⟨(Ext.refl _).drew.alloc _,_,_,_,_,rfl,Nat.le_trans (by rw [<- HW0.o]; simp) hw'.size,zfL w' 5 (zci ⟨c,t,⟨x,n⟩⟩) (show 8 <= maxLen by decide) _⟩
 (refine zau (fun K hK=>?_); go_simp; refine hK _ ?_; clear hK K)
 refine za2 ?_;intro w4 he4 hX;have hr : zdg w.heap.size w4 v21 (zci ⟨c,t,⟨x,n⟩⟩):=hX 21;clear hX c0 c1 c2 c3;go_wp2
 go_ret
 exact ⟨v21,rfl,e0.trans he4,hr⟩

open Go.RowKit Go.Mk

theorem zml {w : World} {v : Value} {b0 b1 b2 b3 b4 b5 b6 b7 b8 b9 : UInt8} (h : zbc w v [b0,b1,b2,b3,b4,b5,b6,b7,b8,b9]) : ∃ b off cap,v = .slice (some ⟨b,off,none⟩) 10 cap /\ 10 <= cap /\ cap <= maxLen /\
  (w.cell? ⟨b,off,none⟩ = some (U b0) /\ w.cell? ⟨b,off + 1,none⟩ = some (U b1) /\ w.cell? ⟨b,off + 2,none⟩ = some (U b2) /\ w.cell? ⟨b,off + 3,none⟩ = some (U b3) /\ w.cell? ⟨b,off + 4,none⟩ = some (U b4) /\ w.cell? ⟨b,off + 5,none⟩ = some (U b5)) /\
   zbc w (.slice (some ⟨b,off + 6,none⟩) 4 (cap - 6)) [b6,b7,b8,b9]:=by
 obtain ⟨ao,cap,rfl,h1,h2,h3⟩:=h.form
 obtain ⟨b,off,rfl,c0⟩:=h3 0 (by simp)
 refine ⟨b,off,cap,rfl,h1,h2,⟨c0,?_,?_,?_,?_,?_⟩,h.drop 6 (by simp)⟩
 ·obtain ⟨_,_,e1,c1⟩:=h3 1 (by simp); cases e1; exact c1
 ·obtain ⟨_,_,e1,c1⟩:=h3 2 (by simp); cases e1; exact c1
 ·obtain ⟨_,_,e1,c1⟩:=h3 3 (by simp); cases e1; exact c1
 ·obtain ⟨_,_,e1,c1⟩:=h3 4 (by simp); cases e1; exact c1
 ·obtain ⟨_,_,e1,c1⟩:=h3 5 (by simp); cases e1; exact c1

theorem znC {w : World} {v : Value} {b0 b1 b2 b3 b4 b5 b6 b7 : UInt8} (h : zbc w v [b0,b1,b2,b3,b4,b5,b6,b7]) : ∃ b off cap,v = .slice (some ⟨b,off,none⟩) 8 cap /\ 8 <= cap /\ cap <= maxLen /\
  (w.cell? ⟨b,off,none⟩ = some (U b0) /\ w.cell? ⟨b,off + 1,none⟩ = some (U b1) /\ w.cell? ⟨b,off + 2,none⟩ = some (U b2) /\ w.cell? ⟨b,off + 3,none⟩ = some (U b3)) /\
   zbc w (.slice (some ⟨b,off + 4,none⟩) 4 (cap - 4)) [b4,b5,b6,b7]:=by
 obtain ⟨ao,cap,rfl,h1,h2,h3⟩:=h.form
 obtain ⟨b,off,rfl,c0⟩:=h3 0 (by simp)
 refine ⟨b,off,cap,rfl,h1,h2,⟨c0,?_,?_,?_⟩,h.drop 4 (by simp)⟩
 ·obtain ⟨_,_,e1,c1⟩:=h3 1 (by simp); cases e1; exact c1
 ·obtain ⟨_,_,e1,c1⟩:=h3 2 (by simp); cases e1; exact c1
 ·obtain ⟨_,_,e1,c1⟩:=h3 3 (by simp); cases e1; exact c1

theorem zes (x : UInt8) : IntKind.i64.wrap (x.toNat : Int) = (x.toNat : Int):=by
 have:=x.toNat_lt
 unfold IntKind.wrap
 simp [IntKind.signed,IntKind.bits]
 omega

theorem zhS {l : List UInt8} (h : ¬ (l.length = 10 /\ l.getD 0 0 = 113)) : readRq l = (zeroRq,2):=if_pos (by by_cases h1 : l.length = 10 <;> simp_all)
theorem zhN {l : List UInt8} (h : ¬ (l.length = 8 /\ l.getD 0 0 = 97)) : readAn l = (zeroAn,2):=if_pos (by by_cases h1 : l.length = 8 <;> simp_all)

theorem zhx (v : Value) (l : List UInt8) (w : World) (hv : zbc w v l) (hf : ¬ (l.length = 10 /\ l.getD 0 0 = 113)) :
  Calls Tryz.prog 93 #[v] w fun e w'=>e = .returned (.tuple #[RQ (readRq l).1,I (readRq l).2]) /\ Ext w w':=by
 have hff : decide (l.length = 10 /\ l.getD 0 0 = 113) = false:=decide_eq_false hf;have hF:=fun wx (h : Ext w wx)=>zfq v l 113 10 (by decide) wx (hv.ext h);rw [hff] at hF;rw [zhS hf];clear hv hf hff;go_enter Tryz.func93,Tryz.ntmps93
 go_wp2_with fail
 refine Calls.same (hF _ ((Ext.refl w).alloc _)) ?_;go_wp2
 refine bodyPost_ret (by simp [results,Tryz.results93,go_sem]; rfl) rfl ?_;exact ⟨rfl,(Ext.refl w).alloc _⟩

theorem zht (v : Value) (b1 b2 b3 b4 b5 b6 b7 b8 b9 : UInt8) (w : World) (hv : zbc w v [113,b1,b2,b3,b4,b5,b6,b7,b8,b9]) :
  Calls Tryz.prog 93 #[v] w fun e w'=>e = .returned (.tuple #[RQ (readRq [113,b1,b2,b3,b4,b5,b6,b7,b8,b9]).1,I (readRq [113,b1,b2,b3,b4,b5,b6,b7,b8,b9]).2]) /\ Ext w w':=by
 have hF:=fun wx (h : Ext w wx)=>zfq v _ 113 10 (by decide) wx (hv.ext h);have hneg : zbD ⟨b1.toNat,b2.toNat,⟨b3.toNat,b4.toNat,b5.toNat,numB [b6,b7,b8,b9]⟩⟩ = 0 -> readRq [113,b1,b2,b3,b4,b5,b6,b7,b8,b9] = (⟨b1.toNat,b2.toNat,⟨b3.toNat,b4.toNat,b5.toNat,numB [b6,b7,b8,b9]⟩⟩,0):=fun h=>if_neg (show ¬ (zbD ⟨b1.toNat,b2.toNat,⟨b3.toNat,b4.toNat,b5.toNat,numB [b6,b7,b8,b9]⟩⟩ ≠ 0) from fun k=>k h);have hpos : ¬ zbD ⟨b1.toNat,b2.toNat,⟨b3.toNat,b4.toNat,b5.toNat,numB [b6,b7,b8,b9]⟩⟩ = 0 -> readRq [113,b1,b2,b3,b4,b5,b6,b7,b8,b9] = (zeroRq,zbD ⟨b1.toNat,b2.toNat,⟨b3.toNat,b4.toNat,b5.toNat,numB [b6,b7,b8,b9]⟩⟩):=fun h=>if_pos (show zbD ⟨b1.toNat,b2.toNat,⟨b3.toNat,b4.toNat,b5.toNat,numB [b6,b7,b8,b9]⟩⟩ ≠ 0 from h);have hff : decide ([113,b1,b2,b3,b4,b5,b6,b7,b8,b9].length = 10 /\ [113,b1,b2,b3,b4,b5,b6,b7,b8,b9].getD 0 0 = 113) = true:=rfl;rw [hff] at hF;clear hff;generalize readRq [113,b1,b2,b3,b4,b5,b6,b7,b8,b9] = RR at *;obtain ⟨R,E⟩:=RR;obtain ⟨b,off,cap,rfl,hc1,hc2,⟨-,c1,c2,c3,c4,c5⟩,h6⟩:=zml hv;have hN:=fun wx (h : Ext w wx)=>zil _ b6 b7 b8 b9 wx (h6.ext h);unfold maxLen at hc2;clear hv h6;generalize numB [b6,b7,b8,b9] = n at *;have HN:=hd hneg;have HP:=hd hpos;clear hneg hpos;have hk6 : ¬ cap = 6:=by omega
 have hbw:=zes;have e0 : Ext w (w.alloc (.cells #[I 0,I 0,I 0,I 0,I 0,I 0] 36)):=(Ext.refl w).alloc _;have HB:=hd (fun wx (h : Ext (w.alloc (.cells #[I 0,I 0,I 0,I 0,I 0,I 0] 36)) wx)=>zbk h);go_enter Tryz.func93,Tryz.ntmps93
 go_wp2_with fail
 refine Calls.same (hF _ e0) ?_;go_wp2_with fail
 clear hF;generalize hw0 : w.alloc (.cells #[I 0,I 0,I 0,I 0,I 0,I 0] 36) = w0 at *;have HW0:=hd hw0;clear hw0;replace c1:=e0.cell c1;replace c2:=e0.cell c2;replace c3:=e0.cell c3;replace c4:=e0.cell c4;replace c5:=e0.cell c5;refine zap 17 [none,none,none,none,none,none,none,none,none,none,none,none,none,none,some (.inl (I n)),none,some (.inr (zfh w0.heap.size 34 #[I 0,I 0,I 0,I 0]))] (by kernel_rfl) (by kernel_rfl) ?_ ?_
 ·exact ⟨trivial,trivial,trivial,trivial,trivial,trivial,trivial,trivial,trivial,trivial,trivial,trivial,trivial,trivial,trivial,trivial,zdB _ _ _,trivial⟩
 iterate 2 (refine zau (fun K hK=>?_); go_simp; refine hK _ ?_; clear hK K)
 refine zaC (U b3) rfl (fun w' hw'=>by have q0:=hw'.cell c3; go_simp) ?_;iterate 3 (refine zau (fun K hK=>?_); go_simp; refine hK _ ?_; clear hK K)
 refine zaC (U b4) rfl (fun w' hw'=>by have q0:=hw'.cell c4; go_simp) ?_;iterate 3 (refine zau (fun K hK=>?_); go_simp; refine hK _ ?_; clear hK K)
 refine zaC (U b5) rfl (fun w' hw'=>by have q0:=hw'.cell c5; go_simp) ?_;iterate 3 (refine zau (fun K hK=>?_); go_simp; refine hK _ ?_; clear hK K)
 refine zdv _ rfl (fun w' hw' _=>?_) ?_
 ·have hg:=zcS (hN w' (e0.trans hw'));unfold zaR;go_simp
  exact ⟨Ext.refl _,hg⟩
 (refine zau (fun K hK=>?_); go_simp; refine hK _ ?_; clear hK K)
 refine za8 _ rfl (fun w' hw' hk=>?_) (fun v4=>?_)
 ·clear hk;unfold zaR;go_simp
  exact ⟨(Ext.refl _).alloc _,zdL hw'.size⟩
 refine za2 ?_;intro w1 e1 hX;obtain ⟨d,rfl,hd0,hd1⟩ : zfh w0.heap.size 34 #[I 0,I 0,I 0,I 0] v4 w1:=hX 4;clear hX hN;obtain ⟨x0,x1,x2,x3,f0,f1,f2,f3⟩:=zcc hd1;have e2:=zb4 e1 hd0 (I b3.toNat) (I b4.toNat) (I b5.toNat) (I n);have hd2:=set4 hd1 (I b3.toNat) (I b4.toNat) (I b5.toNat) (I n);go_wp2_with fail
 clear x0 x1 x2 x3 f0 f1 f2 f3 c3 c4 c5 hd1 e1;generalize hw2 : (((w1.setCell ⟨d,0,none⟩ (I b3.toNat)).setCell ⟨d,1,none⟩ (I b4.toNat)).setCell ⟨d,2,none⟩ (I b5.toNat)).setCell ⟨d,3,none⟩ (I n) = w2 at *;clear hw2;replace c1:=e2.cell c1;replace c2:=e2.cell c2;obtain ⟨x0,x1,x2,x3,-⟩:=zcc hd2;clear hd2;refine zap 11 [none,none,none,none,none,none,none,none,none,none,some (.inr (zfh w0.heap.size 36 #[I 0,I 0,I 0,I 0,I 0,I 0]))] (by kernel_rfl) (by kernel_rfl) ?_ ?_
 ·exact ⟨trivial,trivial,trivial,trivial,trivial,trivial,trivial,trivial,trivial,trivial,zdB _ _ _,trivial⟩
 iterate 2 (refine zau (fun K hK=>?_); go_simp; refine hK _ ?_; clear hK K)
 refine zaC (U b1) rfl (fun w' hw'=>by have q0:=hw'.cell c1; go_simp) ?_;iterate 3 (refine zau (fun K hK=>?_); go_simp; refine hK _ ?_; clear hK K)
 refine zaC (U b2) rfl (fun w' hw'=>by have q0:=hw'.cell c2; go_simp) ?_;(refine zau (fun K hK=>?_); go_simp; refine hK _ ?_; clear hK K)
 refine zaC (.agg #[I b3.toNat,I b4.toNat,I b5.toNat,I n]) rfl (fun w' hw'=>by have q0:=hw'.cell x0; have q1:=hw'.cell x1; have q2:=hw'.cell x2; have q3:=hw'.cell x3; go_simp) ?_;(refine zau (fun K hK=>?_); go_simp; refine hK _ ?_; clear hK K)
 refine za8 _ rfl (fun w' hw' hk=>?_) (fun v5=>?_)
 ·clear hk;unfold zaR;go_simp
  exact ⟨(Ext.refl _).alloc _,zdL (Nat.le_trans e2.size hw'.size)⟩
 refine za2 ?_;intro w3 e3 hX;obtain ⟨g,rfl,hg0,hg1⟩ : zfh w0.heap.size 36 #[I 0,I 0,I 0,I 0,I 0,I 0] v5 w3:=hX 5;clear hX x0 x1 x2 x3 c1 c2;obtain ⟨⟨x0,x1,x2,x3,x4,x5⟩,f0,f1,f2,f3,f4,f5⟩:=zgU hg1;have e4:=ze4 (e2.trans e3) hg0 (I b1.toNat) (I b2.toNat) (I b3.toNat) (I b4.toNat) (I b5.toNat) (I n);have hg2:=znv hg1 (I b1.toNat) (I b2.toNat) (I b3.toNat) (I b4.toNat) (I b5.toNat) (I n);go_wp2_with fail
 clear x0 x1 x2 x3 x4 x5 f0 f1 f2 f3 f4 f5 hg1 e3;generalize hw4 : (((((w3.setCell ⟨g,0,none⟩ (I b1.toNat)).setCell ⟨g,1,none⟩ (I b2.toNat)).setCell ⟨g,2,none⟩ (I b3.toNat)).setCell ⟨g,3,none⟩ (I b4.toNat)).setCell ⟨g,4,none⟩ (I b5.toNat)).setCell ⟨g,5,none⟩ (I n) = w4 at *;clear hw4 hbw;refine Calls.exts (zhB (b1.toNat : Int) b2.toNat b3.toNat b4.toNat b5.toNat n w4) (fun w5 e5=>?_);have rb:=HB.o w5 (e4.trans e5);obtain ⟨⟨z0,z1,z2,z3,z4,z5⟩,f0,f1,f2,f3,f4,f5⟩:=zgU rb;have m5 : Ext w w5:=e0.trans (e4.trans e5);by_cases hz : zbD ⟨b1.toNat,b2.toNat,⟨b3.toNat,b4.toNat,b5.toNat,n⟩⟩ = 0
 ·rw [hz];obtain ⟨⟨x0,x1,x2,x3,x4,x5⟩,-⟩:=zgU (zbT hg2 e5);have HZ:=hd hz;clear hz;go_wp2
  have rb2:=znv rb (I b1.toNat) (I b2.toNat) (I b3.toNat) (I b4.toNat) (I b5.toNat) (I n);obtain ⟨⟨q0,q1,q2,q3,q4,q5⟩,-⟩:=zgU rb2;have m6:=ze4 m5 (Nat.le_refl w.heap.size) (I b1.toNat) (I b2.toNat) (I b3.toNat) (I b4.toNat) (I b5.toNat) (I n);clear x0 x1 x2 x3 x4 x5 z0 z1 z2 z3 z4 z5 f0 f1 f2 f3 f4 f5;refine bodyPost_ret (by simp [results,Tryz.results93,go_sem,q0,q1,q2,q3,q4,q5]; rfl) rfl ?_;obtain ⟨h1,h2⟩:=Prod.mk.inj (HN.o HZ.o);rw [h1,h2];exact ⟨rfl,m6⟩
 ·have hb : (zbD ⟨b1.toNat,b2.toNat,⟨b3.toNat,b4.toNat,b5.toNat,n⟩⟩ != 0) = true:=by simpa using hz
  have HZ:=hd hz;clear hz;go_wp2
  have rb2:=znv rb (I 0) (I 0) (I 0) (I 0) (I 0) (I 0);obtain ⟨⟨q0,q1,q2,q3,q4,q5⟩,-⟩:=zgU rb2;have m6:=ze4 m5 (Nat.le_refl w.heap.size) (I 0) (I 0) (I 0) (I 0) (I 0) (I 0);clear z0 z1 z2 z3 z4 z5 f0 f1 f2 f3 f4 f5;refine bodyPost_ret (by simp [results,Tryz.results93,go_sem,q0,q1,q2,q3,q4,q5]; rfl) rfl ?_;obtain ⟨h1,h2⟩:=Prod.mk.inj (HP.o HZ.o);rw [h1,h2];exact ⟨rfl,m6⟩

theorem zog {l : List UInt8} (h : l.length = 10 /\ l.getD 0 0 = 113) : ∃ b1 b2 b3 b4 b5 b6 b7 b8 b9,l = [113,b1,b2,b3,b4,b5,b6,b7,b8,b9]:=by
 obtain ⟨h1,h2⟩:=h
 match l,h1,h2 with
 | [b0,b1,b2,b3,b4,b5,b6,b7,b8,b9],_,h0 =>
  have h0 : b0 = 113:=h0
  subst h0
  exact ⟨_,_,_,_,_,_,_,_,_,rfl⟩
theorem zlo {l : List UInt8} (h : l.length = 8 /\ l.getD 0 0 = 97) : ∃ b1 b2 b3 b4 b5 b6 b7,l = [97,b1,b2,b3,b4,b5,b6,b7]:=by
 obtain ⟨h1,h2⟩:=h
 match l,h1,h2 with
 | [b0,b1,b2,b3,b4,b5,b6,b7],_,h0 =>
  have h0 : b0 = 97:=h0
  subst h0
  exact ⟨_,_,_,_,_,_,_,rfl⟩

theorem zh3 (v : Value) (l : List UInt8) (w : World) (hv : zbc w v l) :
  Calls Tryz.prog 93 #[v] w fun e w'=>e = .returned (.tuple #[RQ (readRq l).1,I (readRq l).2]) /\ Ext w w':=by
 by_cases hf : l.length = 10 /\ l.getD 0 0 = 113
 ·obtain ⟨b1,b2,b3,b4,b5,b6,b7,b8,b9,rfl⟩:=zog hf
  exact zht v b1 b2 b3 b4 b5 b6 b7 b8 b9 w hv
 ·exact zhx v l w hv hf

open Go.RowKit Go.Mk

theorem zhZ (v : Value) (l : List UInt8) (w : World) (hv : zbc w v l) (hf : ¬ (l.length = 8 /\ l.getD 0 0 = 97)) :
  Calls Tryz.prog 78 #[v] w fun e w'=>e = .returned (.tuple #[AN (readAn l).1,I (readAn l).2]) /\ Ext w w':=by
 have hff : decide (l.length = 8 /\ l.getD 0 0 = 97) = false:=decide_eq_false hf;have hF:=fun wx (h : Ext w wx)=>zfq v l 97 8 (by decide) wx (hv.ext h);rw [hff] at hF;rw [zhN hf];clear hv hf hff;go_enter Tryz.func78,Tryz.ntmps78
 go_wp2_with fail
 refine Calls.same (hF _ ((Ext.refl w).alloc _)) ?_;go_wp2
 refine bodyPost_ret (by simp [results,Tryz.results78,go_sem]; rfl) rfl ?_;exact ⟨rfl,(Ext.refl w).alloc _⟩

theorem zhY (v : Value) (b1 b2 b3 b4 b5 b6 b7 : UInt8) (w : World) (hv : zbc w v [97,b1,b2,b3,b4,b5,b6,b7]) :
  Calls Tryz.prog 78 #[v] w fun e w'=>e = .returned (.tuple #[AN (readAn [97,b1,b2,b3,b4,b5,b6,b7]).1,I (readAn [97,b1,b2,b3,b4,b5,b6,b7]).2]) /\ Ext w w':=by
 have hF:=fun wx (h : Ext w wx)=>zfq v _ 97 8 (by decide) wx (hv.ext h);have hneg : zbu ⟨b1.toNat,b2.toNat,⟨b3.toNat,numB [b4,b5,b6,b7]⟩⟩ = 0 -> readAn [97,b1,b2,b3,b4,b5,b6,b7] = (⟨b1.toNat,b2.toNat,⟨b3.toNat,numB [b4,b5,b6,b7]⟩⟩,0):=fun h=>if_neg (show ¬ (zbu ⟨b1.toNat,b2.toNat,⟨b3.toNat,numB [b4,b5,b6,b7]⟩⟩ ≠ 0) from fun k=>k h);have hpos : ¬ zbu ⟨b1.toNat,b2.toNat,⟨b3.toNat,numB [b4,b5,b6,b7]⟩⟩ = 0 -> readAn [97,b1,b2,b3,b4,b5,b6,b7] = (zeroAn,zbu ⟨b1.toNat,b2.toNat,⟨b3.toNat,numB [b4,b5,b6,b7]⟩⟩):=fun h=>if_pos (show zbu ⟨b1.toNat,b2.toNat,⟨b3.toNat,numB [b4,b5,b6,b7]⟩⟩ ≠ 0 from h);have hff : decide ([97,b1,b2,b3,b4,b5,b6,b7].length = 8 /\ [97,b1,b2,b3,b4,b5,b6,b7].getD 0 0 = 97) = true:=rfl;rw [hff] at hF;clear hff;generalize readAn [97,b1,b2,b3,b4,b5,b6,b7] = RR at *;obtain ⟨R,E⟩:=RR;obtain ⟨b,off,cap,rfl,hc1,hc2,⟨-,c1,c2,c3⟩,h6⟩:=znC hv;have hN:=fun wx (h : Ext w wx)=>zil _ b4 b5 b6 b7 wx (h6.ext h);unfold maxLen at hc2;clear hv h6;generalize numB [b4,b5,b6,b7] = n at *;have HN:=hd hneg;have HP:=hd hpos;clear hneg hpos;have hk6 : ¬ cap = 4:=by omega
 have hbw:=zes;have e0 : Ext w (w.alloc (.cells #[I 0,I 0,I 0,I 0] 87)):=(Ext.refl w).alloc _;have HB:=hd (fun wx (h : Ext (w.alloc (.cells #[I 0,I 0,I 0,I 0] 87)) wx)=>zbk h);go_enter Tryz.func78,Tryz.ntmps78
 go_wp2_with fail
 refine Calls.same (hF _ e0) ?_;go_wp2_with fail
 clear hF;generalize hw0 : w.alloc (.cells #[I 0,I 0,I 0,I 0] 87) = w0 at *;have HW0:=hd hw0;clear hw0;replace c1:=e0.cell c1;replace c2:=e0.cell c2;replace c3:=e0.cell c3;refine zap 9 [none,none,none,none,none,none,some (.inl (I n)),none,some (.inr (zfh w0.heap.size 39 #[I 0,I 0]))] (by kernel_rfl) (by kernel_rfl) ?_ ?_
 ·exact ⟨trivial,trivial,trivial,trivial,trivial,trivial,trivial,trivial,zdB _ _ _,trivial⟩
 iterate 2 (refine zau (fun K hK=>?_); go_simp; refine hK _ ?_; clear hK K)
 refine zaC (U b3) rfl (fun w' hw'=>by have q0:=hw'.cell c3; go_simp) ?_;iterate 3 (refine zau (fun K hK=>?_); go_simp; refine hK _ ?_; clear hK K)
 refine zdv _ rfl (fun w' hw' _=>?_) ?_
 ·have hg:=zcS (hN w' (e0.trans hw'));unfold zaR;go_simp
  exact ⟨Ext.refl _,hg⟩
 (refine zau (fun K hK=>?_); go_simp; refine hK _ ?_; clear hK K)
 refine za8 _ rfl (fun w' hw' hk=>?_) (fun v4=>?_)
 ·clear hk;unfold zaR;go_simp
  exact ⟨(Ext.refl _).alloc _,zdL hw'.size⟩
 refine za2 ?_;intro w1 e1 hX;obtain ⟨d,rfl,hd0,hd1⟩ : zfh w0.heap.size 39 #[I 0,I 0] v4 w1:=hX 4;clear hX hN;obtain ⟨x0,x1,f0,f1⟩:=box2 hd1;have e2:=zoU e1 hd0 (I b3.toNat) (I n);have hd2:=zqp hd1 (I b3.toNat) (I n);go_wp2_with fail
 clear x0 x1 f0 f1 c3 hd1 e1;generalize hw2 : (w1.setCell ⟨d,0,none⟩ (I b3.toNat)).setCell ⟨d,1,none⟩ (I n) = w2 at *;clear hw2;replace c1:=e2.cell c1;replace c2:=e2.cell c2;obtain ⟨x0,x1,-⟩:=box2 hd2;clear hd2;refine zap 11 [none,none,none,none,none,none,none,none,none,none,some (.inr (zfh w0.heap.size 87 #[I 0,I 0,I 0,I 0]))] (by kernel_rfl) (by kernel_rfl) ?_ ?_
 ·exact ⟨trivial,trivial,trivial,trivial,trivial,trivial,trivial,trivial,trivial,trivial,zdB _ _ _,trivial⟩
 iterate 2 (refine zau (fun K hK=>?_); go_simp; refine hK _ ?_; clear hK K)
 refine zaC (U b1) rfl (fun w' hw'=>by have q0:=hw'.cell c1; go_simp) ?_;iterate 3 (refine zau (fun K hK=>?_); go_simp; refine hK _ ?_; clear hK K)
 refine zaC (U b2) rfl (fun w' hw'=>by have q0:=hw'.cell c2; go_simp) ?_;(refine zau (fun K hK=>?_); go_simp; refine hK _ ?_; clear hK K)
 refine zaC (.agg #[I b3.toNat,I n]) rfl (fun w' hw'=>by have q0:=hw'.cell x0; have q1:=hw'.cell x1; go_simp) ?_;(refine zau (fun K hK=>?_); go_simp; refine hK _ ?_; clear hK K)
 refine za8 _ rfl (fun w' hw' hk=>?_) (fun v5=>?_)
 ·clear hk;unfold zaR;go_simp
  exact ⟨(Ext.refl _).alloc _,zdL (Nat.le_trans e2.size hw'.size)⟩
 refine za2 ?_;intro w3 e3 hX;obtain ⟨g,rfl,hg0,hg1⟩ : zfh w0.heap.size 87 #[I 0,I 0,I 0,I 0] v5 w3:=hX 5;clear hX x0 x1 c1 c2;obtain ⟨x0,x1,x2,x3,f0,f1,f2,f3⟩:=zcc hg1;have e4:=zb4 (e2.trans e3) hg0 (I b1.toNat) (I b2.toNat) (I b3.toNat) (I n);have hg2:=set4 hg1 (I b1.toNat) (I b2.toNat) (I b3.toNat) (I n);go_wp2_with fail
 clear x0 x1 x2 x3 f0 f1 f2 f3 hg1 e3;generalize hw4 : (((w3.setCell ⟨g,0,none⟩ (I b1.toNat)).setCell ⟨g,1,none⟩ (I b2.toNat)).setCell ⟨g,2,none⟩ (I b3.toNat)).setCell ⟨g,3,none⟩ (I n) = w4 at *;clear hw4 hbw;refine Calls.exts (zh5 (b1.toNat : Int) b2.toNat b3.toNat n w4) (fun w5 e5=>?_);have rb:=HB.o w5 (e4.trans e5);obtain ⟨z0,z1,z2,z3,f0,f1,f2,f3⟩:=zcc rb;have m5 : Ext w w5:=e0.trans (e4.trans e5);by_cases hz : zbu ⟨b1.toNat,b2.toNat,⟨b3.toNat,n⟩⟩ = 0
 ·rw [hz];obtain ⟨x0,x1,x2,x3,-⟩:=zcc (zbT hg2 e5);have HZ:=hd hz;clear hz;go_wp2
  have rb2:=set4 rb (I b1.toNat) (I b2.toNat) (I b3.toNat) (I n);obtain ⟨q0,q1,q2,q3,-⟩:=zcc rb2;have m6:=zb4 m5 (Nat.le_refl w.heap.size) (I b1.toNat) (I b2.toNat) (I b3.toNat) (I n);clear x0 x1 x2 x3 z0 z1 z2 z3 f0 f1 f2 f3;refine bodyPost_ret (by simp [results,Tryz.results78,go_sem,q0,q1,q2,q3]; rfl) rfl ?_;obtain ⟨h1,h2⟩:=Prod.mk.inj (HN.o HZ.o);rw [h1,h2];exact ⟨rfl,m6⟩
 ·have hb : (zbu ⟨b1.toNat,b2.toNat,⟨b3.toNat,n⟩⟩ != 0) = true:=by simpa using hz
  have HZ:=hd hz;clear hz;go_wp2
  have rb2:=set4 rb (I 0) (I 0) (I 0) (I 0);obtain ⟨q0,q1,q2,q3,-⟩:=zcc rb2;have m6:=zb4 m5 (Nat.le_refl w.heap.size) (I 0) (I 0) (I 0) (I 0);clear z0 z1 z2 z3 f0 f1 f2 f3;refine bodyPost_ret (by simp [results,Tryz.results78,go_sem,q0,q1,q2,q3]; rfl) rfl ?_;obtain ⟨h1,h2⟩:=Prod.mk.inj (HP.o HZ.o);rw [h1,h2];exact ⟨rfl,m6⟩

theorem zcq (v : Value) (l : List UInt8) (w : World) (hv : zbc w v l) :
  Calls Tryz.prog 78 #[v] w fun e w'=>e = .returned (.tuple #[AN (readAn l).1,I (readAn l).2]) /\ Ext w w':=by
 by_cases hf : l.length = 8 /\ l.getD 0 0 = 97
 ·obtain ⟨b1,b2,b3,b4,b5,b6,b7,rfl⟩:=zlo hf
  exact zhY v b1 b2 b3 b4 b5 b6 b7 w hv
 ·exact zhZ v l w hv hf

end Go.Proofs.YtikbhmnjlmbeeafGreat

/- Texts of the proof, merged: D5d D5e N6a. -/
import Derived.Test.YtdmipnnfoolelagGreatKTA
import Derived.Test.YtdmipnnfoolelagGreatKTP
import Derived.Test.YtdmipnnfoolelagGreatKTM
import Derived.Test.YtdmipnnfoolelagGreatKTD
set_option maxHeartbeats 4000000
set_option maxRecDepth 100000

namespace Go.Proofs.YtdmipnnfoolelagGreat
open Go.RowKit Go.Mk

theorem zmW (v:Value) (xs:List Int) (a o n:Int) (w:World) (hv:zbE w v xs) (hx:zfd xs) (hc:wrongCl ⟨3,a,o,n⟩=0) (l:List (Int×Int)) (hL:zaK xs (xs.getD 0 0).toNat=l) (D1:List (Int×Int)) (D3:Int) (hD:doR l ⟨3,a,o,n⟩=(D1,⟨0,D3⟩)) (hat:at1 l a+1 < l.length) (hDl:D1.length=l.length - 1) (q1 q2:Int) (hq:D1.getD (at1 l a) (0,0)=(q1,q2)) (hP:zbn l ⟨3,a,o,n⟩=[(1+2 * (at1 l a:Int),q1),(2+2 * (at1 l a:Int),q2),(0,(l.length:Int) - 1)]) :
  Calls Tryz.prog 52 #[v,.agg #[I 3,I a,I o,I n]] w fun e w'=>zeN w.heap.size l ⟨3,a,o,n⟩ e w'/\Ext w w':=by
 obtain ⟨hl11,hx0,hx5,hok⟩:=id hx;have hln:l.length=(xs.getD 0 0).toNat:=by rw [<- hL,zaU]
 have hl5:l.length<=5:=by omega
 rw [hL] at hok;have hfind:=fun nm wx (hw:zbE wx v xs)=>zcZ v xs nm wx hw hl11 hx0 hx5;have hfa:=zb7 xs a (xs.getD 0 0).toNat;rw [hL,<- hln] at hfa;have hfo:=zb7 xs o (xs.getD 0 0).toNat;rw [hL,<- hln] at hfo;rw [<- hln] at hfind;have HL:=zhd hL;have HD:=zhd hD;have HX:=zhd hx;have HOK:=zhd hok;have HCW:=zhd hc;have HV:=zhd hv;clear hL hD hx hok hc hln hl11 hx0 hx5 hv;have e0:Ext w ((w.alloc (.cells #[I 3,I a,I o,I n] 35)).alloc (.cells #[I 0,I 0] 40)):=((Ext.refl w).alloc _).alloc _;go_enter Tryz.func52,Tryz.ntmps52
 go_wp2_with fail
 refine (zcM v xs _ (HV.o.ext e0) HX.o.c).mono ?_;rintro e w1 ⟨h1,rfl,e1,hw1⟩
 rw [HL.o] at hw1;obtain ⟨⟨d0,d1,d2,d3⟩,-⟩:=zbd rfl rfl e1;obtain ⟨ao,cap,rfl,hq1,hq2,-⟩:=hw1.form;unfold maxLen at hq2;have HW1:=zhd hw1;clear hw1;go_wp2_with fail
 refine (zen _ l 3 a o n w1 HW1.o HOK.o HCW.o).mono ?_;rintro e w2 ⟨⟨u,rfl,hu,-⟩,e2⟩
 rw [HD.o] at hu ⊢;simp only [] at hu;obtain ⟨bo,cap2,rfl,hr1,hr2,hcells⟩:=hu.form;unfold maxLen at hr2;have HU:=zhd hu;have HCE:=zhd hcells;clear d0 d1 d2 d3 hu hcells;have m2:Ext w w2:=e0.trans (e1.trans e2)
 have HB:Hid (∀ wx,Ext (w2.alloc (.cells #[I 0,I D3] 40)) wx->((wx.cell? ⟨w.heap.size,0,none⟩=some (I 3)/\wx.cell? ⟨w.heap.size,1,none⟩=some (I a)/\wx.cell? ⟨w.heap.size,2,none⟩=some (I o)/\wx.cell? ⟨w.heap.size,3,none⟩=some (I n))/\wx.heap[w.heap.size+1]?=some (.cells #[I 0,I 0] 40 (0,0)))/\wx.heap[w2.heap.size]?=some (.cells #[I 0,I D3] 40 (0,0))):=fun wx hx =>
  ⟨zbd rfl rfl (e1.trans (e2.trans (((Ext.refl w2).alloc _).trans hx))),zbj hx⟩
 obtain ⟨⟨⟨c0,c1,c2,c3⟩,rb⟩,sb⟩:=HB.o _ (Ext.refl _);obtain ⟨x0,x1,f0,f1⟩:=zaI rb (Ext.refl _);obtain ⟨y0,y1,-,-⟩:=zaI sb (Ext.refl _);have hvv:zbE (w2.alloc (.cells #[I 0,I D3] 40)) v xs:=HV.o.ext (m2.alloc _)
 have hsz:w.heap.size+1 < w2.heap.size:=by
  have:=(Array.getElem?_eq_some_iff.1 (zbd rfl rfl (e1.trans e2)).2).1;exact this
 have hfA:=fun wx hw=>hfind a wx hw;rw [hfa,if_pos (by omega)] at hfA;have HP:=zhd hP;obtain ⟨p,hp⟩:∃ p:Nat,l.length=p+1:=⟨l.length - 1,by omega⟩;have hD1:D1.length=p:=by omega
 obtain ⟨b,off,rfl,ce1,ce2⟩:=HCE.o (at1 l a) (by omega);rw [hq] at ce1 ce2;simp only [] at ce1 ce2;have de1:=((Ext.refl w2).alloc (.cells #[I 0,I D3] 40)).cell ce1;have de2:=((Ext.refl w2).alloc (.cells #[I 0,I D3] 40)).cell ce2;rw [hD1] at hr1 ⊢;have HLP:=zhd hp;rw [hp] at hq1 ⊢;have hap:at1 l a < p:=by omega
 have hp5:p<=4:=by omega
 generalize at1 l a=i at *;have hpl:(i:Int) < (p:Int):=by omega
 have hi0:(0:Int)<=(i:Int):=by omega
 have hne:((p:Int) == (p:Int)+1)=false:=by simp; omega
 have hw1:IntKind.i64.wrap (2 * (i:Int))=2 * i:=by rw [IntKind.wrap_i64]; omega
 have hw2:IntKind.i64.wrap (2+2 * (i:Int))=2+2 * i:=by rw [IntKind.wrap_i64]; omega
 have hw3:IntKind.i64.wrap (1+2 * (i:Int))=1+2 * i:=by rw [IntKind.wrap_i64]; omega
 clear hDl hP hfa hfo hfind HCE hat hD1 hp hl5 hq ce1 ce2;go_wp2_with (go_at_call 69; refine Calls.same (hfA _ hvv) ?_)
 refine zcT [none,none,none,none,none,none,none,none,none,none,none,none,none,none,none,none,none,none,some (.inr fun v wx=>wx.ownsRow (w2.heap.size+1) 73 2 v 2 (zaz [(1+2 * (i:Int),q1),(2+2 * (i:Int),q2)])),none] (by kernel_rfl) (by kernel_rfl) ?_ ?_
 ·exact ⟨trivial,trivial,trivial,trivial,trivial,trivial,trivial,trivial,trivial,trivial,trivial,trivial,trivial,trivial,trivial,trivial,trivial,trivial,zci _ _ _ _ _,trivial,trivial⟩
 iterate 7 (refine zar (fun K hK=>?_); go_simp; refine hK _ ?_; clear hK K)
 refine zaE (I q1) rfl (fun w' hw'=>by have q0:=hw'.cell de1; go_simp) ?_;iterate 8 (refine zar (fun K hK=>?_); go_simp; refine hK _ ?_; clear hK K)
 refine zaE (I q2) rfl (fun w' hw'=>by have q0:=hw'.cell de2; go_simp) ?_;(refine zar (fun K hK=>?_); go_simp; refine hK _ ?_; clear hK K)
 refine za8 _ rfl (fun w' hw' _=>?_) (fun v84=>?_)
 ·unfold zaT;go_simp
  refine ⟨(Ext.refl _).alloc _,?_⟩;have:=World.ownsRow_lit (base:=w2.heap.size+1) (e:=73) (size:=2) w' #[I (1+2 * (i:Int)),I q1,I (2+2 * (i:Int)),I q2] 2 (by have:=hw'.size; simpa using this) (by decide) rfl;simpa [zaz] using this
 (refine zar (fun K hK=>?_); go_simp; refine hK _ ?_; clear hK K)
 refine za0 ?_;intro w6 he6 hF;have ho6:w6.ownsRow (w2.heap.size+1) 73 2 v84 2 (zaz [(1+2 * (i:Int),q1),(2+2 * (i:Int),q2)]):=hF 84;clear hF de1 de2 hw1 hw2 hw3;go_wp2_with (at_builtin; refine zbv ?_)
 unfold Hid;obtain ⟨i0,hi,hz0,hz1,hz2⟩:=info_parts Tryz.infoWrite2;have hown:=ho6.alloc (.cells #[I 0,I p] 73)
 have hlit:Row (w6.alloc (.cells #[I 0,I p] 73)) 2 (.slice (some ⟨w6.heap.size,0,none⟩) 1 1) 1 (zaz [(0,(p:Int))]):=by
  have:=zcN (w:=w6) 73 [(0,(p:Int))] #[I 0,I p] 1 rfl rfl (by decide);simpa [zaw] using this
 have hbase:w2.heap.size+1<=(w6.alloc (.cells #[I 0,I p] 73)).heap.size:=by have:=he6.size; simp at this ⊢; omega
 have exb:=he6.alloc (.cells #[I 0,I p] 73);refine zay _ rfl (.tmp 132) (.tmp 136) 28 rfl (w2.heap.size+1) 73 i0 (.agg #[.int .i64 0,.int .i64 0]) 2 16 zfz hi hz0 hz1 hz2 rfl (by decide) _ 2 (zaz [(1+2 * (i:Int),q1),(2+2 * (i:Int),q2)]) rfl hown _ rfl 1 _ hlit (zbD _) (by omega) (by decide) hbase ?_;intro v5 w5 ho5 hg5;have ex5:Ext (w2.alloc (.cells #[I 0,I D3] 40)) w5:=Ext.grown exb hg5 (fun j hj=>by have:=(hown.lt j hj).1; simpa using this)
 have hh5:Has (w2.heap.size+1) w5 v5 [(1+2 * (i:Int),q1),(2+2 * (i:Int),q2),(0,(l.length:Int) - 1)]:=by
  have e:zaz [(1+2 * (i:Int),q1),(2+2 * (i:Int),q2)]++zaz [(0,(p:Int))]=zaz [(1+2 * (i:Int),q1),(2+2 * (i:Int),q2),(0,(l.length:Int) - 1)]:=by rw [<- zbf]; rw [HLP.o]; simp [zaz]
  rw [e] at ho5;exact ⟨_,_,_,ho5,fun w2 h2=>zaA h2⟩
 obtain ⟨-,sb5⟩:=HB.o w5 ex5;obtain ⟨s0,s1,-,-⟩:=zaI sb5 (Ext.refl _);clear ho5 hg5 hown hlit hi hz0 hz1 hz2 c0 c1 c2 c3 x0 x1 f0 f1 y0 y1 rb sb sb5 hbase exb;go_wp2
 refine zam 3 [none,none,none] (by kernel_rfl) (by kernel_rfl) ?_ ?_
 ·exact ⟨trivial,trivial,trivial,trivial⟩
 (refine zar (fun K hK=>?_); go_simp; refine hK _ ?_; clear hK K)
 refine zaE (.agg #[I 0,I D3]) rfl (fun w' hw'=>by have q0:=hw'.cell s0; have q1:=hw'.cell s1; go_simp) ?_;(refine zar (fun K hK=>?_); go_simp; refine hK _ ?_; clear hK K)
 refine za0 ?_;intro w4 he4' _;have he4:=ex5.trans he4';have hr:=hh5.ext he4';clear s0 s1;obtain ⟨⟨-,rb4⟩,sb4⟩:=HB.o w4 he4;obtain ⟨x0,x1,f0,f1⟩:=zaI rb4 (Ext.refl _);go_wp2
 obtain ⟨z0,z1,-,-⟩:=zaI (zij rb4 (I 0) (I D3)) (Ext.refl _);clear x0 x1 f0 f1;refine bodyPost_ret (by simp [results,Tryz.results52,go_sem,z0,z1]; rfl) rfl ?_;exact zes HD.o hsz ((m2.alloc _).trans he4) (by rw [HP.o]; exact hr)

theorem znq (v:Value) (xs:List Int) (a o n:Int) (w:World) (hv:zbE w v xs) (hx:zfd xs) (hc:wrongCl ⟨6,a,o,n⟩=0) (l:List (Int×Int)) (hL:zaK xs (xs.getD 0 0).toNat=l) (D1:List (Int×Int)) (D3:Int) (hD:doR l ⟨6,a,o,n⟩=(D1,⟨0,D3⟩)) (hat:at1 l a < l.length) (hot:at1 l o < l.length) (hDl:D1.length=l.length) (m1 m2':Int) (hm1:(D1.getD (at1 l a) (0,0)).2=m1) (hm2:(D1.getD (at1 l o) (0,0)).2=m2') (hP:zbn l ⟨6,a,o,n⟩=[(2+2 * (at1 l a:Int),m1),(2+2 * (at1 l o:Int),m2')]) :
  Calls Tryz.prog 52 #[v,.agg #[I 6,I a,I o,I n]] w fun e w'=>zeN w.heap.size l ⟨6,a,o,n⟩ e w'/\Ext w w':=by
 obtain ⟨hl11,hx0,hx5,hok⟩:=id hx;have hln:l.length=(xs.getD 0 0).toNat:=by rw [<- hL,zaU]
 have hl5:l.length<=5:=by omega
 rw [hL] at hok;have hfind:=fun nm wx (hw:zbE wx v xs)=>zcZ v xs nm wx hw hl11 hx0 hx5;have hfa:=zb7 xs a (xs.getD 0 0).toNat;rw [hL,<- hln] at hfa;have hfo:=zb7 xs o (xs.getD 0 0).toNat;rw [hL,<- hln] at hfo;rw [<- hln] at hfind;have HL:=zhd hL;have HD:=zhd hD;have HX:=zhd hx;have HOK:=zhd hok;have HCW:=zhd hc;have HV:=zhd hv;clear hL hD hx hok hc hln hl11 hx0 hx5 hv;have e0:Ext w ((w.alloc (.cells #[I 6,I a,I o,I n] 35)).alloc (.cells #[I 0,I 0] 40)):=((Ext.refl w).alloc _).alloc _;go_enter Tryz.func52,Tryz.ntmps52
 go_wp2_with fail
 refine (zcM v xs _ (HV.o.ext e0) HX.o.c).mono ?_;rintro e w1 ⟨h1,rfl,e1,hw1⟩
 rw [HL.o] at hw1;obtain ⟨⟨d0,d1,d2,d3⟩,-⟩:=zbd rfl rfl e1;obtain ⟨ao,cap,rfl,hq1,hq2,-⟩:=hw1.form;unfold maxLen at hq2;have HW1:=zhd hw1;clear hw1;go_wp2_with fail
 refine (zen _ l 6 a o n w1 HW1.o HOK.o HCW.o).mono ?_;rintro e w2 ⟨⟨u,rfl,hu,-⟩,e2⟩
 rw [HD.o] at hu ⊢;simp only [] at hu;obtain ⟨bo,cap2,rfl,hr1,hr2,hcells⟩:=hu.form;unfold maxLen at hr2;have HU:=zhd hu;have HCE:=zhd hcells;clear d0 d1 d2 d3 hu hcells;have m2:Ext w w2:=e0.trans (e1.trans e2)
 have HB:Hid (∀ wx,Ext (w2.alloc (.cells #[I 0,I D3] 40)) wx->((wx.cell? ⟨w.heap.size,0,none⟩=some (I 6)/\wx.cell? ⟨w.heap.size,1,none⟩=some (I a)/\wx.cell? ⟨w.heap.size,2,none⟩=some (I o)/\wx.cell? ⟨w.heap.size,3,none⟩=some (I n))/\wx.heap[w.heap.size+1]?=some (.cells #[I 0,I 0] 40 (0,0)))/\wx.heap[w2.heap.size]?=some (.cells #[I 0,I D3] 40 (0,0))):=fun wx hx =>
  ⟨zbd rfl rfl (e1.trans (e2.trans (((Ext.refl w2).alloc _).trans hx))),zbj hx⟩
 obtain ⟨⟨⟨c0,c1,c2,c3⟩,rb⟩,sb⟩:=HB.o _ (Ext.refl _);obtain ⟨x0,x1,f0,f1⟩:=zaI rb (Ext.refl _);obtain ⟨y0,y1,-,-⟩:=zaI sb (Ext.refl _);have hvv:zbE (w2.alloc (.cells #[I 0,I D3] 40)) v xs:=HV.o.ext (m2.alloc _)
 have hsz:w.heap.size+1 < w2.heap.size:=by
  have:=(Array.getElem?_eq_some_iff.1 (zbd rfl rfl (e1.trans e2)).2).1;exact this
 have hfA:=fun wx hw=>hfind a wx hw;rw [hfa,if_pos hat] at hfA;have hfO:=fun wx hw=>hfind o wx hw;rw [hfo,if_pos hot] at hfO;have HP:=zhd hP;obtain ⟨b,off,rfl,-,ce1⟩:=HCE.o (at1 l a) (by omega);obtain ⟨b',off',ee,-,ce2⟩:=HCE.o (at1 l o) (by omega);simp only [Option.some.injEq,Addr.mk.injEq,and_true] at ee;obtain ⟨rfl,rfl⟩:=ee;rw [hm1] at ce1;rw [hm2] at ce2;have de1:=((Ext.refl w2).alloc (.cells #[I 0,I D3] 40)).cell ce1;have de2:=((Ext.refl w2).alloc (.cells #[I 0,I D3] 40)).cell ce2;rw [hDl];generalize at1 l a=i at *;generalize at1 l o=j at *;have hi1:(i:Int) < (l.length:Int):=by omega
 have hj1:(j:Int) < (l.length:Int):=by omega
 have hi0:(0:Int)<=(i:Int):=by omega
 have hj0:(0:Int)<=(j:Int):=by omega
 have hv1:IntKind.i64.wrap (2 * (j:Int))=2 * j:=by rw [IntKind.wrap_i64]; omega
 have hv2:IntKind.i64.wrap (2+2 * (j:Int))=2+2 * j:=by rw [IntKind.wrap_i64]; omega
 have hw1:IntKind.i64.wrap (2 * (i:Int))=2 * i:=by rw [IntKind.wrap_i64]; omega
 have hw2:IntKind.i64.wrap (2+2 * (i:Int))=2+2 * i:=by rw [IntKind.wrap_i64]; omega
 have hw3:IntKind.i64.wrap (1+2 * (i:Int))=1+2 * i:=by rw [IntKind.wrap_i64]; omega
 clear hDl hP hm1 hm2 hfa hfo hfind HCE ce1 ce2
 go_wp2_with (go_at_call 69; first
  | (have q2:=hdone; clear q2; refine Calls.same (hfO _ hvv) ?_)
  | (have hdone:True:=trivial; refine Calls.same (hfA _ hvv) ?_))
 refine zam 21 [none,none,none,none,none,none,none,none,none,none,none,none,none,none,none,none,none,none,some (.inr fun v wx=>Has (w2.heap.size+1) wx v [(2+2 * (i:Int),m1),(2+2 * (j:Int),m2')]),none,none] (by kernel_rfl) (by kernel_rfl) ?_ ?_
 ·exact ⟨trivial,trivial,trivial,trivial,trivial,trivial,trivial,trivial,trivial,trivial,trivial,trivial,trivial,trivial,trivial,trivial,trivial,trivial,zfQ _ _,trivial,trivial,trivial⟩
 iterate 7 (refine zar (fun K hK=>?_); go_simp; refine hK _ ?_; clear hK K)
 refine zaE (I m1) rfl (fun w' hw'=>by have q0:=hw'.cell de1; go_simp) ?_;iterate 8 (refine zar (fun K hK=>?_); go_simp; refine hK _ ?_; clear hK K)
 refine zaE (I m2') rfl (fun w' hw'=>by have q0:=hw'.cell de2; go_simp) ?_;(refine zar (fun K hK=>?_); go_simp; refine hK _ ?_; clear hK K)
 refine za8 _ rfl (fun w' hw' _=>?_) (fun v54=>?_)
 ·unfold zaT;go_simp
  exact ⟨(Ext.refl _).alloc _,zkV [(2+2 * (i:Int),m1),(2+2 * (j:Int),m2')] _ 2 rfl rfl (by decide) _ (by have:=hw'.size; simpa using this)⟩
 refine zaE (.agg #[I 0,I D3]) rfl (fun w' hw'=>by have q0:=hw'.cell y0; have q1:=hw'.cell y1; go_simp) ?_;(refine zar (fun K hK=>?_); go_simp; refine hK _ ?_; clear hK K)
 refine za0 ?_;intro w4 he4 hF;have hr:Has (w2.heap.size+1) w4 v54 [(2+2 * (i:Int),m1),(2+2 * (j:Int),m2')]:=hF 54;clear c0 c1 c2 c3 x0 x1 f0 f1 y0 y1 rb sb hF de1 de2 hw1 hw2 hw3 hv1 hv2;obtain ⟨⟨-,rb4⟩,sb4⟩:=HB.o w4 he4;obtain ⟨x0,x1,f0,f1⟩:=zaI rb4 (Ext.refl _);go_wp2
 obtain ⟨z0,z1,-,-⟩:=zaI (zij rb4 (I 0) (I D3)) (Ext.refl _);clear x0 x1 f0 f1;refine bodyPost_ret (by simp [results,Tryz.results52,go_sem,z0,z1]; rfl) rfl ?_;exact zes HD.o hsz ((m2.alloc _).trans he4) (by rw [HP.o]; exact hr)

open Go.RowKit Go.Mk

theorem zqC {l:List (Int×Int)} {c:Cl} (h:(zbk l c).2.err=0):zbn l c=zcP l c:=by
 unfold zbn
 rw [if_neg (by simp [h])]

theorem ziU (v:Value) (xs:List Int) (k a o n:Int) (w:World) (hv:zbE w v xs) (hx:zfd xs) (hc:wrongCl ⟨k,a,o,n⟩=0) :
  Calls Tryz.prog 52 #[v,.agg #[I k,I a,I o,I n]] w fun e w'=>zeN w.heap.size (zaK xs (xs.getD 0 0).toNat) ⟨k,a,o,n⟩ e w'/\Ext w w':=by
 by_cases he:(zbk (zaK xs (xs.getD 0 0).toNat) ⟨k,a,o,n⟩).2.err≠0
 ·exact zog v xs k a o n w hv hx hc he
 have he0:(zbk (zaK xs (xs.getD 0 0).toNat) ⟨k,a,o,n⟩).2.err=0:=by simpa using he
 have hP:=zqC he0
 clear he
 generalize hL:zaK xs (xs.getD 0 0).toNat=l at *
 obtain ⟨hk,_⟩:=zez hc
 rcases hk with rfl | rfl | rfl | rfl | rfl | rfl
 ·rw [ziM] at he0
  by_cases ha:at1 l a < l.length
  ·have hD:doR l ⟨1,a,o,n⟩=(zcg l a n,⟨0,num l (at1 l a)⟩):=by rw [zhv,if_pos ha]
   refine zn8 v xs a o n w hv hx hc l hL _ _ hD ha (zbJ _ _ _) n ?_ ?_
   ·rw [zee _ _ _ _ ha,if_pos (zdj ha)]
   ·rw [hP]; simp [zcP,ha]
  ·by_cases h5:5<=l.length
   ·rw [if_neg ha,if_pos h5] at he0
    exact absurd he0 (by simp)
   ·have hD:doR l ⟨1,a,o,n⟩=(l++[(a,n)],⟨0,0⟩):=by rw [zhv,if_neg ha,if_neg h5]
    refine zoa v xs a o n w hv hx hc l hL _ _ hD ha (by omega) (by simp) ?_
    rw [hP]; simp [zcP,ha]
 ·rw [zjv] at he0
  by_cases ha:at1 l a < l.length
  ·have hD:doR l ⟨2,a,o,n⟩=(l,⟨0,num l (at1 l a)⟩):=by rw [zkO,if_neg (by simpa using ha)]
   exact zon v xs a o n w hv hx hc l hL _ _ hD rfl (by rw [hP]; simp [zcP])
  ·rw [if_pos ha] at he0
   exact absurd he0 (by simp)
 ·rw [zgE] at he0
  by_cases ha:at1 l a < l.length
  ·have hD:doR l ⟨3,a,o,n⟩=(zdl l a,⟨0,num l (at1 l a)⟩):=by rw [zjM,if_neg (by simpa using ha)]
   have hlen:(zdl l a).length=l.length - 1:=zd1 l a
   by_cases hm:at1 l a+1 < l.length
   ·refine zmW v xs a o n w hv hx hc l hL _ _ hD hm hlen (l.getD (l.length - 1) (0,0)).1 (l.getD (l.length - 1) (0,0)).2 (by rw [zhe _ _ _ (by omega),if_pos (zdj ha)]) ?_
    rw [hP]; simp [zcP,hm]
   ·refine ziL v xs a o n w hv hx hc l hL _ _ hD (by omega) hlen ?_
    rw [hP]; simp [zcP,hm]
  ·rw [if_pos ha] at he0
   exact absurd he0 (by simp)
 ·rw [zhH] at he0
  by_cases ha:at1 l a < l.length
  ·rw [if_neg (by simpa using ha)] at he0
   by_cases hr:-1073741824<=num l (at1 l a)+n/\num l (at1 l a)+n<=1073741824
   ·have hD:doR l ⟨4,a,o,n⟩=(zcg l a (num l (at1 l a)+n),⟨0,num l (at1 l a)+n⟩):=by rw [zhy,if_neg (by simpa using ha),if_neg (by simpa using hr)]
    refine zoQ v xs a o n w hv hx hc l hL _ _ hD ha (zbJ _ _ _) (num l (at1 l a)+n) ?_ ?_
    ·rw [zee _ _ _ _ ha,if_pos (zdj ha)]
    ·rw [hP]; simp [zcP]
   ·rw [if_pos hr] at he0
    exact absurd he0 (by simp)
  ·rw [if_pos ha] at he0
   exact absurd he0 (by simp)
 ·exact zl4 v xs a o n w hv hx hc l hL _ _ (zkt l a o n) rfl (by rw [hP]; simp [zcP])
 ·rw [zfK] at he0
  by_cases ha:at1 l a < l.length
  ·rw [if_neg (by simpa using ha)] at he0
   by_cases hb:at1 l o < l.length
   ·have hD:doR l ⟨6,a,o,n⟩=(zcg (zcg l a (num l (at1 l o))) o (num l (at1 l a)),⟨0,num l (at1 l o)⟩):=by rw [zgG,if_neg (by simpa using ha),if_neg (by simpa using hb)]
    refine znq v xs a o n w hv hx hc l hL _ _ hD ha hb (by rw [zbJ,zbJ]) (num l (at1 l o)) (num l (at1 l a)) ?_ ?_ ?_
    ·rw [zee _ _ _ _ (by rw [zbJ]; exact ha),zee _ _ _ _ ha,if_pos (zdj ha)]
     by_cases he:(l.getD (at1 l a) (0,0)).1=o
     ·rw [if_pos he]
      rw [zdj ha] at he
      rw [he]
     ·rw [if_neg he]
    ·rw [zee _ _ _ _ (by rw [zbJ]; exact hb),zee _ _ _ _ hb]
     by_cases he:(l.getD (at1 l o) (0,0)).1=a
     ·rw [if_pos he,if_pos (zdj hb)]
     ·rw [if_neg he,if_pos (zdj hb)]
    ·rw [hP]; simp [zcP]
   ·rw [if_pos hb] at he0
    exact absurd he0 (by simp)
  ·rw [if_pos ha] at he0
   exact absurd he0 (by simp)

open Go.RowKit Go.Mk

def ziX (s:St) (v:Sv) (b:List UInt8) (e:Int) (r:Value) (w:World):Prop:=∃ (cs ds:List Value) (bv:Value),r=.tuple #[.agg cs.toArray,.agg ds.toArray,bv,I e]/\zcn w cs s/\zhq w ds v/\zba w bv b
theorem znN {s:St} {v:Sv} {b:List UInt8} {e:Int} {r:Value} {A:Nat->Prop} {w:World} (h:Rd A (ziX s v b e r) w):∃ (cs ds:List Value) (bv:Value),r=.tuple #[.agg cs.toArray,.agg ds.toArray,bv,I e]/\Rd A (fun w=>zcn w cs s) w/\Rd A (fun w=>zhq w ds v) w/\Rd A (fun w=>zba w bv b) w:=by
 obtain ⟨cs,ds,bv,e1,_⟩:=h.o
 have key:∀ w',ziX s v b e r w'->zcn w' cs s/\zhq w' ds v/\zba w' bv b:=fun w' ⟨cs2,ds2,bv2,e2,h3⟩=>by
  rw [e1] at e2
  have:cs=cs2/\ds=ds2/\bv=bv2:=by simpa using e2
  obtain ⟨rfl,rfl,rfl⟩:=this
  exact h3
 exact ⟨cs,ds,bv,e1,h.imp fun w' hw=>(key w' hw).1,h.imp fun w' hw=>(key w' hw).2.1,h.imp fun w' hw=>(key w' hw).2.2⟩
theorem zdz {s:St} {v:Sv} {b:List UInt8} {e:Int} {cs ds:List Value} {bv:Value} {A:Nat->Prop} {w:World} (h:Rd A (fun w=>zcn w cs s) w) (h2:Rd A (fun w=>zhq w ds v) w) (h3:Rd A (fun w=>zba w bv b) w):Rd A (ziX s v b e (.tuple #[.agg cs.toArray,.agg ds.toArray,bv,I e])) w :=
 (h.and (h2.and h3)).imp fun _ h=>⟨cs,ds,bv,rfl,h.1,h.2.1,h.2.2⟩

theorem ziP {A:Nat->Prop} {w:World} {v:Value} {p:Int×Int} {l:List (Int×Int)} (h:Rd A (fun w=>zaw w v (p::l)) w):∃ lb lo lc,v=.slice (some ⟨lb,lo,none⟩) (l.length+1) lc/\l.length+1<=lc/\lc<=maxLen/\Rd A (fun w=>w.cell? ⟨lb,lo,none⟩=some (I p.1)/\w.cell? ⟨lb,lo+1,none⟩=some (I p.2)) w/\Rd A (fun w=>zaw w (.slice (some ⟨lb,lo+2,none⟩) l.length (lc - 1)) l) w:=by
 obtain ⟨hl,ao,lc,e,h3,h4,h0,h5⟩:=h.o
 obtain ⟨lb,lo,rfl,-⟩:=h5 0 (I p.1) rfl
 have key:∀ w',zaw w' v (p::l)->∀ j u,(zaz (p::l))[j]?=some u->w'.cell? ⟨lb,lo+j,none⟩=some u:=fun w' hw j u hj=>by
  obtain ⟨_,ao',lc',e',_,_,_,h5'⟩:=hw
  obtain ⟨b,o,ea,hc⟩:=h5' j u hj
  rw [e,ea] at e'
  simp only [Value.slice.injEq,Option.some.injEq,Addr.mk.injEq,and_true] at e'
  obtain ⟨⟨rfl,rfl⟩,_⟩:=e'
  exact hc
 refine ⟨lb,lo,lc,e,by simpa using h3,h4,h.imp fun w' hw=>⟨key w' hw 0 _ rfl,key w' hw 1 _ rfl⟩,h.imp fun w' hw=>?_⟩
 refine ⟨zcp l,_,_,rfl,by simp at h3; omega,by omega,(fun h=>by cases h),fun j u hj=>⟨lb,lo+2,rfl,?_⟩⟩
 have:=key w' hw (j+2) u (by simpa [zaz] using hj)
 rw [show lo+2+j=lo+(j+2) by omega]
 exact this
theorem zhB (w:World) (b off cap:Nat) (hc:cap<=maxLen):zaw w (.slice (some ⟨b,off,none⟩) 0 cap) []:=zol w b off cap hc

theorem zjb {b:List UInt8} (h:(readRq b).2=0):zbH (readRq b).1=0:=by
 unfold readRq at *
 split at h
 ·exact absurd h (by decide)
 ·split at h
  ·rename_i h2 h3; exact absurd h h3
  ·rename_i h2 h3
   rw [if_neg h2,if_neg h3]
   exact Classical.byContradiction h3
theorem Has.rd {base:Nat} {w:World} {u:Value} {l:List (Int×Int)} (h:Has base w u l):Rd (fun k=>base<=k) (fun w=>zaw w u l) w:=by
 obtain ⟨x,m,lo,h1,h2⟩:=h
 intro w2 hw
 refine h2 w2 ⟨h1.1,?_⟩
 rcases h1.2 with h | ⟨g,cap,cur,e,hb,hg,hr⟩
 ·exact .inl h
 ·exact .inr ⟨g,cap,cur,e,hb,by rw [hw g hb (Array.getElem?_eq_some_iff.1 hg).1]; exact hg,hr⟩

end Go.Proofs.YtdmipnnfoolelagGreat

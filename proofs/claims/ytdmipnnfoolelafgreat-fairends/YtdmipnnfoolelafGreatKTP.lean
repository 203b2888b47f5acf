/- Texts of the proof, merged: D5b D5c D5d. -/
import Derived.Test.YtdmipnnfoolelafGreatKTA
import Derived.Test.YtdmipnnfoolelafGreatKTO
import Derived.Lib.Hide
set_option maxHeartbeats 4000000
set_option maxRecDepth 100000

namespace Go.Proofs.YtdmipnnfoolelafGreat
open Go.RowKit Go.Mk

theorem zbh {w:World} {o1 o2:Obj} {wx:World} {v0 v1 v2 v3:Value} (h1:o1=.cells #[v0,v1,v2,v3] 34 (0,0)) (h2:o2=.cells #[I 0,I 0] 39 (0,0)) (hx:Ext ((w.alloc o1).alloc o2) wx) :
  (wx.cell? ⟨w.heap.size,0,none⟩=some v0/\wx.cell? ⟨w.heap.size,1,none⟩=some v1/\wx.cell? ⟨w.heap.size,2,none⟩=some v2/\wx.cell? ⟨w.heap.size,3,none⟩=some v3)/\wx.heap[w.heap.size+1]?=some (.cells #[I 0,I 0] 39 (0,0)):=by
 subst h1 h2
 have p0:((w.alloc (.cells #[v0,v1,v2,v3] 34 (0,0))).alloc (.cells #[I 0,I 0] 39 (0,0))).heap[w.heap.size]?=some (.cells #[v0,v1,v2,v3] 34 (0,0)):=by
  rw [heap_alloc_old _ _ (by simp)]; exact heap_alloc_new _ _
 have p1:((w.alloc (.cells #[v0,v1,v2,v3] 34 (0,0))).alloc (.cells #[I 0,I 0] 39 (0,0))).heap[w.heap.size+1]?=some (.cells #[I 0,I 0] 39 (0,0)):=by
  have:=heap_alloc_new (w.alloc (.cells #[v0,v1,v2,v3] 34 (0,0))) (.cells #[I 0,I 0] 39 (0,0))
  simpa using this
 refine ⟨⟨hx.cell (zaW p0 rfl),hx.cell (zaW p0 rfl),hx.cell (zaW p0 rfl),hx.cell (zaW p0 rfl)⟩,?_⟩
 rw [hx.block _ (by simp)]
 exact p1

theorem ziR {w:World} {b:Nat} {t:TypeId} {p q:Value} (h:w.heap[b]?=some (.cells #[p,q] t (0,0))) (u v:Value):((w.setCell ⟨b,0,none⟩ u).setCell ⟨b,1,none⟩ v).heap[b]?=some (.cells #[u,v] t (0,0)):=by
 have h1:=heap_setCell_same _ _ 0 _ _ u h
 have h2:=heap_setCell_same _ _ 1 _ _ v h1
 simpa using h2

theorem zms {w:World} (l:List (Int×Int)) (cs:Array Value) (n:Nat) (hc:cs.toList=zaB l) (hn:l.length=n) (hm:n<=maxLen) (b:Nat) (hb:b<=w.heap.size):Has b (w.alloc (.cells cs 111)) (.slice (some ⟨w.heap.size,0,none⟩) n n) l:=by
 subst hn
 have:=World.ownsRow_lit (base:=b) (e:=111) (size:=2) w cs l.length hb hm (by rw [<- Array.length_toList,hc,zcF])
 rw [hc] at this
 exact ⟨_,_,l,this,fun w2 h2=>zaC h2⟩

theorem zeC {w w2 w4:World} {l:List (Int×Int)} {c:Cl} {D1:List (Int×Int)} {D3:Int} {u:Value} (hD:doR l c=(D1,⟨0,D3⟩)) (hsz:w.heap.size+1 < w2.heap.size) (m4:Ext w w4) (hu:Has (w2.heap.size+1) w4 u (zbq l c)) :
  zeU w.heap.size l c (.returned (.tuple #[u,.agg #[I 0,I D3]])) ((w4.setCell ⟨w.heap.size+1,0,none⟩ (I 0)).setCell ⟨w.heap.size+1,1,none⟩ (I D3))/\Ext w ((w4.setCell ⟨w.heap.size+1,0,none⟩ (I 0)).setCell ⟨w.heap.size+1,1,none⟩ (I D3)):=by
 refine ⟨⟨u,by rw [<- zmi,hD],?_⟩,(m4.setCell (by simp only []; omega) _).setCell (by simp only []; omega) _⟩
 exact ((hu.set (by omega) 0 (I 0)).set (by omega) 1 (I D3)).low (by omega)

theorem zpt (v:Value) (xs:List Int) (a o n:Int) (w:World) (hv:zby w v xs) (hx:zfx xs) (hc:wrongCl ⟨2,a,o,n⟩=0) (l:List (Int×Int)) (hL:zaN xs (xs.getD 0 0).toNat=l) (D1:List (Int×Int)) (D3:Int) (hD:doR l ⟨2,a,o,n⟩=(D1,⟨0,D3⟩)) (hDl:D1=l) (hP:zbq l ⟨2,a,o,n⟩=[]) :
  Calls Tryz.prog 66 #[v,.agg #[I 2,I a,I o,I n]] w fun e w'=>zeU w.heap.size l ⟨2,a,o,n⟩ e w'/\Ext w w':=by
 obtain ⟨hl11,hx0,hx5,hok⟩:=id hx;have hln:l.length=(xs.getD 0 0).toNat:=by rw [<- hL,zaV]
 have hl5:l.length<=5:=by omega
 rw [hL] at hok;have hfind:=fun nm wx (hw:zby wx v xs)=>zc7 v xs nm wx hw hl11 hx0 hx5;have hfa:=zch xs a (xs.getD 0 0).toNat;rw [hL,<- hln] at hfa;have hfo:=zch xs o (xs.getD 0 0).toNat;rw [hL,<- hln] at hfo;rw [<- hln] at hfind;have HL:=zhd hL;have HD:=zhd hD;have HX:=zhd hx;have HOK:=zhd hok;have HCW:=zhd hc;have HV:=zhd hv;clear hL hD hx hok hc hln hl11 hx0 hx5 hv;have e0:Ext w ((w.alloc (.cells #[I 2,I a,I o,I n] 34)).alloc (.cells #[I 0,I 0] 39)):=((Ext.refl w).alloc _).alloc _;go_enter Tryz.func66,Tryz.ntmps66
 go_wp2_with fail
 refine (zde v xs _ (HV.o.ext e0) HX.o.c).mono ?_;rintro e w1 ⟨h1,rfl,e1,hw1⟩
 rw [HL.o] at hw1;obtain ⟨⟨d0,d1,d2,d3⟩,-⟩:=zbh rfl rfl e1;obtain ⟨ao,cap,rfl,hq1,hq2,-⟩:=hw1.form;unfold maxLen at hq2;have HW1:=zhd hw1;clear hw1;go_wp2_with fail
 refine (zeK _ l 2 a o n w1 HW1.o HOK.o HCW.o).mono ?_;rintro e w2 ⟨⟨u,rfl,hu,-⟩,e2⟩
 rw [HD.o] at hu ⊢;simp only [] at hu;obtain ⟨bo,cap2,rfl,hr1,hr2,hcells⟩:=hu.form;unfold maxLen at hr2;have HU:=zhd hu;have HCE:=zhd hcells;clear d0 d1 d2 d3 hu hcells;have m2:Ext w w2:=e0.trans (e1.trans e2)
 have HB:Hid (∀ wx,Ext (w2.alloc (.cells #[I 0,I D3] 39)) wx->((wx.cell? ⟨w.heap.size,0,none⟩=some (I 2)/\wx.cell? ⟨w.heap.size,1,none⟩=some (I a)/\wx.cell? ⟨w.heap.size,2,none⟩=some (I o)/\wx.cell? ⟨w.heap.size,3,none⟩=some (I n))/\wx.heap[w.heap.size+1]?=some (.cells #[I 0,I 0] 39 (0,0)))/\wx.heap[w2.heap.size]?=some (.cells #[I 0,I D3] 39 (0,0))):=fun wx hx =>
  ⟨zbh rfl rfl (e1.trans (e2.trans (((Ext.refl w2).alloc _).trans hx))),zbo hx⟩
 obtain ⟨⟨⟨c0,c1,c2,c3⟩,rb⟩,sb⟩:=HB.o _ (Ext.refl _);obtain ⟨x0,x1,f0,f1⟩:=zaL rb (Ext.refl _);obtain ⟨y0,y1,-,-⟩:=zaL sb (Ext.refl _);have hvv:zby (w2.alloc (.cells #[I 0,I D3] 39)) v xs:=HV.o.ext (m2.alloc _)
 have hsz:w.heap.size+1 < w2.heap.size:=by
  have:=(Array.getElem?_eq_some_iff.1 (zbh rfl rfl (e1.trans e2)).2).1;exact this
 have hlen:D1.length=l.length:=by rw [hDl]
 have HP:=zhd hP;generalize findIn xs a l.length 0=fa at *;clear hDl hP;rw [hlen];clear hlen;go_wp2_with (go_at_call 92; refine Calls.same (hfind _ _ hvv) ?_)
 refine zan 3 [none,none,none] (by kernel_rfl) (by kernel_rfl) ?_ ?_
 ·exact ⟨trivial,trivial,trivial,trivial⟩
 (refine zap (fun K hK=>?_); go_simp; refine hK _ ?_; clear hK K)
 refine zay (.agg #[I 0,I D3]) rfl (fun w' hw'=>by have q0:=hw'.cell y0; have q1:=hw'.cell y1; go_simp) ?_;(refine zap (fun K hK=>?_); go_simp; refine hK _ ?_; clear hK K)
 refine zaP ?_;intro w4 he4 _;have hr:Has (w2.heap.size+1) w4 (.slice none 0 0) []:=Has.nil _ _;clear c0 c1 c2 c3 x0 x1 f0 f1 y0 y1 rb sb;obtain ⟨⟨-,rb4⟩,sb4⟩:=HB.o w4 he4;obtain ⟨x0,x1,f0,f1⟩:=zaL rb4 (Ext.refl _);go_wp2
 obtain ⟨z0,z1,-,-⟩:=zaL (ziR rb4 (I 0) (I D3)) (Ext.refl _);clear x0 x1 f0 f1;refine bodyPost_ret (by simp [results,Tryz.results66,go_sem,z0,z1]; rfl) rfl ?_;exact zeC HD.o hsz ((m2.alloc _).trans he4) (by rw [HP.o]; exact hr)

theorem zmX (v:Value) (xs:List Int) (a o n:Int) (w:World) (hv:zby w v xs) (hx:zfx xs) (hc:wrongCl ⟨5,a,o,n⟩=0) (l:List (Int×Int)) (hL:zaN xs (xs.getD 0 0).toNat=l) (D1:List (Int×Int)) (D3:Int) (hD:doR l ⟨5,a,o,n⟩=(D1,⟨0,D3⟩)) (hDl:D1=l) (hP:zbq l ⟨5,a,o,n⟩=[]) :
  Calls Tryz.prog 66 #[v,.agg #[I 5,I a,I o,I n]] w fun e w'=>zeU w.heap.size l ⟨5,a,o,n⟩ e w'/\Ext w w':=by
 obtain ⟨hl11,hx0,hx5,hok⟩:=id hx;have hln:l.length=(xs.getD 0 0).toNat:=by rw [<- hL,zaV]
 have hl5:l.length<=5:=by omega
 rw [hL] at hok;have hfind:=fun nm wx (hw:zby wx v xs)=>zc7 v xs nm wx hw hl11 hx0 hx5;have hfa:=zch xs a (xs.getD 0 0).toNat;rw [hL,<- hln] at hfa;have hfo:=zch xs o (xs.getD 0 0).toNat;rw [hL,<- hln] at hfo;rw [<- hln] at hfind;have HL:=zhd hL;have HD:=zhd hD;have HX:=zhd hx;have HOK:=zhd hok;have HCW:=zhd hc;have HV:=zhd hv;clear hL hD hx hok hc hln hl11 hx0 hx5 hv;have e0:Ext w ((w.alloc (.cells #[I 5,I a,I o,I n] 34)).alloc (.cells #[I 0,I 0] 39)):=((Ext.refl w).alloc _).alloc _;go_enter Tryz.func66,Tryz.ntmps66
 go_wp2_with fail
 refine (zde v xs _ (HV.o.ext e0) HX.o.c).mono ?_;rintro e w1 ⟨h1,rfl,e1,hw1⟩
 rw [HL.o] at hw1;obtain ⟨⟨d0,d1,d2,d3⟩,-⟩:=zbh rfl rfl e1;obtain ⟨ao,cap,rfl,hq1,hq2,-⟩:=hw1.form;unfold maxLen at hq2;have HW1:=zhd hw1;clear hw1;go_wp2_with fail
 refine (zeK _ l 5 a o n w1 HW1.o HOK.o HCW.o).mono ?_;rintro e w2 ⟨⟨u,rfl,hu,-⟩,e2⟩
 rw [HD.o] at hu ⊢;simp only [] at hu;obtain ⟨bo,cap2,rfl,hr1,hr2,hcells⟩:=hu.form;unfold maxLen at hr2;have HU:=zhd hu;have HCE:=zhd hcells;clear d0 d1 d2 d3 hu hcells;have m2:Ext w w2:=e0.trans (e1.trans e2)
 have HB:Hid (∀ wx,Ext (w2.alloc (.cells #[I 0,I D3] 39)) wx->((wx.cell? ⟨w.heap.size,0,none⟩=some (I 5)/\wx.cell? ⟨w.heap.size,1,none⟩=some (I a)/\wx.cell? ⟨w.heap.size,2,none⟩=some (I o)/\wx.cell? ⟨w.heap.size,3,none⟩=some (I n))/\wx.heap[w.heap.size+1]?=some (.cells #[I 0,I 0] 39 (0,0)))/\wx.heap[w2.heap.size]?=some (.cells #[I 0,I D3] 39 (0,0))):=fun wx hx =>
  ⟨zbh rfl rfl (e1.trans (e2.trans (((Ext.refl w2).alloc _).trans hx))),zbo hx⟩
 obtain ⟨⟨⟨c0,c1,c2,c3⟩,rb⟩,sb⟩:=HB.o _ (Ext.refl _);obtain ⟨x0,x1,f0,f1⟩:=zaL rb (Ext.refl _);obtain ⟨y0,y1,-,-⟩:=zaL sb (Ext.refl _);have hvv:zby (w2.alloc (.cells #[I 0,I D3] 39)) v xs:=HV.o.ext (m2.alloc _)
 have hsz:w.heap.size+1 < w2.heap.size:=by
  have:=(Array.getElem?_eq_some_iff.1 (zbh rfl rfl (e1.trans e2)).2).1;exact this
 have hlen:D1.length=l.length:=by rw [hDl]
 have HP:=zhd hP;generalize findIn xs a l.length 0=fa at *;clear hDl hP;rw [hlen];clear hlen;go_wp2_with (go_at_call 92; refine Calls.same (hfind _ _ hvv) ?_)
 refine zan 3 [none,none,none] (by kernel_rfl) (by kernel_rfl) ?_ ?_
 ·exact ⟨trivial,trivial,trivial,trivial⟩
 (refine zap (fun K hK=>?_); go_simp; refine hK _ ?_; clear hK K)
 refine zay (.agg #[I 0,I D3]) rfl (fun w' hw'=>by have q0:=hw'.cell y0; have q1:=hw'.cell y1; go_simp) ?_;(refine zap (fun K hK=>?_); go_simp; refine hK _ ?_; clear hK K)
 refine zaP ?_;intro w4 he4 _;have hr:Has (w2.heap.size+1) w4 (.slice none 0 0) []:=Has.nil _ _;clear c0 c1 c2 c3 x0 x1 f0 f1 y0 y1 rb sb;obtain ⟨⟨-,rb4⟩,sb4⟩:=HB.o w4 he4;obtain ⟨x0,x1,f0,f1⟩:=zaL rb4 (Ext.refl _);go_wp2
 obtain ⟨z0,z1,-,-⟩:=zaL (ziR rb4 (I 0) (I D3)) (Ext.refl _);clear x0 x1 f0 f1;refine bodyPost_ret (by simp [results,Tryz.results66,go_sem,z0,z1]; rfl) rfl ?_;exact zeC HD.o hsz ((m2.alloc _).trans he4) (by rw [HP.o]; exact hr)

theorem zpR (v:Value) (xs:List Int) (a o n:Int) (w:World) (hv:zby w v xs) (hx:zfx xs) (hc:wrongCl ⟨1,a,o,n⟩=0) (l:List (Int×Int)) (hL:zaN xs (xs.getD 0 0).toNat=l) (D1:List (Int×Int)) (D3:Int) (hD:doR l ⟨1,a,o,n⟩=(D1,⟨0,D3⟩)) (hat:at1 l a < l.length) (hDl:D1.length=l.length) (m:Int) (hm:(D1.getD (at1 l a) (0,0)).2=m) (hP:zbq l ⟨1,a,o,n⟩=[(2+2 * (at1 l a:Int),m)]) :
  Calls Tryz.prog 66 #[v,.agg #[I 1,I a,I o,I n]] w fun e w'=>zeU w.heap.size l ⟨1,a,o,n⟩ e w'/\Ext w w':=by
 obtain ⟨hl11,hx0,hx5,hok⟩:=id hx;have hln:l.length=(xs.getD 0 0).toNat:=by rw [<- hL,zaV]
 have hl5:l.length<=5:=by omega
 rw [hL] at hok;have hfind:=fun nm wx (hw:zby wx v xs)=>zc7 v xs nm wx hw hl11 hx0 hx5;have hfa:=zch xs a (xs.getD 0 0).toNat;rw [hL,<- hln] at hfa;have hfo:=zch xs o (xs.getD 0 0).toNat;rw [hL,<- hln] at hfo;rw [<- hln] at hfind;have HL:=zhd hL;have HD:=zhd hD;have HX:=zhd hx;have HOK:=zhd hok;have HCW:=zhd hc;have HV:=zhd hv;clear hL hD hx hok hc hln hl11 hx0 hx5 hv;have e0:Ext w ((w.alloc (.cells #[I 1,I a,I o,I n] 34)).alloc (.cells #[I 0,I 0] 39)):=((Ext.refl w).alloc _).alloc _;go_enter Tryz.func66,Tryz.ntmps66
 go_wp2_with fail
 refine (zde v xs _ (HV.o.ext e0) HX.o.c).mono ?_;rintro e w1 ⟨h1,rfl,e1,hw1⟩
 rw [HL.o] at hw1;obtain ⟨⟨d0,d1,d2,d3⟩,-⟩:=zbh rfl rfl e1;obtain ⟨ao,cap,rfl,hq1,hq2,-⟩:=hw1.form;unfold maxLen at hq2;have HW1:=zhd hw1;clear hw1;go_wp2_with fail
 refine (zeK _ l 1 a o n w1 HW1.o HOK.o HCW.o).mono ?_;rintro e w2 ⟨⟨u,rfl,hu,-⟩,e2⟩
 rw [HD.o] at hu ⊢;simp only [] at hu;obtain ⟨bo,cap2,rfl,hr1,hr2,hcells⟩:=hu.form;unfold maxLen at hr2;have HU:=zhd hu;have HCE:=zhd hcells;clear d0 d1 d2 d3 hu hcells;have m2:Ext w w2:=e0.trans (e1.trans e2)
 have HB:Hid (∀ wx,Ext (w2.alloc (.cells #[I 0,I D3] 39)) wx->((wx.cell? ⟨w.heap.size,0,none⟩=some (I 1)/\wx.cell? ⟨w.heap.size,1,none⟩=some (I a)/\wx.cell? ⟨w.heap.size,2,none⟩=some (I o)/\wx.cell? ⟨w.heap.size,3,none⟩=some (I n))/\wx.heap[w.heap.size+1]?=some (.cells #[I 0,I 0] 39 (0,0)))/\wx.heap[w2.heap.size]?=some (.cells #[I 0,I D3] 39 (0,0))):=fun wx hx =>
  ⟨zbh rfl rfl (e1.trans (e2.trans (((Ext.refl w2).alloc _).trans hx))),zbo hx⟩
 obtain ⟨⟨⟨c0,c1,c2,c3⟩,rb⟩,sb⟩:=HB.o _ (Ext.refl _);obtain ⟨x0,x1,f0,f1⟩:=zaL rb (Ext.refl _);obtain ⟨y0,y1,-,-⟩:=zaL sb (Ext.refl _);have hvv:zby (w2.alloc (.cells #[I 0,I D3] 39)) v xs:=HV.o.ext (m2.alloc _)
 have hsz:w.heap.size+1 < w2.heap.size:=by
  have:=(Array.getElem?_eq_some_iff.1 (zbh rfl rfl (e1.trans e2)).2).1;exact this
 have hfA:=fun wx hw=>hfind a wx hw;rw [hfa,if_pos hat] at hfA;have HP:=zhd hP;obtain ⟨b,off,rfl,-,ce⟩:=HCE.o (at1 l a) (by omega);rw [hm] at ce;have ce':=((Ext.refl w2).alloc (.cells #[I 0,I D3] 39)).cell ce;rw [hDl];generalize at1 l a=i at *;have hi1:(i:Int) < (l.length:Int):=by omega
 have hi0:¬ (i:Int) < 0:=by omega
 have hw1:IntKind.i64.wrap (2 * (i:Int))=2 * i:=by rw [IntKind.wrap_i64]; omega
 have hw2:IntKind.i64.wrap (2+2 * (i:Int))=2+2 * i:=by rw [IntKind.wrap_i64]; omega
 clear hDl hP hm hfa hfo hfind HCE;go_wp2_with (go_at_call 92; refine Calls.same (hfA _ hvv) ?_)
 refine zan 12 [none,none,none,none,none,none,none,none,none,some (.inr fun v wx=>Has (w2.heap.size+1) wx v [(2+2 * (i:Int),m)]),none,none] (by kernel_rfl) (by kernel_rfl) ?_ ?_
 ·exact ⟨trivial,trivial,trivial,trivial,trivial,trivial,trivial,trivial,trivial,zf6 _ _,trivial,trivial,trivial⟩
 iterate 7 (refine zap (fun K hK=>?_); go_simp; refine hK _ ?_; clear hK K)
 refine zay (I m) rfl (fun w' hw'=>by have q0:=hw'.cell ce'; go_simp) ?_;(refine zap (fun K hK=>?_); go_simp; refine hK _ ?_; clear hK K)
 refine zbb _ rfl (fun w' hw' _=>?_) (fun v125=>?_)
 ·unfold zaQ;go_simp
  exact ⟨(Ext.refl _).alloc _,zms [(2+2 * (i:Int),m)] _ 1 rfl rfl (by decide) _ (by have:=hw'.size; simpa using this)⟩
 refine zay (.agg #[I 0,I D3]) rfl (fun w' hw'=>by have q0:=hw'.cell y0; have q1:=hw'.cell y1; go_simp) ?_;(refine zap (fun K hK=>?_); go_simp; refine hK _ ?_; clear hK K)
 refine zaP ?_;intro w4 he4 hF;have hr:Has (w2.heap.size+1) w4 v125 [(2+2 * (i:Int),m)]:=hF 125;clear c0 c1 c2 c3 x0 x1 f0 f1 y0 y1 rb sb hF ce ce' hw1 hw2;obtain ⟨⟨-,rb4⟩,sb4⟩:=HB.o w4 he4;obtain ⟨x0,x1,f0,f1⟩:=zaL rb4 (Ext.refl _);go_wp2
 obtain ⟨z0,z1,-,-⟩:=zaL (ziR rb4 (I 0) (I D3)) (Ext.refl _);clear x0 x1 f0 f1;refine bodyPost_ret (by simp [results,Tryz.results66,go_sem,z0,z1]; rfl) rfl ?_;exact zeC HD.o hsz ((m2.alloc _).trans he4) (by rw [HP.o]; exact hr)

theorem zpp (v:Value) (xs:List Int) (a o n:Int) (w:World) (hv:zby w v xs) (hx:zfx xs) (hc:wrongCl ⟨4,a,o,n⟩=0) (l:List (Int×Int)) (hL:zaN xs (xs.getD 0 0).toNat=l) (D1:List (Int×Int)) (D3:Int) (hD:doR l ⟨4,a,o,n⟩=(D1,⟨0,D3⟩)) (hat:at1 l a < l.length) (hDl:D1.length=l.length) (m:Int) (hm:(D1.getD (at1 l a) (0,0)).2=m) (hP:zbq l ⟨4,a,o,n⟩=[(2+2 * (at1 l a:Int),m)]) :
  Calls Tryz.prog 66 #[v,.agg #[I 4,I a,I o,I n]] w fun e w'=>zeU w.heap.size l ⟨4,a,o,n⟩ e w'/\Ext w w':=by
 obtain ⟨hl11,hx0,hx5,hok⟩:=id hx;have hln:l.length=(xs.getD 0 0).toNat:=by rw [<- hL,zaV]
 have hl5:l.length<=5:=by omega
 rw [hL] at hok;have hfind:=fun nm wx (hw:zby wx v xs)=>zc7 v xs nm wx hw hl11 hx0 hx5;have hfa:=zch xs a (xs.getD 0 0).toNat;rw [hL,<- hln] at hfa;have hfo:=zch xs o (xs.getD 0 0).toNat;rw [hL,<- hln] at hfo;rw [<- hln] at hfind;have HL:=zhd hL;have HD:=zhd hD;have HX:=zhd hx;have HOK:=zhd hok;have HCW:=zhd hc;have HV:=zhd hv;clear hL hD hx hok hc hln hl11 hx0 hx5 hv;have e0:Ext w ((w.alloc (.cells #[I 4,I a,I o,I n] 34)).alloc (.cells #[I 0,I 0] 39)):=((Ext.refl w).alloc _).alloc _;go_enter Tryz.func66,Tryz.ntmps66
 go_wp2_with fail
 refine (zde v xs _ (HV.o.ext e0) HX.o.c).mono ?_;rintro e w1 ⟨h1,rfl,e1,hw1⟩
 rw [HL.o] at hw1;obtain ⟨⟨d0,d1,d2,d3⟩,-⟩:=zbh rfl rfl e1;obtain ⟨ao,cap,rfl,hq1,hq2,-⟩:=hw1.form;unfold maxLen at hq2;have HW1:=zhd hw1;clear hw1;go_wp2_with fail
 refine (zeK _ l 4 a o n w1 HW1.o HOK.o HCW.o).mono ?_;rintro e w2 ⟨⟨u,rfl,hu,-⟩,e2⟩
 rw [HD.o] at hu ⊢;simp only [] at hu;obtain ⟨bo,cap2,rfl,hr1,hr2,hcells⟩:=hu.form;unfold maxLen at hr2;have HU:=zhd hu;have HCE:=zhd hcells;clear d0 d1 d2 d3 hu hcells;have m2:Ext w w2:=e0.trans (e1.trans e2)
 have HB:Hid (∀ wx,Ext (w2.alloc (.cells #[I 0,I D3] 39)) wx->((wx.cell? ⟨w.heap.size,0,none⟩=some (I 4)/\wx.cell? ⟨w.heap.size,1,none⟩=some (I a)/\wx.cell? ⟨w.heap.size,2,none⟩=some (I o)/\wx.cell? ⟨w.heap.size,3,none⟩=some (I n))/\wx.heap[w.heap.size+1]?=some (.cells #[I 0,I 0] 39 (0,0)))/\wx.heap[w2.heap.size]?=some (.cells #[I 0,I D3] 39 (0,0))):=fun wx hx =>
  ⟨zbh rfl rfl (e1.trans (e2.trans (((Ext.refl w2).alloc _).trans hx))),zbo hx⟩
 obtain ⟨⟨⟨c0,c1,c2,c3⟩,rb⟩,sb⟩:=HB.o _ (Ext.refl _);obtain ⟨x0,x1,f0,f1⟩:=zaL rb (Ext.refl _);obtain ⟨y0,y1,-,-⟩:=zaL sb (Ext.refl _);have hvv:zby (w2.alloc (.cells #[I 0,I D3] 39)) v xs:=HV.o.ext (m2.alloc _)
 have hsz:w.heap.size+1 < w2.heap.size:=by
  have:=(Array.getElem?_eq_some_iff.1 (zbh rfl rfl (e1.trans e2)).2).1;exact this
 have hfA:=fun wx hw=>hfind a wx hw;rw [hfa,if_pos hat] at hfA;have HP:=zhd hP;obtain ⟨b,off,rfl,-,ce⟩:=HCE.o (at1 l a) (by omega);rw [hm] at ce;have ce':=((Ext.refl w2).alloc (.cells #[I 0,I D3] 39)).cell ce;rw [hDl];generalize at1 l a=i at *;have hi1:(i:Int) < (l.length:Int):=by omega
 have hi0:¬ (i:Int) < 0:=by omega
 have hw1:IntKind.i64.wrap (2 * (i:Int))=2 * i:=by rw [IntKind.wrap_i64]; omega
 have hw2:IntKind.i64.wrap (2+2 * (i:Int))=2+2 * i:=by rw [IntKind.wrap_i64]; omega
 clear hDl hP hm hfa hfo hfind HCE;go_wp2_with (go_at_call 92; refine Calls.same (hfA _ hvv) ?_)
 refine zan 12 [none,none,none,none,none,none,none,none,none,some (.inr fun v wx=>Has (w2.heap.size+1) wx v [(2+2 * (i:Int),m)]),none,none] (by kernel_rfl) (by kernel_rfl) ?_ ?_
 ·exact ⟨trivial,trivial,trivial,trivial,trivial,trivial,trivial,trivial,trivial,zf6 _ _,trivial,trivial,trivial⟩
 iterate 7 (refine zap (fun K hK=>?_); go_simp; refine hK _ ?_; clear hK K)
 refine zay (I m) rfl (fun w' hw'=>by have q0:=hw'.cell ce'; go_simp) ?_;(refine zap (fun K hK=>?_); go_simp; refine hK _ ?_; clear hK K)
 refine zbb _ rfl (fun w' hw' _=>?_) (fun v125=>?_)
 ·unfold zaQ;go_simp
  exact ⟨(Ext.refl _).alloc _,zms [(2+2 * (i:Int),m)] _ 1 rfl rfl (by decide) _ (by have:=hw'.size; simpa using this)⟩
 refine zay (.agg #[I 0,I D3]) rfl (fun w' hw'=>by have q0:=hw'.cell y0; have q1:=hw'.cell y1; go_simp) ?_;(refine zap (fun K hK=>?_); go_simp; refine hK _ ?_; clear hK K)
 refine zaP ?_;intro w4 he4 hF;have hr:Has (w2.heap.size+1) w4 v125 [(2+2 * (i:Int),m)]:=hF 125;clear c0 c1 c2 c3 x0 x1 f0 f1 y0 y1 rb sb hF ce ce' hw1 hw2;obtain ⟨⟨-,rb4⟩,sb4⟩:=HB.o w4 he4;obtain ⟨x0,x1,f0,f1⟩:=zaL rb4 (Ext.refl _);go_wp2
 obtain ⟨z0,z1,-,-⟩:=zaL (ziR rb4 (I 0) (I D3)) (Ext.refl _);clear x0 x1 f0 f1;refine bodyPost_ret (by simp [results,Tryz.results66,go_sem,z0,z1]; rfl) rfl ?_;exact zeC HD.o hsz ((m2.alloc _).trans he4) (by rw [HP.o]; exact hr)

open Go.RowKit Go.Mk

theorem zpn (v:Value) (xs:List Int) (a o n:Int) (w:World) (hv:zby w v xs) (hx:zfx xs) (hc:wrongCl ⟨1,a,o,n⟩=0) (l:List (Int×Int)) (hL:zaN xs (xs.getD 0 0).toNat=l) (D1:List (Int×Int)) (D3:Int) (hD:doR l ⟨1,a,o,n⟩=(D1,⟨0,D3⟩)) (hat:¬ at1 l a < l.length) (hl4:l.length < 5) (hDl:D1.length=l.length+1) (hP:zbq l ⟨1,a,o,n⟩=[(1+2 * (l.length:Int),a),(2+2 * (l.length:Int),n),(0,(l.length:Int)+1)]) :
  Calls Tryz.prog 66 #[v,.agg #[I 1,I a,I o,I n]] w fun e w'=>zeU w.heap.size l ⟨1,a,o,n⟩ e w'/\Ext w w':=by
 obtain ⟨hl11,hx0,hx5,hok⟩:=id hx;have hln:l.length=(xs.getD 0 0).toNat:=by rw [<- hL,zaV]
 have hl5:l.length<=5:=by omega
 rw [hL] at hok;have hfind:=fun nm wx (hw:zby wx v xs)=>zc7 v xs nm wx hw hl11 hx0 hx5;have hfa:=zch xs a (xs.getD 0 0).toNat;rw [hL,<- hln] at hfa;have hfo:=zch xs o (xs.getD 0 0).toNat;rw [hL,<- hln] at hfo;rw [<- hln] at hfind;have HL:=zhd hL;have HD:=zhd hD;have HX:=zhd hx;have HOK:=zhd hok;have HCW:=zhd hc;have HV:=zhd hv;clear hL hD hx hok hc hln hl11 hx0 hx5 hv;have e0:Ext w ((w.alloc (.cells #[I 1,I a,I o,I n] 34)).alloc (.cells #[I 0,I 0] 39)):=((Ext.refl w).alloc _).alloc _;go_enter Tryz.func66,Tryz.ntmps66
 go_wp2_with fail
 refine (zde v xs _ (HV.o.ext e0) HX.o.c).mono ?_;rintro e w1 ⟨h1,rfl,e1,hw1⟩
 rw [HL.o] at hw1;obtain ⟨⟨d0,d1,d2,d3⟩,-⟩:=zbh rfl rfl e1;obtain ⟨ao,cap,rfl,hq1,hq2,-⟩:=hw1.form;unfold maxLen at hq2;have HW1:=zhd hw1;clear hw1;go_wp2_with fail
 refine (zeK _ l 1 a o n w1 HW1.o HOK.o HCW.o).mono ?_;rintro e w2 ⟨⟨u,rfl,hu,-⟩,e2⟩
 rw [HD.o] at hu ⊢;simp only [] at hu;obtain ⟨bo,cap2,rfl,hr1,hr2,hcells⟩:=hu.form;unfold maxLen at hr2;have HU:=zhd hu;have HCE:=zhd hcells;clear d0 d1 d2 d3 hu hcells;have m2:Ext w w2:=e0.trans (e1.trans e2)
 have HB:Hid (∀ wx,Ext (w2.alloc (.cells #[I 0,I D3] 39)) wx->((wx.cell? ⟨w.heap.size,0,none⟩=some (I 1)/\wx.cell? ⟨w.heap.size,1,none⟩=some (I a)/\wx.cell? ⟨w.heap.size,2,none⟩=some (I o)/\wx.cell? ⟨w.heap.size,3,none⟩=some (I n))/\wx.heap[w.heap.size+1]?=some (.cells #[I 0,I 0] 39 (0,0)))/\wx.heap[w2.heap.size]?=some (.cells #[I 0,I D3] 39 (0,0))):=fun wx hx =>
  ⟨zbh rfl rfl (e1.trans (e2.trans (((Ext.refl w2).alloc _).trans hx))),zbo hx⟩
 obtain ⟨⟨⟨c0,c1,c2,c3⟩,rb⟩,sb⟩:=HB.o _ (Ext.refl _);obtain ⟨x0,x1,f0,f1⟩:=zaL rb (Ext.refl _);obtain ⟨y0,y1,-,-⟩:=zaL sb (Ext.refl _);have hvv:zby (w2.alloc (.cells #[I 0,I D3] 39)) v xs:=HV.o.ext (m2.alloc _)
 have hsz:w.heap.size+1 < w2.heap.size:=by
  have:=(Array.getElem?_eq_some_iff.1 (zbh rfl rfl (e1.trans e2)).2).1;exact this
 have hfA:=fun wx hw=>hfind a wx hw;rw [hfa,if_neg hat] at hfA;have HP:=zhd hP;rw [hDl] at hr1 ⊢;have hne:((l.length:Int)+1 == (l.length:Int))=false:=by simp; omega
 clear hDl hP hfa hfo hfind HCE hat
 go_wp2_with (first
  | (go_at_call 92; refine Calls.same (hfA _ hvv) ?_)
  | (at_builtin; refine zbG ?_))
 unfold Hid;obtain ⟨i0,hi,hz0,hz1,hz2⟩:=info_parts Tryz.infoWrite2
 have hown:(((w2.alloc (.cells #[I 0,I D3] 39)).alloc (.cells #[I (2 * ((l.length:Int)+1) - 1),I a,I (2 * ((l.length:Int)+1)),I n] 111)).alloc (.cells #[I 0,I ((l.length:Int)+1)] 111)).ownsRow (w2.heap.size+1) 111 2 (.slice (some ⟨w2.heap.size+1,0,none⟩) 2 2) 2 (zaB [(2 * ((l.length:Int)+1) - 1,a),(2 * ((l.length:Int)+1),n)]):=by
  have:=World.ownsRow_lit (base:=w2.heap.size+1) (e:=111) (size:=2) (w2.alloc (.cells #[I 0,I D3] 39)) #[I (2 * ((l.length:Int)+1) - 1),I a,I (2 * ((l.length:Int)+1)),I n] 2 (by simp) (by decide) rfl;have h2:=this.alloc (.cells #[I 0,I ((l.length:Int)+1)] 111);simpa [zaB] using h2
 have hlit:Row (((w2.alloc (.cells #[I 0,I D3] 39)).alloc (.cells #[I (2 * ((l.length:Int)+1) - 1),I a,I (2 * ((l.length:Int)+1)),I n] 111)).alloc (.cells #[I 0,I ((l.length:Int)+1)] 111)) 2 (.slice (some ⟨w2.heap.size+1+1,0,none⟩) 1 1) 1 (zaB [(0,(l.length:Int)+1)]):=by
  have:=zcY (w:=(w2.alloc (.cells #[I 0,I D3] 39)).alloc (.cells #[I (2 * ((l.length:Int)+1) - 1),I a,I (2 * ((l.length:Int)+1)),I n] 111)) 111 [(0,(l.length:Int)+1)] #[I 0,I ((l.length:Int)+1)] 1 rfl rfl (by decide);simpa [zax] using this
 have hbase:w2.heap.size+1<=(((w2.alloc (.cells #[I 0,I D3] 39)).alloc (.cells #[I (2 * ((l.length:Int)+1) - 1),I a,I (2 * ((l.length:Int)+1)),I n] 111)).alloc (.cells #[I 0,I ((l.length:Int)+1)] 111)).heap.size:=by simp
 have exb:=((Ext.refl (w2.alloc (.cells #[I 0,I D3] 39))).alloc (.cells #[I (2 * ((l.length:Int)+1) - 1),I a,I (2 * ((l.length:Int)+1)),I n] 111)).alloc (.cells #[I 0,I ((l.length:Int)+1)] 111);refine zaA _ rfl (.tmp 132) (.tmp 136) 27 rfl (w2.heap.size+1) 111 i0 (.agg #[.int .i64 0,.int .i64 0]) 2 16 zfG hi hz0 hz1 hz2 rfl (by decide) _ 2 (zaB [(2 * ((l.length:Int)+1) - 1,a),(2 * ((l.length:Int)+1),n)]) rfl hown _ rfl 1 _ hlit (zbK _) (by omega) (by decide) hbase ?_;intro v5 w5 ho5 hg5;have ex5:Ext (w2.alloc (.cells #[I 0,I D3] 39)) w5:=Ext.grown exb hg5 (fun j hj=>by have:=(hown.lt j hj).1; simpa using this)
 have hh5:Has (w2.heap.size+1) w5 v5 [(1+2 * (l.length:Int),a),(2+2 * (l.length:Int),n),(0,(l.length:Int)+1)]:=by
  have e:zaB [(2 * ((l.length:Int)+1) - 1,a),(2 * ((l.length:Int)+1),n)]++zaB [(0,(l.length:Int)+1)]=zaB [(1+2 * (l.length:Int),a),(2+2 * (l.length:Int),n),(0,(l.length:Int)+1)]:=by rw [<- zbl]; simp [zaB]; omega
  rw [e] at ho5;exact ⟨_,_,_,ho5,fun w2 h2=>zaC h2⟩
 obtain ⟨-,sb5⟩:=HB.o w5 ex5;obtain ⟨s0,s1,-,-⟩:=zaL sb5 (Ext.refl _);clear ho5 hg5 hown hlit hi hz0 hz1 hz2 c0 c1 c2 c3 x0 x1 f0 f1 y0 y1 rb sb sb5 hbase exb;go_wp2
 refine zan 3 [none,none,none] (by kernel_rfl) (by kernel_rfl) ?_ ?_
 ·exact ⟨trivial,trivial,trivial,trivial⟩
 (refine zap (fun K hK=>?_); go_simp; refine hK _ ?_; clear hK K)
 refine zay (.agg #[I 0,I D3]) rfl (fun w' hw'=>by have q0:=hw'.cell s0; have q1:=hw'.cell s1; go_simp) ?_;(refine zap (fun K hK=>?_); go_simp; refine hK _ ?_; clear hK K)
 refine zaP ?_;intro w4 he4' _;have he4:=ex5.trans he4';have hr:=hh5.ext he4';clear s0 s1;obtain ⟨⟨-,rb4⟩,sb4⟩:=HB.o w4 he4;obtain ⟨x0,x1,f0,f1⟩:=zaL rb4 (Ext.refl _);go_wp2
 obtain ⟨z0,z1,-,-⟩:=zaL (ziR rb4 (I 0) (I D3)) (Ext.refl _);clear x0 x1 f0 f1;refine bodyPost_ret (by simp [results,Tryz.results66,go_sem,z0,z1]; rfl) rfl ?_;exact zeC HD.o hsz ((m2.alloc _).trans he4) (by rw [HP.o]; exact hr)

theorem zkn (v:Value) (xs:List Int) (a o n:Int) (w:World) (hv:zby w v xs) (hx:zfx xs) (hc:wrongCl ⟨3,a,o,n⟩=0) (l:List (Int×Int)) (hL:zaN xs (xs.getD 0 0).toNat=l) (D1:List (Int×Int)) (D3:Int) (hD:doR l ⟨3,a,o,n⟩=(D1,⟨0,D3⟩)) (hat:at1 l a+1=l.length) (hDl:D1.length=l.length - 1) (hP:zbq l ⟨3,a,o,n⟩=[(0,(l.length:Int) - 1)]) :
  Calls Tryz.prog 66 #[v,.agg #[I 3,I a,I o,I n]] w fun e w'=>zeU w.heap.size l ⟨3,a,o,n⟩ e w'/\Ext w w':=by
 obtain ⟨hl11,hx0,hx5,hok⟩:=id hx;have hln:l.length=(xs.getD 0 0).toNat:=by rw [<- hL,zaV]
 have hl5:l.length<=5:=by omega
 rw [hL] at hok;have hfind:=fun nm wx (hw:zby wx v xs)=>zc7 v xs nm wx hw hl11 hx0 hx5;have hfa:=zch xs a (xs.getD 0 0).toNat;rw [hL,<- hln] at hfa;have hfo:=zch xs o (xs.getD 0 0).toNat;rw [hL,<- hln] at hfo;rw [<- hln] at hfind;have HL:=zhd hL;have HD:=zhd hD;have HX:=zhd hx;have HOK:=zhd hok;have HCW:=zhd hc;have HV:=zhd hv;clear hL hD hx hok hc hln hl11 hx0 hx5 hv;have e0:Ext w ((w.alloc (.cells #[I 3,I a,I o,I n] 34)).alloc (.cells #[I 0,I 0] 39)):=((Ext.refl w).alloc _).alloc _;go_enter Tryz.func66,Tryz.ntmps66
 go_wp2_with fail
 refine (zde v xs _ (HV.o.ext e0) HX.o.c).mono ?_;rintro e w1 ⟨h1,rfl,e1,hw1⟩
 rw [HL.o] at hw1;obtain ⟨⟨d0,d1,d2,d3⟩,-⟩:=zbh rfl rfl e1;obtain ⟨ao,cap,rfl,hq1,hq2,-⟩:=hw1.form;unfold maxLen at hq2;have HW1:=zhd hw1;clear hw1;go_wp2_with fail
 refine (zeK _ l 3 a o n w1 HW1.o HOK.o HCW.o).mono ?_;rintro e w2 ⟨⟨u,rfl,hu,-⟩,e2⟩
 rw [HD.o] at hu ⊢;simp only [] at hu;obtain ⟨bo,cap2,rfl,hr1,hr2,hcells⟩:=hu.form;unfold maxLen at hr2;have HU:=zhd hu;have HCE:=zhd hcells;clear d0 d1 d2 d3 hu hcells;have m2:Ext w w2:=e0.trans (e1.trans e2)
 have HB:Hid (∀ wx,Ext (w2.alloc (.cells #[I 0,I D3] 39)) wx->((wx.cell? ⟨w.heap.size,0,none⟩=some (I 3)/\wx.cell? ⟨w.heap.size,1,none⟩=some (I a)/\wx.cell? ⟨w.heap.size,2,none⟩=some (I o)/\wx.cell? ⟨w.heap.size,3,none⟩=some (I n))/\wx.heap[w.heap.size+1]?=some (.cells #[I 0,I 0] 39 (0,0)))/\wx.heap[w2.heap.size]?=some (.cells #[I 0,I D3] 39 (0,0))):=fun wx hx =>
  ⟨zbh rfl rfl (e1.trans (e2.trans (((Ext.refl w2).alloc _).trans hx))),zbo hx⟩
 obtain ⟨⟨⟨c0,c1,c2,c3⟩,rb⟩,sb⟩:=HB.o _ (Ext.refl _);obtain ⟨x0,x1,f0,f1⟩:=zaL rb (Ext.refl _);obtain ⟨y0,y1,-,-⟩:=zaL sb (Ext.refl _);have hvv:zby (w2.alloc (.cells #[I 0,I D3] 39)) v xs:=HV.o.ext (m2.alloc _)
 have hsz:w.heap.size+1 < w2.heap.size:=by
  have:=(Array.getElem?_eq_some_iff.1 (zbh rfl rfl (e1.trans e2)).2).1;exact this
 have hfA:=fun wx hw=>hfind a wx hw;rw [hfa,if_pos (by omega)] at hfA;have HP:=zhd hP;obtain ⟨p,hp⟩:∃ p:Nat,l.length=p+1:=⟨l.length - 1,by omega⟩;have hD1:D1.length=p:=by omega
 have ha1:at1 l a=p:=by omega
 rw [ha1] at hfA;rw [hD1] at hr1 ⊢;have HLP:=zhd hp;rw [hp] at hq1 ⊢;have hpl:¬ (p:Int) < (p:Int):=by omega
 have hne:((p:Int) == (p:Int)+1)=false:=by simp; omega
 have hp5:p<=4:=by omega
 clear hDl hP hfa hfo hfind HCE hat hD1 ha1 hp hl5
 go_wp2_with (first
  | (go_at_call 92; refine Calls.same (hfA _ hvv) ?_)
  | (at_builtin; refine zbG ?_))
 unfold Hid;obtain ⟨i0,hi,hz0,hz1,hz2⟩:=info_parts Tryz.infoWrite2;have hown:((w2.alloc (.cells #[I 0,I D3] 39)).alloc (.cells #[I 0,I p] 111)).ownsRow (w2.heap.size+1) 111 2 (.slice none 0 0) 0 (zaB []):=World.ownsRow_nil _ _ _ _
 have hlit:Row ((w2.alloc (.cells #[I 0,I D3] 39)).alloc (.cells #[I 0,I p] 111)) 2 (.slice (some ⟨w2.heap.size+1,0,none⟩) 1 1) 1 (zaB [(0,(p:Int))]):=by
  have:=zcY (w:=(w2.alloc (.cells #[I 0,I D3] 39))) 111 [(0,(p:Int))] #[I 0,I p] 1 rfl rfl (by decide);simpa [zax] using this
 have hbase:w2.heap.size+1<=((w2.alloc (.cells #[I 0,I D3] 39)).alloc (.cells #[I 0,I p] 111)).heap.size:=by simp
 have exb:=(Ext.refl (w2.alloc (.cells #[I 0,I D3] 39))).alloc (.cells #[I 0,I p] 111);refine zaA _ rfl (.tmp 132) (.tmp 136) 27 rfl (w2.heap.size+1) 111 i0 (.agg #[.int .i64 0,.int .i64 0]) 2 16 zfG hi hz0 hz1 hz2 rfl (by decide) _ 0 (zaB []) rfl hown _ rfl 1 _ hlit (zbK _) (by omega) (by decide) hbase ?_;intro v5 w5 ho5 hg5;have ex5:Ext (w2.alloc (.cells #[I 0,I D3] 39)) w5:=Ext.grown exb hg5 (fun j hj=>by have:=(hown.lt j hj).1; simpa using this)
 have hh5:Has (w2.heap.size+1) w5 v5 [(0,(l.length:Int) - 1)]:=by
  have e:zaB []++zaB [(0,(p:Int))]=zaB [(0,(l.length:Int) - 1)]:=by rw [<- zbl]; rw [HLP.o]; simp [zaB]
  rw [e] at ho5;exact ⟨_,_,_,ho5,fun w2 h2=>zaC h2⟩
 obtain ⟨-,sb5⟩:=HB.o w5 ex5;obtain ⟨s0,s1,-,-⟩:=zaL sb5 (Ext.refl _);clear ho5 hg5 hown hlit hi hz0 hz1 hz2 c0 c1 c2 c3 x0 x1 f0 f1 y0 y1 rb sb sb5 hbase exb;go_wp2
 refine zan 3 [none,none,none] (by kernel_rfl) (by kernel_rfl) ?_ ?_
 ·exact ⟨trivial,trivial,trivial,trivial⟩
 (refine zap (fun K hK=>?_); go_simp; refine hK _ ?_; clear hK K)
 refine zay (.agg #[I 0,I D3]) rfl (fun w' hw'=>by have q0:=hw'.cell s0; have q1:=hw'.cell s1; go_simp) ?_;(refine zap (fun K hK=>?_); go_simp; refine hK _ ?_; clear hK K)
 refine zaP ?_;intro w4 he4' _;have he4:=ex5.trans he4';have hr:=hh5.ext he4';clear s0 s1;obtain ⟨⟨-,rb4⟩,sb4⟩:=HB.o w4 he4;obtain ⟨x0,x1,f0,f1⟩:=zaL rb4 (Ext.refl _);go_wp2
 obtain ⟨z0,z1,-,-⟩:=zaL (ziR rb4 (I 0) (I D3)) (Ext.refl _);clear x0 x1 f0 f1;refine bodyPost_ret (by simp [results,Tryz.results66,go_sem,z0,z1]; rfl) rfl ?_;exact zeC HD.o hsz ((m2.alloc _).trans he4) (by rw [HP.o]; exact hr)

open Go.RowKit Go.Mk

theorem znB (v:Value) (xs:List Int) (a o n:Int) (w:World) (hv:zby w v xs) (hx:zfx xs) (hc:wrongCl ⟨3,a,o,n⟩=0) (l:List (Int×Int)) (hL:zaN xs (xs.getD 0 0).toNat=l) (D1:List (Int×Int)) (D3:Int) (hD:doR l ⟨3,a,o,n⟩=(D1,⟨0,D3⟩)) (hat:at1 l a+1 < l.length) (hDl:D1.length=l.length - 1) (q1 q2:Int) (hq:D1.getD (at1 l a) (0,0)=(q1,q2)) (hP:zbq l ⟨3,a,o,n⟩=[(1+2 * (at1 l a:Int),q1),(2+2 * (at1 l a:Int),q2),(0,(l.length:Int) - 1)]) :
  Calls Tryz.prog 66 #[v,.agg #[I 3,I a,I o,I n]] w fun e w'=>zeU w.heap.size l ⟨3,a,o,n⟩ e w'/\Ext w w':=by
 obtain ⟨hl11,hx0,hx5,hok⟩:=id hx;have hln:l.length=(xs.getD 0 0).toNat:=by rw [<- hL,zaV]
 have hl5:l.length<=5:=by omega
 rw [hL] at hok;have hfind:=fun nm wx (hw:zby wx v xs)=>zc7 v xs nm wx hw hl11 hx0 hx5;have hfa:=zch xs a (xs.getD 0 0).toNat;rw [hL,<- hln] at hfa;have hfo:=zch xs o (xs.getD 0 0).toNat;rw [hL,<- hln] at hfo;rw [<- hln] at hfind;have HL:=zhd hL;have HD:=zhd hD;have HX:=zhd hx;have HOK:=zhd hok;have HCW:=zhd hc;have HV:=zhd hv;clear hL hD hx hok hc hln hl11 hx0 hx5 hv;have e0:Ext w ((w.alloc (.cells #[I 3,I a,I o,I n] 34)).alloc (.cells #[I 0,I 0] 39)):=((Ext.refl w).alloc _).alloc _;go_enter Tryz.func66,Tryz.ntmps66
 go_wp2_with fail
 refine (zde v xs _ (HV.o.ext e0) HX.o.c).mono ?_;rintro e w1 ⟨h1,rfl,e1,hw1⟩
 rw [HL.o] at hw1;obtain ⟨⟨d0,d1,d2,d3⟩,-⟩:=zbh rfl rfl e1;obtain ⟨ao,cap,rfl,hq1,hq2,-⟩:=hw1.form;unfold maxLen at hq2;have HW1:=zhd hw1;clear hw1;go_wp2_with fail
 refine (zeK _ l 3 a o n w1 HW1.o HOK.o HCW.o).mono ?_;rintro e w2 ⟨⟨u,rfl,hu,-⟩,e2⟩
 rw [HD.o] at hu ⊢;simp only [] at hu;obtain ⟨bo,cap2,rfl,hr1,hr2,hcells⟩:=hu.form;unfold maxLen at hr2;have HU:=zhd hu;have HCE:=zhd hcells;clear d0 d1 d2 d3 hu hcells;have m2:Ext w w2:=e0.trans (e1.trans e2)
 have HB:Hid (∀ wx,Ext (w2.alloc (.cells #[I 0,I D3] 39)) wx->((wx.cell? ⟨w.heap.size,0,none⟩=some (I 3)/\wx.cell? ⟨w.heap.size,1,none⟩=some (I a)/\wx.cell? ⟨w.heap.size,2,none⟩=some (I o)/\wx.cell? ⟨w.heap.size,3,none⟩=some (I n))/\wx.heap[w.heap.size+1]?=some (.cells #[I 0,I 0] 39 (0,0)))/\wx.heap[w2.heap.size]?=some (.cells #[I 0,I D3] 39 (0,0))):=fun wx hx =>
  ⟨zbh rfl rfl (e1.trans (e2.trans (((Ext.refl w2).alloc _).trans hx))),zbo hx⟩
 obtain ⟨⟨⟨c0,c1,c2,c3⟩,rb⟩,sb⟩:=HB.o _ (Ext.refl _);obtain ⟨x0,x1,f0,f1⟩:=zaL rb (Ext.refl _);obtain ⟨y0,y1,-,-⟩:=zaL sb (Ext.refl _);have hvv:zby (w2.alloc (.cells #[I 0,I D3] 39)) v xs:=HV.o.ext (m2.alloc _)
 have hsz:w.heap.size+1 < w2.heap.size:=by
  have:=(Array.getElem?_eq_some_iff.1 (zbh rfl rfl (e1.trans e2)).2).1;exact this
 have hfA:=fun wx hw=>hfind a wx hw;rw [hfa,if_pos (by omega)] at hfA;have HP:=zhd hP;obtain ⟨p,hp⟩:∃ p:Nat,l.length=p+1:=⟨l.length - 1,by omega⟩;have hD1:D1.length=p:=by omega
 obtain ⟨b,off,rfl,ce1,ce2⟩:=HCE.o (at1 l a) (by omega);rw [hq] at ce1 ce2;simp only [] at ce1 ce2;have de1:=((Ext.refl w2).alloc (.cells #[I 0,I D3] 39)).cell ce1;have de2:=((Ext.refl w2).alloc (.cells #[I 0,I D3] 39)).cell ce2;rw [hD1] at hr1 ⊢;have HLP:=zhd hp;rw [hp] at hq1 ⊢;have hap:at1 l a < p:=by omega
 have hp5:p<=4:=by omega
 generalize at1 l a=i at *;have hpl:(i:Int) < (p:Int):=by omega
 have hi0:(0:Int)<=(i:Int):=by omega
 have hne:((p:Int) == (p:Int)+1)=false:=by simp; omega
 have hw1:IntKind.i64.wrap (2 * (i:Int))=2 * i:=by rw [IntKind.wrap_i64]; omega
 have hw2:IntKind.i64.wrap (2+2 * (i:Int))=2+2 * i:=by rw [IntKind.wrap_i64]; omega
 have hw3:IntKind.i64.wrap (1+2 * (i:Int))=1+2 * i:=by rw [IntKind.wrap_i64]; omega
 clear hDl hP hfa hfo hfind HCE hat hD1 hp hl5 hq ce1 ce2;go_wp2_with (go_at_call 92; refine Calls.same (hfA _ hvv) ?_)
 refine zbe [none,none,none,none,none,none,none,none,none,none,none,none,none,none,none,none,none,none,some (.inr fun v wx=>wx.ownsRow (w2.heap.size+1) 111 2 v 2 (zaB [(1+2 * (i:Int),q1),(2+2 * (i:Int),q2)])),none] (by kernel_rfl) (by kernel_rfl) ?_ ?_
 ·exact ⟨trivial,trivial,trivial,trivial,trivial,trivial,trivial,trivial,trivial,trivial,trivial,trivial,trivial,trivial,trivial,trivial,trivial,trivial,zct _ _ _ _ _,trivial,trivial⟩
 iterate 7 (refine zap (fun K hK=>?_); go_simp; refine hK _ ?_; clear hK K)
 refine zay (I q1) rfl (fun w' hw'=>by have q0:=hw'.cell de1; go_simp) ?_;iterate 8 (refine zap (fun K hK=>?_); go_simp; refine hK _ ?_; clear hK K)
 refine zay (I q2) rfl (fun w' hw'=>by have q0:=hw'.cell de2; go_simp) ?_;(refine zap (fun K hK=>?_); go_simp; refine hK _ ?_; clear hK K)
 refine zbb _ rfl (fun w' hw' _=>?_) (fun v84=>?_)
 ·unfold zaQ;go_simp
  refine ⟨(Ext.refl _).alloc _,?_⟩;have:=World.ownsRow_lit (base:=w2.heap.size+1) (e:=111) (size:=2) w' #[I (1+2 * (i:Int)),I q1,I (2+2 * (i:Int)),I q2] 2 (by have:=hw'.size; simpa using this) (by decide) rfl;simpa [zaB] using this
 (refine zap (fun K hK=>?_); go_simp; refine hK _ ?_; clear hK K)
 refine zaP ?_;intro w6 he6 hF;have ho6:w6.ownsRow (w2.heap.size+1) 111 2 v84 2 (zaB [(1+2 * (i:Int),q1),(2+2 * (i:Int),q2)]):=hF 84;clear hF de1 de2 hw1 hw2 hw3;go_wp2_with (at_builtin; refine zbG ?_)
 unfold Hid;obtain ⟨i0,hi,hz0,hz1,hz2⟩:=info_parts Tryz.infoWrite2;have hown:=ho6.alloc (.cells #[I 0,I p] 111)
 have hlit:Row (w6.alloc (.cells #[I 0,I p] 111)) 2 (.slice (some ⟨w6.heap.size,0,none⟩) 1 1) 1 (zaB [(0,(p:Int))]):=by
  have:=zcY (w:=w6) 111 [(0,(p:Int))] #[I 0,I p] 1 rfl rfl (by decide);simpa [zax] using this
 have hbase:w2.heap.size+1<=(w6.alloc (.cells #[I 0,I p] 111)).heap.size:=by have:=he6.size; simp at this ⊢; omega
 have exb:=he6.alloc (.cells #[I 0,I p] 111);refine zaA _ rfl (.tmp 132) (.tmp 136) 27 rfl (w2.heap.size+1) 111 i0 (.agg #[.int .i64 0,.int .i64 0]) 2 16 zfG hi hz0 hz1 hz2 rfl (by decide) _ 2 (zaB [(1+2 * (i:Int),q1),(2+2 * (i:Int),q2)]) rfl hown _ rfl 1 _ hlit (zbK _) (by omega) (by decide) hbase ?_;intro v5 w5 ho5 hg5;have ex5:Ext (w2.alloc (.cells #[I 0,I D3] 39)) w5:=Ext.grown exb hg5 (fun j hj=>by have:=(hown.lt j hj).1; simpa using this)
 have hh5:Has (w2.heap.size+1) w5 v5 [(1+2 * (i:Int),q1),(2+2 * (i:Int),q2),(0,(l.length:Int) - 1)]:=by
  have e:zaB [(1+2 * (i:Int),q1),(2+2 * (i:Int),q2)]++zaB [(0,(p:Int))]=zaB [(1+2 * (i:Int),q1),(2+2 * (i:Int),q2),(0,(l.length:Int) - 1)]:=by rw [<- zbl]; rw [HLP.o]; simp [zaB]
  rw [e] at ho5;exact ⟨_,_,_,ho5,fun w2 h2=>zaC h2⟩
 obtain ⟨-,sb5⟩:=HB.o w5 ex5;obtain ⟨s0,s1,-,-⟩:=zaL sb5 (Ext.refl _);clear ho5 hg5 hown hlit hi hz0 hz1 hz2 c0 c1 c2 c3 x0 x1 f0 f1 y0 y1 rb sb sb5 hbase exb;go_wp2
 refine zan 3 [none,none,none] (by kernel_rfl) (by kernel_rfl) ?_ ?_
 ·exact ⟨trivial,trivial,trivial,trivial⟩
 (refine zap (fun K hK=>?_); go_simp; refine hK _ ?_; clear hK K)
 refine zay (.agg #[I 0,I D3]) rfl (fun w' hw'=>by have q0:=hw'.cell s0; have q1:=hw'.cell s1; go_simp) ?_;(refine zap (fun K hK=>?_); go_simp; refine hK _ ?_; clear hK K)
 refine zaP ?_;intro w4 he4' _;have he4:=ex5.trans he4';have hr:=hh5.ext he4';clear s0 s1;obtain ⟨⟨-,rb4⟩,sb4⟩:=HB.o w4 he4;obtain ⟨x0,x1,f0,f1⟩:=zaL rb4 (Ext.refl _);go_wp2
 obtain ⟨z0,z1,-,-⟩:=zaL (ziR rb4 (I 0) (I D3)) (Ext.refl _);clear x0 x1 f0 f1;refine bodyPost_ret (by simp [results,Tryz.results66,go_sem,z0,z1]; rfl) rfl ?_;exact zeC HD.o hsz ((m2.alloc _).trans he4) (by rw [HP.o]; exact hr)

theorem zn9 (v:Value) (xs:List Int) (a o n:Int) (w:World) (hv:zby w v xs) (hx:zfx xs) (hc:wrongCl ⟨6,a,o,n⟩=0) (l:List (Int×Int)) (hL:zaN xs (xs.getD 0 0).toNat=l) (D1:List (Int×Int)) (D3:Int) (hD:doR l ⟨6,a,o,n⟩=(D1,⟨0,D3⟩)) (hat:at1 l a < l.length) (hot:at1 l o < l.length) (hDl:D1.length=l.length) (m1 m2':Int) (hm1:(D1.getD (at1 l a) (0,0)).2=m1) (hm2:(D1.getD (at1 l o) (0,0)).2=m2') (hP:zbq l ⟨6,a,o,n⟩=[(2+2 * (at1 l a:Int),m1),(2+2 * (at1 l o:Int),m2')]) :
  Calls Tryz.prog 66 #[v,.agg #[I 6,I a,I o,I n]] w fun e w'=>zeU w.heap.size l ⟨6,a,o,n⟩ e w'/\Ext w w':=by
 obtain ⟨hl11,hx0,hx5,hok⟩:=id hx;have hln:l.length=(xs.getD 0 0).toNat:=by rw [<- hL,zaV]
 have hl5:l.length<=5:=by omega
 rw [hL] at hok;have hfind:=fun nm wx (hw:zby wx v xs)=>zc7 v xs nm wx hw hl11 hx0 hx5;have hfa:=zch xs a (xs.getD 0 0).toNat;rw [hL,<- hln] at hfa;have hfo:=zch xs o (xs.getD 0 0).toNat;rw [hL,<- hln] at hfo;rw [<- hln] at hfind;have HL:=zhd hL;have HD:=zhd hD;have HX:=zhd hx;have HOK:=zhd hok;have HCW:=zhd hc;have HV:=zhd hv;clear hL hD hx hok hc hln hl11 hx0 hx5 hv;have e0:Ext w ((w.alloc (.cells #[I 6,I a,I o,I n] 34)).alloc (.cells #[I 0,I 0] 39)):=((Ext.refl w).alloc _).alloc _;go_enter Tryz.func66,Tryz.ntmps66
 go_wp2_with fail
 refine (zde v xs _ (HV.o.ext e0) HX.o.c).mono ?_;rintro e w1 ⟨h1,rfl,e1,hw1⟩
 rw [HL.o] at hw1;obtain ⟨⟨d0,d1,d2,d3⟩,-⟩:=zbh rfl rfl e1;obtain ⟨ao,cap,rfl,hq1,hq2,-⟩:=hw1.form;unfold maxLen at hq2;have HW1:=zhd hw1;clear hw1;go_wp2_with fail
 refine (zeK _ l 6 a o n w1 HW1.o HOK.o HCW.o).mono ?_;rintro e w2 ⟨⟨u,rfl,hu,-⟩,e2⟩
 rw [HD.o] at hu ⊢;simp only [] at hu;obtain ⟨bo,cap2,rfl,hr1,hr2,hcells⟩:=hu.form;unfold maxLen at hr2;have HU:=zhd hu;have HCE:=zhd hcells;clear d0 d1 d2 d3 hu hcells;have m2:Ext w w2:=e0.trans (e1.trans e2)
 have HB:Hid (∀ wx,Ext (w2.alloc (.cells #[I 0,I D3] 39)) wx->((wx.cell? ⟨w.heap.size,0,none⟩=some (I 6)/\wx.cell? ⟨w.heap.size,1,none⟩=some (I a)/\wx.cell? ⟨w.heap.size,2,none⟩=some (I o)/\wx.cell? ⟨w.heap.size,3,none⟩=some (I n))/\wx.heap[w.heap.size+1]?=some (.cells #[I 0,I 0] 39 (0,0)))/\wx.heap[w2.heap.size]?=some (.cells #[I 0,I D3] 39 (0,0))):=fun wx hx =>
  ⟨zbh rfl rfl (e1.trans (e2.trans (((Ext.refl w2).alloc _).trans hx))),zbo hx⟩
 obtain ⟨⟨⟨c0,c1,c2,c3⟩,rb⟩,sb⟩:=HB.o _ (Ext.refl _);obtain ⟨x0,x1,f0,f1⟩:=zaL rb (Ext.refl _);obtain ⟨y0,y1,-,-⟩:=zaL sb (Ext.refl _);have hvv:zby (w2.alloc (.cells #[I 0,I D3] 39)) v xs:=HV.o.ext (m2.alloc _)
 have hsz:w.heap.size+1 < w2.heap.size:=by
  have:=(Array.getElem?_eq_some_iff.1 (zbh rfl rfl (e1.trans e2)).2).1;exact this
 have hfA:=fun wx hw=>hfind a wx hw;rw [hfa,if_pos hat] at hfA;have hfO:=fun wx hw=>hfind o wx hw;rw [hfo,if_pos hot] at hfO;have HP:=zhd hP;obtain ⟨b,off,rfl,-,ce1⟩:=HCE.o (at1 l a) (by omega);obtain ⟨b',off',ee,-,ce2⟩:=HCE.o (at1 l o) (by omega);simp only [Option.some.injEq,Addr.mk.injEq,and_true] at ee;obtain ⟨rfl,rfl⟩:=ee;rw [hm1] at ce1;rw [hm2] at ce2;have de1:=((Ext.refl w2).alloc (.cells #[I 0,I D3] 39)).cell ce1;have de2:=((Ext.refl w2).alloc (.cells #[I 0,I D3] 39)).cell ce2;rw [hDl];generalize at1 l a=i at *;generalize at1 l o=j at *;have hi1:(i:Int) < (l.length:Int):=by omega
 have hj1:(j:Int) < (l.length:Int):=by omega
 have hi0:(0:Int)<=(i:Int):=by omega
 have hj0:(0:Int)<=(j:Int):=by omega
 have hv1:IntKind.i64.wrap (2 * (j:Int))=2 * j:=by rw [IntKind.wrap_i64]; omega
 have hv2:IntKind.i64.wrap (2+2 * (j:Int))=2+2 * j:=by rw [IntKind.wrap_i64]; omega
 have hw1:IntKind.i64.wrap (2 * (i:Int))=2 * i:=by rw [IntKind.wrap_i64]; omega
 have hw2:IntKind.i64.wrap (2+2 * (i:Int))=2+2 * i:=by rw [IntKind.wrap_i64]; omega
 have hw3:IntKind.i64.wrap (1+2 * (i:Int))=1+2 * i:=by rw [IntKind.wrap_i64]; omega
 clear hDl hP hm1 hm2 hfa hfo hfind HCE ce1 ce2
 go_wp2_with (go_at_call 92; first
  | (have q2:=hdone; clear q2; refine Calls.same (hfO _ hvv) ?_)
  | (have hdone:True:=trivial; refine Calls.same (hfA _ hvv) ?_))
 refine zan 21 [none,none,none,none,none,none,none,none,none,none,none,none,none,none,none,none,none,none,some (.inr fun v wx=>Has (w2.heap.size+1) wx v [(2+2 * (i:Int),m1),(2+2 * (j:Int),m2')]),none,none] (by kernel_rfl) (by kernel_rfl) ?_ ?_
 ·exact ⟨trivial,trivial,trivial,trivial,trivial,trivial,trivial,trivial,trivial,trivial,trivial,trivial,trivial,trivial,trivial,trivial,trivial,trivial,zf6 _ _,trivial,trivial,trivial⟩
 iterate 7 (refine zap (fun K hK=>?_); go_simp; refine hK _ ?_; clear hK K)
 refine zay (I m1) rfl (fun w' hw'=>by have q0:=hw'.cell de1; go_simp) ?_;iterate 8 (refine zap (fun K hK=>?_); go_simp; refine hK _ ?_; clear hK K)
 refine zay (I m2') rfl (fun w' hw'=>by have q0:=hw'.cell de2; go_simp) ?_;(refine zap (fun K hK=>?_); go_simp; refine hK _ ?_; clear hK K)
 refine zbb _ rfl (fun w' hw' _=>?_) (fun v54=>?_)
 ·unfold zaQ;go_simp
  exact ⟨(Ext.refl _).alloc _,zms [(2+2 * (i:Int),m1),(2+2 * (j:Int),m2')] _ 2 rfl rfl (by decide) _ (by have:=hw'.size; simpa using this)⟩
 refine zay (.agg #[I 0,I D3]) rfl (fun w' hw'=>by have q0:=hw'.cell y0; have q1:=hw'.cell y1; go_simp) ?_;(refine zap (fun K hK=>?_); go_simp; refine hK _ ?_; clear hK K)
 refine zaP ?_;intro w4 he4 hF;have hr:Has (w2.heap.size+1) w4 v54 [(2+2 * (i:Int),m1),(2+2 * (j:Int),m2')]:=hF 54;clear c0 c1 c2 c3 x0 x1 f0 f1 y0 y1 rb sb hF de1 de2 hw1 hw2 hw3 hv1 hv2;obtain ⟨⟨-,rb4⟩,sb4⟩:=HB.o w4 he4;obtain ⟨x0,x1,f0,f1⟩:=zaL rb4 (Ext.refl _);go_wp2
 obtain ⟨z0,z1,-,-⟩:=zaL (ziR rb4 (I 0) (I D3)) (Ext.refl _);clear x0 x1 f0 f1;refine bodyPost_ret (by simp [results,Tryz.results66,go_sem,z0,z1]; rfl) rfl ?_;exact zeC HD.o hsz ((m2.alloc _).trans he4) (by rw [HP.o]; exact hr)

end Go.Proofs.YtdmipnnfoolelafGreat

/- Texts of the proof, merged: D4 D5 D5b D5c. -/
import Derived.Test.YtdmipnnfoolelagGreatKTA
import Derived.Test.YtdmipnnfoolelagGreatKTH
import Derived.Test.YtdmipnnfoolelagGreatKTO
import Derived.Test.YtdmipnnfoolelagGreatKTC
import Derived.Lib.Hide
set_option maxHeartbeats 4000000
set_option maxRecDepth 100000

namespace Go.Proofs.YtdmipnnfoolelagGreat
open Go.RowKit Go.Mk

theorem zlQ {xs:List Int} (h:zdk xs=0):xs.length=11/\0<=xs.getD 0 0/\xs.getD 0 0<=5:=by
 have hl:=zoK h
 unfold zdk at h
 rw [if_neg (by simp [hl])] at h
 by_cases h0:0<=xs.getD 0 0/\xs.getD 0 0<=5
 ·exact ⟨hl,h0⟩
 ·rw [if_pos h0] at h; cases h

theorem zmN (v:Value) (xs:List Int) (w:World) (hv:zbE w v xs) (hw:xs.length=11/\0<=xs.getD 0 0/\xs.getD 0 0<=5) :
  Calls Tryz.prog 11 #[v] w fun e w'=>∃ r,e=.returned r/\Ext w w'/\Has w.heap.size w' r (zaK xs (xs.getD 0 0).toNat):=by
 obtain ⟨hl,x0,x5⟩:=id hw;obtain ⟨i0,hi,hz0,hz1,hz2⟩:=info_parts Tryz.infoWrite2
 have H3:Hid (∀ k,k < 11->∃ ao cap,v=.slice ao 11 cap/\11<=cap/\cap<=maxLen/\∃ b off,ao=some ⟨b,off,none⟩/\w.cell? ⟨b,off+k,none⟩=some (I (xs.getD k 0))):=fun k hk=>by
  obtain ⟨ao,cap,h1,h2,h3,h4⟩:=hv.form;rw [hl] at h1 h2 h4;exact ⟨ao,cap,h1,h2,h3,h4 k hk⟩
 obtain ⟨ao,cap,rfl,hcap,hm,b,off,rfl,hc0⟩:=H3.o 0 (by omega)
 have HC:Hid (∀ k,k < 11->w.cell? ⟨b,off+k,none⟩=some (I (xs.getD k 0))):=fun k hk=>by
  obtain ⟨ao,cap',h1,_,_,b',off',h2,h3⟩:=H3.o k hk;rw [h2] at h1;simp only [Value.slice.injEq,Option.some.injEq,Addr.mk.injEq,and_true] at h1;obtain ⟨⟨rfl,rfl⟩,_,rfl⟩:=h1;exact h3
 clear H3;unfold maxLen at hm;simp only [Nat.add_zero] at hc0;generalize hX:xs.getD 0 0=x at *;clear hX hw hl hv;have HC0:Hid (w.cell? ⟨b,off,none⟩=some (I x)):=hc0;clear hc0;go_enter Tryz.func11,Tryz.ntmps11
 go_wp2_with fail
 go_loopw [3,4] (fun o i wr=>∃ k:Nat,(k:Int)<=x/\i=I (1+2 * k)/\wr.ownsRow w.heap.size 73 2 o k (zaz (zaK xs k))/\Ext w wr) (fun _ i _=>20 - (intOf i).toNat)
 case atStart=>exact ⟨0,by omega,rfl,World.ownsRow_nil _ _ _ _,Ext.refl w⟩
 case round =>
  obtain ⟨k,hk,rfl,ho,he⟩:=hrel;have c0:=he.cell HC0.o;by_cases hlt:(k:Int) < x
  ·have c1:=he.cell (HC.o (1+2 * k) (by omega));have c2:=he.cell (HC.o (1+2 * k+1) (by omega));have HS:Hid (zaK xs (k+1)=zaK xs k++[(xs.getD (1+2 * k) 0,xs.getD (1+2 * k+1) 0)]):=zhE xs k;generalize xs.getD (1+2 * k) 0=p at *;generalize xs.getD (1+2 * k+1) 0=q at *;have a1:(0:Int)<=1+2 * (k:Int):=by omega
   have a2:1+2 * (k:Int) < 11:=by omega
   have a3:(1+2 * (k:Int)).toNat=1+2 * k:=by omega
   have a4:(0:Int)<=1+2 * (k:Int)+1:=by omega
   have a5:1+2 * (k:Int)+1 < 11:=by omega
   have a6:(1+2 * (k:Int)+1).toNat=1+2 * k+1:=by omega
   have hwr:IntKind.i64.wrap (1+2 * (k:Int)+1)=1+2 * (k:Int)+1:=by rw [IntKind.wrap_i64]; omega
   go_wp2_with fail
   refine zam 12 [none,none,none,none,none,none,none,none,none,none,none,some (.inr fun v w=>zaw w v [(p,q)])] (by kernel_rfl) (by kernel_rfl) ?_ ?_
   ·exact ⟨trivial,trivial,trivial,trivial,trivial,trivial,trivial,trivial,trivial,trivial,trivial,zeU _,trivial⟩
   iterate 4 (refine zar (fun K hK=>?_); go_simp; refine hK _ ?_; clear hK K)
   refine zaE (I p) rfl (fun w' hw'=>by have:=hw'.cell c1; go_simp) ?_;iterate 4 (refine zar (fun K hK=>?_); go_simp; refine hK _ ?_; clear hK K)
   refine zaE (I q) rfl (fun w' hw'=>by have:=hw'.cell c2; go_simp) ?_;(refine zar (fun K hK=>?_); go_simp; refine hK _ ?_; clear hK K)
   refine za8 _ rfl (fun w' hw' _=>?_) (fun v25=>?_)
   ·unfold zaT;go_simp
    exact ⟨(Ext.refl _).alloc _,zcN _ _ _ 1 rfl rfl (by decide)⟩
   refine za0 ?_;intro w2 he2 hF;have h25:zaw w2 v25 [(p,q)]:=hF 25;clear hF c1 c2 c0;refine zay _ rfl (.tmp 14) (.tmp 25) 28 rfl w.heap.size 73 i0 _ 2 16 zfz hi hz0 hz1 hz2 rfl (by decide) u3 k (zaz (zaK xs k)) rfl ?_ v25 rfl 1 _ h25 (zbD _) (by omega) (by decide) ?_ ?_
   ·exact zak ho he2
   ·exact Nat.le_trans he.size he2.size
   intro o' w3 ho3 hg3;have he4:Ext w w3:=(he.trans he2).grown hg3 (fun j hj=>(ho.lt j hj).1);clear hg3 he2 h25;go_wp2
   go_roundw
   case rel =>
    refine ⟨k+1,by omega,by go_num,?_,he4⟩;rw [HS.o,zbf];exact ho3
   case measure=>simp [intOf]; omega
  ·go_wp2
   go_ret
   refine ⟨_,rfl,he,?_⟩;rw [show x.toNat=k by omega];exact ⟨_,_,_,ho,fun _ h=>zaA h⟩

theorem zcM (v:Value) (xs:List Int) (w:World) (hv:zbE w v xs) (hw:xs.length=11/\0<=xs.getD 0 0/\xs.getD 0 0<=5) :
  Calls Tryz.prog 11 #[v] w fun e w'=>∃ r,e=.returned r/\Ext w w'/\zaw w' r (zaK xs (xs.getD 0 0).toNat) :=
 (zmN v xs w hv hw).mono fun _ _ ⟨r,h1,h2,h3⟩=>⟨r,h1,h2,h3.writes⟩
theorem zou (v:Value) (xs:List Int) (w:World) (hv:zbE w v xs) (hw:zdk xs=0) :
  Calls Tryz.prog 11 #[v] w fun e w'=>∃ r,e=.returned r/\Ext w w'/\zaw w' r (zaK xs (xs.getD 0 0).toNat):=zcM v xs w hv (zlQ hw)

open Go.RowKit Go.Mk

def zeN (base:Nat) (l:List (Int×Int)) (c:Cl) (e:Ending) (w:World):Prop:=∃ u,e=.returned (.tuple #[u,(zbk l c).2.val])/\Has base w u (zbn l c)

theorem zog (v:Value) (xs:List Int) (k a o n:Int) (w:World) (hv:zbE w v xs) (hx:zfd xs) (hc:wrongCl ⟨k,a,o,n⟩=0) (he:(zbk (zaK xs (xs.getD 0 0).toNat) ⟨k,a,o,n⟩).2.err≠0) :
  Calls Tryz.prog 52 #[v,.agg #[I k,I a,I o,I n]] w fun e w'=>zeN w.heap.size (zaK xs (xs.getD 0 0).toNat) ⟨k,a,o,n⟩ e w'/\Ext w w':=by
 obtain ⟨_,_,_,hok⟩:=id hx;have hP:zbn (zaK xs (xs.getD 0 0).toNat) ⟨k,a,o,n⟩=[]:=if_pos he;generalize hL:zaK xs (xs.getD 0 0).toNat=l at *;have HL:Hid (zaK xs (xs.getD 0 0).toNat=l):=hL;have HP:Hid (zbn l ⟨k,a,o,n⟩=[]):=hP;rw [<- zls] at he;clear hP hL
 have HC:Hid (∀ wx,Ext ((w.alloc (.cells #[I k,I a,I o,I n] 35)).alloc (.cells #[I 0,I 0] 40)) wx->(wx.cell? ⟨w.heap.size,0,none⟩=some (I k)/\wx.cell? ⟨w.heap.size,1,none⟩=some (I a)/\wx.cell? ⟨w.heap.size,2,none⟩=some (I o)/\wx.cell? ⟨w.heap.size,3,none⟩=some (I n)) /\
   wx.heap[w.heap.size+1]?=some (.cells #[I 0,I 0] 40)):=fun wx hx=>by
  have p0:((w.alloc (.cells #[I k,I a,I o,I n] 35)).alloc (.cells #[I 0,I 0] 40)).heap[w.heap.size]?=some (.cells #[I k,I a,I o,I n] 35):=by
   rw [heap_alloc_old _ _ (by simp)]; exact heap_alloc_new _ _
  have p1:((w.alloc (.cells #[I k,I a,I o,I n] 35)).alloc (.cells #[I 0,I 0] 40)).heap[w.heap.size+1]?=some (.cells #[I 0,I 0] 40):=by
   have:=heap_alloc_new (w.alloc (.cells #[I k,I a,I o,I n] 35)) (.cells #[I 0,I 0] 40)
   simpa using this
  refine ⟨⟨hx.cell (zaS p0 rfl),hx.cell (zaS p0 rfl),hx.cell (zaS p0 rfl),hx.cell (zaS p0 rfl)⟩,?_⟩
  rw [hx.block _ (by simp)]
  exact p1
 have e0:Ext w ((w.alloc (.cells #[I k,I a,I o,I n] 35)).alloc (.cells #[I 0,I 0] 40)):=((Ext.refl w).alloc _).alloc _;go_enter Tryz.func52,Tryz.ntmps52
 go_wp2_with fail
 refine (zcM v xs _ (hv.ext e0) hx.c).mono ?_;rintro e w1 ⟨h1,rfl,e1,hw1⟩
 rw [HL.o] at hw1;obtain ⟨⟨d0,d1,d2,d3⟩,_⟩:=HC.o w1 e1;go_wp2_with fail
 refine (zen h1 l k a o n w1 hw1 hok hc).mono ?_;rintro e w2 ⟨⟨u,rfl,_,_⟩,e2⟩
 clear d0 d1 d2 d3;generalize hD:doR l ⟨k,a,o,n⟩=D at *;have HD:Hid (doR l ⟨k,a,o,n⟩=D):=hD;clear hD;obtain ⟨D1,D2,D3⟩:=D;simp only [] at he;have hb:(D2 != 0)=true:=by simpa using he
 clear he;obtain ⟨_,hbx⟩:=HC.o (w2.alloc (.cells #[I D2,I D3] 40)) (e1.trans (e2.trans ((Ext.refl w2).alloc _)));have m3:=e0.trans (e1.trans (e2.trans ((Ext.refl w2).alloc (.cells #[I D2,I D3] 40))));obtain ⟨x0,x1,f0,f1⟩:=zaI hbx (Ext.refl _);obtain ⟨_,hbx2⟩:=HC.o w2 (e1.trans e2);obtain ⟨y0,y1,g0,g1⟩:=zaI hbx2 (Ext.refl _);have hbs:w.heap.size+1 < w2.heap.size:=(Array.getElem?_eq_some_iff.1 hbx2).1;go_wp2_with fail
 go_region
 have hm:Ext w w2:=e0.trans (e1.trans e2);have hend:Ext w (((w2.setCell ⟨w.heap.size+1,0,none⟩ (I D2)).setCell ⟨w.heap.size+1,1,none⟩ (I D3)).alloc (.cells #[I D2,I D3] 40)).drew:=(((hm.setCell (by simp only []; omega) _).setCell (by simp only []; omega) _).alloc _).drew;go_wp2
 try simp only [Exit.inBlock,Exit.then]
 refine bodyPost_ret (by simp [results,Tryz.results52,go_sem,y0,y1,hbs]; rfl) rfl ?_;refine ⟨⟨.slice none 0 0,?_,?_⟩,hend⟩
 ·rw [<- zls,HD.o]
 ·rw [HP.o]; exact Has.nil _ _

open Go.RowKit Go.Mk

theorem zbd {w:World} {o1 o2:Obj} {wx:World} {v0 v1 v2 v3:Value} (h1:o1=.cells #[v0,v1,v2,v3] 35 (0,0)) (h2:o2=.cells #[I 0,I 0] 40 (0,0)) (hx:Ext ((w.alloc o1).alloc o2) wx) :
  (wx.cell? ⟨w.heap.size,0,none⟩=some v0/\wx.cell? ⟨w.heap.size,1,none⟩=some v1/\wx.cell? ⟨w.heap.size,2,none⟩=some v2/\wx.cell? ⟨w.heap.size,3,none⟩=some v3)/\wx.heap[w.heap.size+1]?=some (.cells #[I 0,I 0] 40 (0,0)):=by
 subst h1 h2
 have p0:((w.alloc (.cells #[v0,v1,v2,v3] 35 (0,0))).alloc (.cells #[I 0,I 0] 40 (0,0))).heap[w.heap.size]?=some (.cells #[v0,v1,v2,v3] 35 (0,0)):=by
  rw [heap_alloc_old _ _ (by simp)]; exact heap_alloc_new _ _
 have p1:((w.alloc (.cells #[v0,v1,v2,v3] 35 (0,0))).alloc (.cells #[I 0,I 0] 40 (0,0))).heap[w.heap.size+1]?=some (.cells #[I 0,I 0] 40 (0,0)):=by
  have:=heap_alloc_new (w.alloc (.cells #[v0,v1,v2,v3] 35 (0,0))) (.cells #[I 0,I 0] 40 (0,0))
  simpa using this
 refine ⟨⟨hx.cell (zaS p0 rfl),hx.cell (zaS p0 rfl),hx.cell (zaS p0 rfl),hx.cell (zaS p0 rfl)⟩,?_⟩
 rw [hx.block _ (by simp)]
 exact p1

theorem zij {w:World} {b:Nat} {t:TypeId} {p q:Value} (h:w.heap[b]?=some (.cells #[p,q] t (0,0))) (u v:Value):((w.setCell ⟨b,0,none⟩ u).setCell ⟨b,1,none⟩ v).heap[b]?=some (.cells #[u,v] t (0,0)):=by
 have h1:=heap_setCell_same _ _ 0 _ _ u h
 have h2:=heap_setCell_same _ _ 1 _ _ v h1
 simpa using h2

theorem zkV {w:World} (l:List (Int×Int)) (cs:Array Value) (n:Nat) (hc:cs.toList=zaz l) (hn:l.length=n) (hm:n<=maxLen) (b:Nat) (hb:b<=w.heap.size):Has b (w.alloc (.cells cs 73)) (.slice (some ⟨w.heap.size,0,none⟩) n n) l:=by
 subst hn
 have:=World.ownsRow_lit (base:=b) (e:=73) (size:=2) w cs l.length hb hm (by rw [<- Array.length_toList,hc,zcp])
 rw [hc] at this
 exact ⟨_,_,l,this,fun w2 h2=>zaA h2⟩

theorem zes {w w2 w4:World} {l:List (Int×Int)} {c:Cl} {D1:List (Int×Int)} {D3:Int} {u:Value} (hD:doR l c=(D1,⟨0,D3⟩)) (hsz:w.heap.size+1 < w2.heap.size) (m4:Ext w w4) (hu:Has (w2.heap.size+1) w4 u (zbn l c)) :
  zeN w.heap.size l c (.returned (.tuple #[u,.agg #[I 0,I D3]])) ((w4.setCell ⟨w.heap.size+1,0,none⟩ (I 0)).setCell ⟨w.heap.size+1,1,none⟩ (I D3))/\Ext w ((w4.setCell ⟨w.heap.size+1,0,none⟩ (I 0)).setCell ⟨w.heap.size+1,1,none⟩ (I D3)):=by
 refine ⟨⟨u,by rw [<- zls,hD],?_⟩,(m4.setCell (by simp only []; omega) _).setCell (by simp only []; omega) _⟩
 exact ((hu.set (by omega) 0 (I 0)).set (by omega) 1 (I D3)).low (by omega)

theorem zon (v:Value) (xs:List Int) (a o n:Int) (w:World) (hv:zbE w v xs) (hx:zfd xs) (hc:wrongCl ⟨2,a,o,n⟩=0) (l:List (Int×Int)) (hL:zaK xs (xs.getD 0 0).toNat=l) (D1:List (Int×Int)) (D3:Int) (hD:doR l ⟨2,a,o,n⟩=(D1,⟨0,D3⟩)) (hDl:D1=l) (hP:zbn l ⟨2,a,o,n⟩=[]) :
  Calls Tryz.prog 52 #[v,.agg #[I 2,I a,I o,I n]] w fun e w'=>zeN w.heap.size l ⟨2,a,o,n⟩ e w'/\Ext w w':=by
 obtain ⟨hl11,hx0,hx5,hok⟩:=id hx;have hln:l.length=(xs.getD 0 0).toNat:=by rw [<- hL,zaU]
 have hl5:l.length<=5:=by omega
 rw [hL] at hok;have hfind:=fun nm wx (hw:zbE wx v xs)=>zcZ v xs nm wx hw hl11 hx0 hx5;have hfa:=zb7 xs a (xs.getD 0 0).toNat;rw [hL,<- hln] at hfa;have hfo:=zb7 xs o (xs.getD 0 0).toNat;rw [hL,<- hln] at hfo;rw [<- hln] at hfind;have HL:=zhd hL;have HD:=zhd hD;have HX:=zhd hx;have HOK:=zhd hok;have HCW:=zhd hc;have HV:=zhd hv;clear hL hD hx hok hc hln hl11 hx0 hx5 hv;have e0:Ext w ((w.alloc (.cells #[I 2,I a,I o,I n] 35)).alloc (.cells #[I 0,I 0] 40)):=((Ext.refl w).alloc _).alloc _;go_enter Tryz.func52,Tryz.ntmps52
 go_wp2_with fail
 refine (zcM v xs _ (HV.o.ext e0) HX.o.c).mono ?_;rintro e w1 ⟨h1,rfl,e1,hw1⟩
 rw [HL.o] at hw1;obtain ⟨⟨d0,d1,d2,d3⟩,-⟩:=zbd rfl rfl e1;obtain ⟨ao,cap,rfl,hq1,hq2,-⟩:=hw1.form;unfold maxLen at hq2;have HW1:=zhd hw1;clear hw1;go_wp2_with fail
 refine (zen _ l 2 a o n w1 HW1.o HOK.o HCW.o).mono ?_;rintro e w2 ⟨⟨u,rfl,hu,-⟩,e2⟩
 rw [HD.o] at hu ⊢;simp only [] at hu;obtain ⟨bo,cap2,rfl,hr1,hr2,hcells⟩:=hu.form;unfold maxLen at hr2;have HU:=zhd hu;have HCE:=zhd hcells;clear d0 d1 d2 d3 hu hcells;have m2:Ext w w2:=e0.trans (e1.trans e2)
 have HB:Hid (∀ wx,Ext (w2.alloc (.cells #[I 0,I D3] 40)) wx->((wx.cell? ⟨w.heap.size,0,none⟩=some (I 2)/\wx.cell? ⟨w.heap.size,1,none⟩=some (I a)/\wx.cell? ⟨w.heap.size,2,none⟩=some (I o)/\wx.cell? ⟨w.heap.size,3,none⟩=some (I n))/\wx.heap[w.heap.size+1]?=some (.cells #[I 0,I 0] 40 (0,0)))/\wx.heap[w2.heap.size]?=some (.cells #[I 0,I D3] 40 (0,0))):=fun wx hx =>
  ⟨zbd rfl rfl (e1.trans (e2.trans (((Ext.refl w2).alloc _).trans hx))),zbj hx⟩
 obtain ⟨⟨⟨c0,c1,c2,c3⟩,rb⟩,sb⟩:=HB.o _ (Ext.refl _);obtain ⟨x0,x1,f0,f1⟩:=zaI rb (Ext.refl _);obtain ⟨y0,y1,-,-⟩:=zaI sb (Ext.refl _);have hvv:zbE (w2.alloc (.cells #[I 0,I D3] 40)) v xs:=HV.o.ext (m2.alloc _)
 have hsz:w.heap.size+1 < w2.heap.size:=by
  have:=(Array.getElem?_eq_some_iff.1 (zbd rfl rfl (e1.trans e2)).2).1;exact this
 have hlen:D1.length=l.length:=by rw [hDl]
 have HP:=zhd hP;generalize findIn xs a l.length 0=fa at *;clear hDl hP;rw [hlen];clear hlen;go_wp2_with (go_at_call 69; refine Calls.same (hfind _ _ hvv) ?_)
 refine zam 3 [none,none,none] (by kernel_rfl) (by kernel_rfl) ?_ ?_
 ·exact ⟨trivial,trivial,trivial,trivial⟩
 (refine zar (fun K hK=>?_); go_simp; refine hK _ ?_; clear hK K)
 refine zaE (.agg #[I 0,I D3]) rfl (fun w' hw'=>by have q0:=hw'.cell y0; have q1:=hw'.cell y1; go_simp) ?_;(refine zar (fun K hK=>?_); go_simp; refine hK _ ?_; clear hK K)
 refine za0 ?_;intro w4 he4 _;have hr:Has (w2.heap.size+1) w4 (.slice none 0 0) []:=Has.nil _ _;clear c0 c1 c2 c3 x0 x1 f0 f1 y0 y1 rb sb;obtain ⟨⟨-,rb4⟩,sb4⟩:=HB.o w4 he4;obtain ⟨x0,x1,f0,f1⟩:=zaI rb4 (Ext.refl _);go_wp2
 obtain ⟨z0,z1,-,-⟩:=zaI (zij rb4 (I 0) (I D3)) (Ext.refl _);clear x0 x1 f0 f1;refine bodyPost_ret (by simp [results,Tryz.results52,go_sem,z0,z1]; rfl) rfl ?_;exact zes HD.o hsz ((m2.alloc _).trans he4) (by rw [HP.o]; exact hr)

theorem zl4 (v:Value) (xs:List Int) (a o n:Int) (w:World) (hv:zbE w v xs) (hx:zfd xs) (hc:wrongCl ⟨5,a,o,n⟩=0) (l:List (Int×Int)) (hL:zaK xs (xs.getD 0 0).toNat=l) (D1:List (Int×Int)) (D3:Int) (hD:doR l ⟨5,a,o,n⟩=(D1,⟨0,D3⟩)) (hDl:D1=l) (hP:zbn l ⟨5,a,o,n⟩=[]) :
  Calls Tryz.prog 52 #[v,.agg #[I 5,I a,I o,I n]] w fun e w'=>zeN w.heap.size l ⟨5,a,o,n⟩ e w'/\Ext w w':=by
 obtain ⟨hl11,hx0,hx5,hok⟩:=id hx;have hln:l.length=(xs.getD 0 0).toNat:=by rw [<- hL,zaU]
 have hl5:l.length<=5:=by omega
 rw [hL] at hok;have hfind:=fun nm wx (hw:zbE wx v xs)=>zcZ v xs nm wx hw hl11 hx0 hx5;have hfa:=zb7 xs a (xs.getD 0 0).toNat;rw [hL,<- hln] at hfa;have hfo:=zb7 xs o (xs.getD 0 0).toNat;rw [hL,<- hln] at hfo;rw [<- hln] at hfind;have HL:=zhd hL;have HD:=zhd hD;have HX:=zhd hx;have HOK:=zhd hok;have HCW:=zhd hc;have HV:=zhd hv;clear hL hD hx hok hc hln hl11 hx0 hx5 hv;have e0:Ext w ((w.alloc (.cells #[I 5,I a,I o,I n] 35)).alloc (.cells #[I 0,I 0] 40)):=((Ext.refl w).alloc _).alloc _;go_enter Tryz.func52,Tryz.ntmps52
 go_wp2_with fail
 refine (zcM v xs _ (HV.o.ext e0) HX.o.c).mono ?_;rintro e w1 ⟨h1,rfl,e1,hw1⟩
 rw [HL.o] at hw1;obtain ⟨⟨d0,d1,d2,d3⟩,-⟩:=zbd rfl rfl e1;obtain ⟨ao,cap,rfl,hq1,hq2,-⟩:=hw1.form;unfold maxLen at hq2;have HW1:=zhd hw1;clear hw1;go_wp2_with fail
 refine (zen _ l 5 a o n w1 HW1.o HOK.o HCW.o).mono ?_;rintro e w2 ⟨⟨u,rfl,hu,-⟩,e2⟩
 rw [HD.o] at hu ⊢;simp only [] at hu;obtain ⟨bo,cap2,rfl,hr1,hr2,hcells⟩:=hu.form;unfold maxLen at hr2;have HU:=zhd hu;have HCE:=zhd hcells;clear d0 d1 d2 d3 hu hcells;have m2:Ext w w2:=e0.trans (e1.trans e2)
 have HB:Hid (∀ wx,Ext (w2.alloc (.cells #[I 0,I D3] 40)) wx->((wx.cell? ⟨w.heap.size,0,none⟩=some (I 5)/\wx.cell? ⟨w.heap.size,1,none⟩=some (I a)/\wx.cell? ⟨w.heap.size,2,none⟩=some (I o)/\wx.cell? ⟨w.heap.size,3,none⟩=some (I n))/\wx.heap[w.heap.size+1]?=some (.cells #[I 0,I 0] 40 (0,0)))/\wx.heap[w2.heap.size]?=some (.cells #[I 0,I D3] 40 (0,0))):=fun wx hx =>
  ⟨zbd rfl rfl (e1.trans (e2.trans (((Ext.refl w2).alloc _).trans hx))),zbj hx⟩
 obtain ⟨⟨⟨c0,c1,c2,c3⟩,rb⟩,sb⟩:=HB.o _ (Ext.refl _);obtain ⟨x0,x1,f0,f1⟩:=zaI rb (Ext.refl _);obtain ⟨y0,y1,-,-⟩:=zaI sb (Ext.refl _);have hvv:zbE (w2.alloc (.cells #[I 0,I D3] 40)) v xs:=HV.o.ext (m2.alloc _)
 have hsz:w.heap.size+1 < w2.heap.size:=by
  have:=(Array.getElem?_eq_some_iff.1 (zbd rfl rfl (e1.trans e2)).2).1;exact this
 have hlen:D1.length=l.length:=by rw [hDl]
 have HP:=zhd hP;generalize findIn xs a l.length 0=fa at *;clear hDl hP;rw [hlen];clear hlen;go_wp2_with (go_at_call 69; refine Calls.same (hfind _ _ hvv) ?_)
 refine zam 3 [none,none,none] (by kernel_rfl) (by kernel_rfl) ?_ ?_
 ·exact ⟨trivial,trivial,trivial,trivial⟩
 (refine zar (fun K hK=>?_); go_simp; refine hK _ ?_; clear hK K)
 refine zaE (.agg #[I 0,I D3]) rfl (fun w' hw'=>by have q0:=hw'.cell y0; have q1:=hw'.cell y1; go_simp) ?_;(refine zar (fun K hK=>?_); go_simp; refine hK _ ?_; clear hK K)
 refine za0 ?_;intro w4 he4 _;have hr:Has (w2.heap.size+1) w4 (.slice none 0 0) []:=Has.nil _ _;clear c0 c1 c2 c3 x0 x1 f0 f1 y0 y1 rb sb;obtain ⟨⟨-,rb4⟩,sb4⟩:=HB.o w4 he4;obtain ⟨x0,x1,f0,f1⟩:=zaI rb4 (Ext.refl _);go_wp2
 obtain ⟨z0,z1,-,-⟩:=zaI (zij rb4 (I 0) (I D3)) (Ext.refl _);clear x0 x1 f0 f1;refine bodyPost_ret (by simp [results,Tryz.results52,go_sem,z0,z1]; rfl) rfl ?_;exact zes HD.o hsz ((m2.alloc _).trans he4) (by rw [HP.o]; exact hr)

theorem zn8 (v:Value) (xs:List Int) (a o n:Int) (w:World) (hv:zbE w v xs) (hx:zfd xs) (hc:wrongCl ⟨1,a,o,n⟩=0) (l:List (Int×Int)) (hL:zaK xs (xs.getD 0 0).toNat=l) (D1:List (Int×Int)) (D3:Int) (hD:doR l ⟨1,a,o,n⟩=(D1,⟨0,D3⟩)) (hat:at1 l a < l.length) (hDl:D1.length=l.length) (m:Int) (hm:(D1.getD (at1 l a) (0,0)).2=m) (hP:zbn l ⟨1,a,o,n⟩=[(2+2 * (at1 l a:Int),m)]) :
  Calls Tryz.prog 52 #[v,.agg #[I 1,I a,I o,I n]] w fun e w'=>zeN w.heap.size l ⟨1,a,o,n⟩ e w'/\Ext w w':=by
 obtain ⟨hl11,hx0,hx5,hok⟩:=id hx;have hln:l.length=(xs.getD 0 0).toNat:=by rw [<- hL,zaU]
 have hl5:l.length<=5:=by omega
 rw [hL] at hok;have hfind:=fun nm wx (hw:zbE wx v xs)=>zcZ v xs nm wx hw hl11 hx0 hx5;have hfa:=zb7 xs a (xs.getD 0 0).toNat;rw [hL,<- hln] at hfa;have hfo:=zb7 xs o (xs.getD 0 0).toNat;rw [hL,<- hln] at hfo;rw [<- hln] at hfind;have HL:=zhd hL;have HD:=zhd hD;have HX:=zhd hx;have HOK:=zhd hok;have HCW:=zhd hc;have HV:=zhd hv;clear hL hD hx hok hc hln hl11 hx0 hx5 hv;have e0:Ext w ((w.alloc (.cells #[I 1,I a,I o,I n] 35)).alloc (.cells #[I 0,I 0] 40)):=((Ext.refl w).alloc _).alloc _;go_enter Tryz.func52,Tryz.ntmps52
 go_wp2_with fail
 refine (zcM v xs _ (HV.o.ext e0) HX.o.c).mono ?_;rintro e w1 ⟨h1,rfl,e1,hw1⟩
 rw [HL.o] at hw1;obtain ⟨⟨d0,d1,d2,d3⟩,-⟩:=zbd rfl rfl e1;obtain ⟨ao,cap,rfl,hq1,hq2,-⟩:=hw1.form;unfold maxLen at hq2;have HW1:=zhd hw1;clear hw1;go_wp2_with fail
 refine (zen _ l 1 a o n w1 HW1.o HOK.o HCW.o).mono ?_;rintro e w2 ⟨⟨u,rfl,hu,-⟩,e2⟩
 rw [HD.o] at hu ⊢;simp only [] at hu;obtain ⟨bo,cap2,rfl,hr1,hr2,hcells⟩:=hu.form;unfold maxLen at hr2;have HU:=zhd hu;have HCE:=zhd hcells;clear d0 d1 d2 d3 hu hcells;have m2:Ext w w2:=e0.trans (e1.trans e2)
 have HB:Hid (∀ wx,Ext (w2.alloc (.cells #[I 0,I D3] 40)) wx->((wx.cell? ⟨w.heap.size,0,none⟩=some (I 1)/\wx.cell? ⟨w.heap.size,1,none⟩=some (I a)/\wx.cell? ⟨w.heap.size,2,none⟩=some (I o)/\wx.cell? ⟨w.heap.size,3,none⟩=some (I n))/\wx.heap[w.heap.size+1]?=some (.cells #[I 0,I 0] 40 (0,0)))/\wx.heap[w2.heap.size]?=some (.cells #[I 0,I D3] 40 (0,0))):=fun wx hx =>
  ⟨zbd rfl rfl (e1.trans (e2.trans (((Ext.refl w2).alloc _).trans hx))),zbj hx⟩
 obtain ⟨⟨⟨c0,c1,c2,c3⟩,rb⟩,sb⟩:=HB.o _ (Ext.refl _);obtain ⟨x0,x1,f0,f1⟩:=zaI rb (Ext.refl _);obtain ⟨y0,y1,-,-⟩:=zaI sb (Ext.refl _);have hvv:zbE (w2.alloc (.cells #[I 0,I D3] 40)) v xs:=HV.o.ext (m2.alloc _)
 have hsz:w.heap.size+1 < w2.heap.size:=by
  have:=(Array.getElem?_eq_some_iff.1 (zbd rfl rfl (e1.trans e2)).2).1;exact this
 have hfA:=fun wx hw=>hfind a wx hw;rw [hfa,if_pos hat] at hfA;have HP:=zhd hP;obtain ⟨b,off,rfl,-,ce⟩:=HCE.o (at1 l a) (by omega);rw [hm] at ce;have ce':=((Ext.refl w2).alloc (.cells #[I 0,I D3] 40)).cell ce;rw [hDl];generalize at1 l a=i at *;have hi1:(i:Int) < (l.length:Int):=by omega
 have hi0:¬ (i:Int) < 0:=by omega
 have hw1:IntKind.i64.wrap (2 * (i:Int))=2 * i:=by rw [IntKind.wrap_i64]; omega
 have hw2:IntKind.i64.wrap (2+2 * (i:Int))=2+2 * i:=by rw [IntKind.wrap_i64]; omega
 clear hDl hP hm hfa hfo hfind HCE;go_wp2_with (go_at_call 69; refine Calls.same (hfA _ hvv) ?_)
 refine zam 12 [none,none,none,none,none,none,none,none,none,some (.inr fun v wx=>Has (w2.heap.size+1) wx v [(2+2 * (i:Int),m)]),none,none] (by kernel_rfl) (by kernel_rfl) ?_ ?_
 ·exact ⟨trivial,trivial,trivial,trivial,trivial,trivial,trivial,trivial,trivial,zfQ _ _,trivial,trivial,trivial⟩
 iterate 7 (refine zar (fun K hK=>?_); go_simp; refine hK _ ?_; clear hK K)
 refine zaE (I m) rfl (fun w' hw'=>by have q0:=hw'.cell ce'; go_simp) ?_;(refine zar (fun K hK=>?_); go_simp; refine hK _ ?_; clear hK K)
 refine za8 _ rfl (fun w' hw' _=>?_) (fun v125=>?_)
 ·unfold zaT;go_simp
  exact ⟨(Ext.refl _).alloc _,zkV [(2+2 * (i:Int),m)] _ 1 rfl rfl (by decide) _ (by have:=hw'.size; simpa using this)⟩
 refine zaE (.agg #[I 0,I D3]) rfl (fun w' hw'=>by have q0:=hw'.cell y0; have q1:=hw'.cell y1; go_simp) ?_;(refine zar (fun K hK=>?_); go_simp; refine hK _ ?_; clear hK K)
 refine za0 ?_;intro w4 he4 hF;have hr:Has (w2.heap.size+1) w4 v125 [(2+2 * (i:Int),m)]:=hF 125;clear c0 c1 c2 c3 x0 x1 f0 f1 y0 y1 rb sb hF ce ce' hw1 hw2;obtain ⟨⟨-,rb4⟩,sb4⟩:=HB.o w4 he4;obtain ⟨x0,x1,f0,f1⟩:=zaI rb4 (Ext.refl _);go_wp2
 obtain ⟨z0,z1,-,-⟩:=zaI (zij rb4 (I 0) (I D3)) (Ext.refl _);clear x0 x1 f0 f1;refine bodyPost_ret (by simp [results,Tryz.results52,go_sem,z0,z1]; rfl) rfl ?_;exact zes HD.o hsz ((m2.alloc _).trans he4) (by rw [HP.o]; exact hr)

theorem zoQ (v:Value) (xs:List Int) (a o n:Int) (w:World) (hv:zbE w v xs) (hx:zfd xs) (hc:wrongCl ⟨4,a,o,n⟩=0) (l:List (Int×Int)) (hL:zaK xs (xs.getD 0 0).toNat=l) (D1:List (Int×Int)) (D3:Int) (hD:doR l ⟨4,a,o,n⟩=(D1,⟨0,D3⟩)) (hat:at1 l a < l.length) (hDl:D1.length=l.length) (m:Int) (hm:(D1.getD (at1 l a) (0,0)).2=m) (hP:zbn l ⟨4,a,o,n⟩=[(2+2 * (at1 l a:Int),m)]) :
  Calls Tryz.prog 52 #[v,.agg #[I 4,I a,I o,I n]] w fun e w'=>zeN w.heap.size l ⟨4,a,o,n⟩ e w'/\Ext w w':=by
 obtain ⟨hl11,hx0,hx5,hok⟩:=id hx;have hln:l.length=(xs.getD 0 0).toNat:=by rw [<- hL,zaU]
 have hl5:l.length<=5:=by omega
 rw [hL] at hok;have hfind:=fun nm wx (hw:zbE wx v xs)=>zcZ v xs nm wx hw hl11 hx0 hx5;have hfa:=zb7 xs a (xs.getD 0 0).toNat;rw [hL,<- hln] at hfa;have hfo:=zb7 xs o (xs.getD 0 0).toNat;rw [hL,<- hln] at hfo;rw [<- hln] at hfind;have HL:=zhd hL;have HD:=zhd hD;have HX:=zhd hx;have HOK:=zhd hok;have HCW:=zhd hc;have HV:=zhd hv;clear hL hD hx hok hc hln hl11 hx0 hx5 hv;have e0:Ext w ((w.alloc (.cells #[I 4,I a,I o,I n] 35)).alloc (.cells #[I 0,I 0] 40)):=((Ext.refl w).alloc _).alloc _;go_enter Tryz.func52,Tryz.ntmps52
 go_wp2_with fail
 refine (zcM v xs _ (HV.o.ext e0) HX.o.c).mono ?_;rintro e w1 ⟨h1,rfl,e1,hw1⟩
 rw [HL.o] at hw1;obtain ⟨⟨d0,d1,d2,d3⟩,-⟩:=zbd rfl rfl e1;obtain ⟨ao,cap,rfl,hq1,hq2,-⟩:=hw1.form;unfold maxLen at hq2;have HW1:=zhd hw1;clear hw1;go_wp2_with fail
 refine (zen _ l 4 a o n w1 HW1.o HOK.o HCW.o).mono ?_;rintro e w2 ⟨⟨u,rfl,hu,-⟩,e2⟩
 rw [HD.o] at hu ⊢;simp only [] at hu;obtain ⟨bo,cap2,rfl,hr1,hr2,hcells⟩:=hu.form;unfold maxLen at hr2;have HU:=zhd hu;have HCE:=zhd hcells;clear d0 d1 d2 d3 hu hcells;have m2:Ext w w2:=e0.trans (e1.trans e2)
 have HB:Hid (∀ wx,Ext (w2.alloc (.cells #[I 0,I D3] 40)) wx->((wx.cell? ⟨w.heap.size,0,none⟩=some (I 4)/\wx.cell? ⟨w.heap.size,1,none⟩=some (I a)/\wx.cell? ⟨w.heap.size,2,none⟩=some (I o)/\wx.cell? ⟨w.heap.size,3,none⟩=some (I n))/\wx.heap[w.heap.size+1]?=some (.cells #[I 0,I 0] 40 (0,0)))/\wx.heap[w2.heap.size]?=some (.cells #[I 0,I D3] 40 (0,0))):=fun wx hx =>
  ⟨zbd rfl rfl (e1.trans (e2.trans (((Ext.refl w2).alloc _).trans hx))),zbj hx⟩
 obtain ⟨⟨⟨c0,c1,c2,c3⟩,rb⟩,sb⟩:=HB.o _ (Ext.refl _);obtain ⟨x0,x1,f0,f1⟩:=zaI rb (Ext.refl _);obtain ⟨y0,y1,-,-⟩:=zaI sb (Ext.refl _);have hvv:zbE (w2.alloc (.cells #[I 0,I D3] 40)) v xs:=HV.o.ext (m2.alloc _)
 have hsz:w.heap.size+1 < w2.heap.size:=by
  have:=(Array.getElem?_eq_some_iff.1 (zbd rfl rfl (e1.trans e2)).2).1;exact this
 have hfA:=fun wx hw=>hfind a wx hw;rw [hfa,if_pos hat] at hfA;have HP:=zhd hP;obtain ⟨b,off,rfl,-,ce⟩:=HCE.o (at1 l a) (by omega);rw [hm] at ce;have ce':=((Ext.refl w2).alloc (.cells #[I 0,I D3] 40)).cell ce;rw [hDl];generalize at1 l a=i at *;have hi1:(i:Int) < (l.length:Int):=by omega
 have hi0:¬ (i:Int) < 0:=by omega
 have hw1:IntKind.i64.wrap (2 * (i:Int))=2 * i:=by rw [IntKind.wrap_i64]; omega
 have hw2:IntKind.i64.wrap (2+2 * (i:Int))=2+2 * i:=by rw [IntKind.wrap_i64]; omega
 clear hDl hP hm hfa hfo hfind HCE;go_wp2_with (go_at_call 69; refine Calls.same (hfA _ hvv) ?_)
 refine zam 12 [none,none,none,none,none,none,none,none,none,some (.inr fun v wx=>Has (w2.heap.size+1) wx v [(2+2 * (i:Int),m)]),none,none] (by kernel_rfl) (by kernel_rfl) ?_ ?_
 ·exact ⟨trivial,trivial,trivial,trivial,trivial,trivial,trivial,trivial,trivial,zfQ _ _,trivial,trivial,trivial⟩
 iterate 7 (refine zar (fun K hK=>?_); go_simp; refine hK _ ?_; clear hK K)
 refine zaE (I m) rfl (fun w' hw'=>by have q0:=hw'.cell ce'; go_simp) ?_;(refine zar (fun K hK=>?_); go_simp; refine hK _ ?_; clear hK K)
 refine za8 _ rfl (fun w' hw' _=>?_) (fun v125=>?_)
 ·unfold zaT;go_simp
  exact ⟨(Ext.refl _).alloc _,zkV [(2+2 * (i:Int),m)] _ 1 rfl rfl (by decide) _ (by have:=hw'.size; simpa using this)⟩
 refine zaE (.agg #[I 0,I D3]) rfl (fun w' hw'=>by have q0:=hw'.cell y0; have q1:=hw'.cell y1; go_simp) ?_;(refine zar (fun K hK=>?_); go_simp; refine hK _ ?_; clear hK K)
 refine za0 ?_;intro w4 he4 hF;have hr:Has (w2.heap.size+1) w4 v125 [(2+2 * (i:Int),m)]:=hF 125;clear c0 c1 c2 c3 x0 x1 f0 f1 y0 y1 rb sb hF ce ce' hw1 hw2;obtain ⟨⟨-,rb4⟩,sb4⟩:=HB.o w4 he4;obtain ⟨x0,x1,f0,f1⟩:=zaI rb4 (Ext.refl _);go_wp2
 obtain ⟨z0,z1,-,-⟩:=zaI (zij rb4 (I 0) (I D3)) (Ext.refl _);clear x0 x1 f0 f1;refine bodyPost_ret (by simp [results,Tryz.results52,go_sem,z0,z1]; rfl) rfl ?_;exact zes HD.o hsz ((m2.alloc _).trans he4) (by rw [HP.o]; exact hr)

open Go.RowKit Go.Mk

theorem zoa (v:Value) (xs:List Int) (a o n:Int) (w:World) (hv:zbE w v xs) (hx:zfd xs) (hc:wrongCl ⟨1,a,o,n⟩=0) (l:List (Int×Int)) (hL:zaK xs (xs.getD 0 0).toNat=l) (D1:List (Int×Int)) (D3:Int) (hD:doR l ⟨1,a,o,n⟩=(D1,⟨0,D3⟩)) (hat:¬ at1 l a < l.length) (hl4:l.length < 5) (hDl:D1.length=l.length+1) (hP:zbn l ⟨1,a,o,n⟩=[(1+2 * (l.length:Int),a),(2+2 * (l.length:Int),n),(0,(l.length:Int)+1)]) :
  Calls Tryz.prog 52 #[v,.agg #[I 1,I a,I o,I n]] w fun e w'=>zeN w.heap.size l ⟨1,a,o,n⟩ e w'/\Ext w w':=by
 obtain ⟨hl11,hx0,hx5,hok⟩:=id hx;have hln:l.length=(xs.getD 0 0).toNat:=by rw [<- hL,zaU]
 have hl5:l.length<=5:=by omega
 rw [hL] at hok;have hfind:=fun nm wx (hw:zbE wx v xs)=>zcZ v xs nm wx hw hl11 hx0 hx5;have hfa:=zb7 xs a (xs.getD 0 0).toNat;rw [hL,<- hln] at hfa;have hfo:=zb7 xs o (xs.getD 0 0).toNat;rw [hL,<- hln] at hfo;rw [<- hln] at hfind;have HL:=zhd hL;have HD:=zhd hD;have HX:=zhd hx;have HOK:=zhd hok;have HCW:=zhd hc;have HV:=zhd hv;clear hL hD hx hok hc hln hl11 hx0 hx5 hv;have e0:Ext w ((w.alloc (.cells #[I 1,I a,I o,I n] 35)).alloc (.cells #[I 0,I 0] 40)):=((Ext.refl w).alloc _).alloc _;go_enter Tryz.func52,Tryz.ntmps52
 go_wp2_with fail
 refine (zcM v xs _ (HV.o.ext e0) HX.o.c).mono ?_;rintro e w1 ⟨h1,rfl,e1,hw1⟩
 rw [HL.o] at hw1;obtain ⟨⟨d0,d1,d2,d3⟩,-⟩:=zbd rfl rfl e1;obtain ⟨ao,cap,rfl,hq1,hq2,-⟩:=hw1.form;unfold maxLen at hq2;have HW1:=zhd hw1;clear hw1;go_wp2_with fail
 refine (zen _ l 1 a o n w1 HW1.o HOK.o HCW.o).mono ?_;rintro e w2 ⟨⟨u,rfl,hu,-⟩,e2⟩
 rw [HD.o] at hu ⊢;simp only [] at hu;obtain ⟨bo,cap2,rfl,hr1,hr2,hcells⟩:=hu.form;unfold maxLen at hr2;have HU:=zhd hu;have HCE:=zhd hcells;clear d0 d1 d2 d3 hu hcells;have m2:Ext w w2:=e0.trans (e1.trans e2)
 have HB:Hid (∀ wx,Ext (w2.alloc (.cells #[I 0,I D3] 40)) wx->((wx.cell? ⟨w.heap.size,0,none⟩=some (I 1)/\wx.cell? ⟨w.heap.size,1,none⟩=some (I a)/\wx.cell? ⟨w.heap.size,2,none⟩=some (I o)/\wx.cell? ⟨w.heap.size,3,none⟩=some (I n))/\wx.heap[w.heap.size+1]?=some (.cells #[I 0,I 0] 40 (0,0)))/\wx.heap[w2.heap.size]?=some (.cells #[I 0,I D3] 40 (0,0))):=fun wx hx =>
  ⟨zbd rfl rfl (e1.trans (e2.trans (((Ext.refl w2).alloc _).trans hx))),zbj hx⟩
 obtain ⟨⟨⟨c0,c1,c2,c3⟩,rb⟩,sb⟩:=HB.o _ (Ext.refl _);obtain ⟨x0,x1,f0,f1⟩:=zaI rb (Ext.refl _);obtain ⟨y0,y1,-,-⟩:=zaI sb (Ext.refl _);have hvv:zbE (w2.alloc (.cells #[I 0,I D3] 40)) v xs:=HV.o.ext (m2.alloc _)
 have hsz:w.heap.size+1 < w2.heap.size:=by
  have:=(Array.getElem?_eq_some_iff.1 (zbd rfl rfl (e1.trans e2)).2).1;exact this
 have hfA:=fun wx hw=>hfind a wx hw;rw [hfa,if_neg hat] at hfA;have HP:=zhd hP;rw [hDl] at hr1 ⊢;have hne:((l.length:Int)+1 == (l.length:Int))=false:=by simp; omega
 clear hDl hP hfa hfo hfind HCE hat
 go_wp2_with (first
  | (go_at_call 69; refine Calls.same (hfA _ hvv) ?_)
  | (at_builtin; refine zbv ?_))
 unfold Hid;obtain ⟨i0,hi,hz0,hz1,hz2⟩:=info_parts Tryz.infoWrite2
 have hown:(((w2.alloc (.cells #[I 0,I D3] 40)).alloc (.cells #[I (2 * ((l.length:Int)+1) - 1),I a,I (2 * ((l.length:Int)+1)),I n] 73)).alloc (.cells #[I 0,I ((l.length:Int)+1)] 73)).ownsRow (w2.heap.size+1) 73 2 (.slice (some ⟨w2.heap.size+1,0,none⟩) 2 2) 2 (zaz [(2 * ((l.length:Int)+1) - 1,a),(2 * ((l.length:Int)+1),n)]):=by
  have:=World.ownsRow_lit (base:=w2.heap.size+1) (e:=73) (size:=2) (w2.alloc (.cells #[I 0,I D3] 40)) #[I (2 * ((l.length:Int)+1) - 1),I a,I (2 * ((l.length:Int)+1)),I n] 2 (by simp) (by decide) rfl;have h2:=this.alloc (.cells #[I 0,I ((l.length:Int)+1)] 73);simpa [zaz] using h2
 have hlit:Row (((w2.alloc (.cells #[I 0,I D3] 40)).alloc (.cells #[I (2 * ((l.length:Int)+1) - 1),I a,I (2 * ((l.length:Int)+1)),I n] 73)).alloc (.cells #[I 0,I ((l.length:Int)+1)] 73)) 2 (.slice (some ⟨w2.heap.size+1+1,0,none⟩) 1 1) 1 (zaz [(0,(l.length:Int)+1)]):=by
  have:=zcN (w:=(w2.alloc (.cells #[I 0,I D3] 40)).alloc (.cells #[I (2 * ((l.length:Int)+1) - 1),I a,I (2 * ((l.length:Int)+1)),I n] 73)) 73 [(0,(l.length:Int)+1)] #[I 0,I ((l.length:Int)+1)] 1 rfl rfl (by decide);simpa [zaw] using this
 have hbase:w2.heap.size+1<=(((w2.alloc (.cells #[I 0,I D3] 40)).alloc (.cells #[I (2 * ((l.length:Int)+1) - 1),I a,I (2 * ((l.length:Int)+1)),I n] 73)).alloc (.cells #[I 0,I ((l.length:Int)+1)] 73)).heap.size:=by simp
 have exb:=((Ext.refl (w2.alloc (.cells #[I 0,I D3] 40))).alloc (.cells #[I (2 * ((l.length:Int)+1) - 1),I a,I (2 * ((l.length:Int)+1)),I n] 73)).alloc (.cells #[I 0,I ((l.length:Int)+1)] 73);refine zay _ rfl (.tmp 132) (.tmp 136) 28 rfl (w2.heap.size+1) 73 i0 (.agg #[.int .i64 0,.int .i64 0]) 2 16 zfz hi hz0 hz1 hz2 rfl (by decide) _ 2 (zaz [(2 * ((l.length:Int)+1) - 1,a),(2 * ((l.length:Int)+1),n)]) rfl hown _ rfl 1 _ hlit (zbD _) (by omega) (by decide) hbase ?_;intro v5 w5 ho5 hg5;have ex5:Ext (w2.alloc (.cells #[I 0,I D3] 40)) w5:=Ext.grown exb hg5 (fun j hj=>by have:=(hown.lt j hj).1; simpa using this)
 have hh5:Has (w2.heap.size+1) w5 v5 [(1+2 * (l.length:Int),a),(2+2 * (l.length:Int),n),(0,(l.length:Int)+1)]:=by
  have e:zaz [(2 * ((l.length:Int)+1) - 1,a),(2 * ((l.length:Int)+1),n)]++zaz [(0,(l.length:Int)+1)]=zaz [(1+2 * (l.length:Int),a),(2+2 * (l.length:Int),n),(0,(l.length:Int)+1)]:=by rw [<- zbf]; simp [zaz]; omega
  rw [e] at ho5;exact ⟨_,_,_,ho5,fun w2 h2=>zaA h2⟩
 obtain ⟨-,sb5⟩:=HB.o w5 ex5;obtain ⟨s0,s1,-,-⟩:=zaI sb5 (Ext.refl _);clear ho5 hg5 hown hlit hi hz0 hz1 hz2 c0 c1 c2 c3 x0 x1 f0 f1 y0 y1 rb sb sb5 hbase exb;go_wp2
 refine zam 3 [none,none,none] (by kernel_rfl) (by kernel_rfl) ?_ ?_
 ·exact ⟨trivial,trivial,trivial,trivial⟩
 (refine zar (fun K hK=>?_); go_simp; refine hK _ ?_; clear hK K)
 refine zaE (.agg #[I 0,I D3]) rfl (fun w' hw'=>by have q0:=hw'.cell s0; have q1:=hw'.cell s1; go_simp) ?_;(refine zar (fun K hK=>?_); go_simp; refine hK _ ?_; clear hK K)
 refine za0 ?_;intro w4 he4' _;have he4:=ex5.trans he4';have hr:=hh5.ext he4';clear s0 s1;obtain ⟨⟨-,rb4⟩,sb4⟩:=HB.o w4 he4;obtain ⟨x0,x1,f0,f1⟩:=zaI rb4 (Ext.refl _);go_wp2
 obtain ⟨z0,z1,-,-⟩:=zaI (zij rb4 (I 0) (I D3)) (Ext.refl _);clear x0 x1 f0 f1;refine bodyPost_ret (by simp [results,Tryz.results52,go_sem,z0,z1]; rfl) rfl ?_;exact zes HD.o hsz ((m2.alloc _).trans he4) (by rw [HP.o]; exact hr)

theorem ziL (v:Value) (xs:List Int) (a o n:Int) (w:World) (hv:zbE w v xs) (hx:zfd xs) (hc:wrongCl ⟨3,a,o,n⟩=0) (l:List (Int×Int)) (hL:zaK xs (xs.getD 0 0).toNat=l) (D1:List (Int×Int)) (D3:Int) (hD:doR l ⟨3,a,o,n⟩=(D1,⟨0,D3⟩)) (hat:at1 l a+1=l.length) (hDl:D1.length=l.length - 1) (hP:zbn l ⟨3,a,o,n⟩=[(0,(l.length:Int) - 1)]) :
  Calls Tryz.prog 52 #[v,.agg #[I 3,I a,I o,I n]] w fun e w'=>zeN w.heap.size l ⟨3,a,o,n⟩ e w'/\Ext w w':=by
 obtain ⟨hl11,hx0,hx5,hok⟩:=id hx;have hln:l.length=(xs.getD 0 0).toNat:=by rw [<- hL,zaU]
 have hl5:l.length<=5:=by omega
 rw [hL] at hok;have hfind:=fun nm wx (hw:zbE wx v xs)=>zcZ v xs nm wx hw hl11 hx0 hx5;have hfa:=zb7 xs a (xs.getD 0 0).toNat;rw [hL,<- hln] at hfa;have hfo:=zb7 xs o (xs.getD 0 0).toNat;rw [hL,<- hln] at hfo;rw [<- hln] at hfind;have HL:=zhd hL;have HD:=zhd hD;have HX:=zhd hx;have HOK:=zhd hok;have HCW:=zhd hc;have HV:=zhd hv;clear hL hD hx hok hc hln hl11 hx0 hx5 hv;have e0:Ext w ((w.alloc (.cells #[I 3,I a,I o,I n] 35)).alloc (.cells #[I 0,I 0] 40)):=((Ext.refl w).alloc _).alloc _;go_enter Tryz.func52,Tryz.ntmps52
 go_wp2_with fail
 refine (zcM v xs _ (HV.o.ext e0) HX.o.c).mono ?_;rintro e w1 ⟨h1,rfl,e1,hw1⟩
 rw [HL.o] at hw1;obtain ⟨⟨d0,d1,d2,d3⟩,-⟩:=zbd rfl rfl e1;obtain ⟨ao,cap,rfl,hq1,hq2,-⟩:=hw1.form;unfold maxLen at hq2;have HW1:=zhd hw1;clear hw1;go_wp2_with fail
 refine (zen _ l 3 a o n w1 HW1.o HOK.o HCW.o).mono ?_;rintro e w2 ⟨⟨u,rfl,hu,-⟩,e2⟩
 rw [HD.o] at hu ⊢;simp only [] at hu;obtain ⟨bo,cap2,rfl,hr1,hr2,hcells⟩:=hu.form;unfold maxLen at hr2;have HU:=zhd hu;have HCE:=zhd hcells;clear d0 d1 d2 d3 hu hcells;have m2:Ext w w2:=e0.trans (e1.trans e2)
 have HB:Hid (∀ wx,Ext (w2.alloc (.cells #[I 0,I D3] 40)) wx->((wx.cell? ⟨w.heap.size,0,none⟩=some (I 3)/\wx.cell? ⟨w.heap.size,1,none⟩=some (I a)/\wx.cell? ⟨w.heap.size,2,none⟩=some (I o)/\wx.cell? ⟨w.heap.size,3,none⟩=some (I n))/\wx.heap[w.heap.size+1]?=some (.cells #[I 0,I 0] 40 (0,0)))/\wx.heap[w2.heap.size]?=some (.cells #[I 0,I D3] 40 (0,0))):=fun wx hx =>
  ⟨zbd rfl rfl (e1.trans (e2.trans (((Ext.refl w2).alloc _).trans hx))),zbj hx⟩
 obtain ⟨⟨⟨c0,c1,c2,c3⟩,rb⟩,sb⟩:=HB.o _ (Ext.refl _);obtain ⟨x0,x1,f0,f1⟩:=zaI rb (Ext.refl _);obtain ⟨y0,y1,-,-⟩:=zaI sb (Ext.refl _);have hvv:zbE (w2.alloc (.cells #[I 0,I D3] 40)) v xs:=HV.o.ext (m2.alloc _)
 have hsz:w.heap.size+1 < w2.heap.size:=by
  have:=(Array.getElem?_eq_some_iff.1 (zbd rfl rfl (e1.trans e2)).2).1;exact this
 have hfA:=fun wx hw=>hfind a wx hw;rw [hfa,if_pos (by omega)] at hfA;have HP:=zhd hP;obtain ⟨p,hp⟩:∃ p:Nat,l.length=p+1:=⟨l.length - 1,by omega⟩;have hD1:D1.length=p:=by omega
 have ha1:at1 l a=p:=by omega
 rw [ha1] at hfA;rw [hD1] at hr1 ⊢;have HLP:=zhd hp;rw [hp] at hq1 ⊢;have hpl:¬ (p:Int) < (p:Int):=by omega
 have hne:((p:Int) == (p:Int)+1)=false:=by simp; omega
 have hp5:p<=4:=by omega
 clear hDl hP hfa hfo hfind HCE hat hD1 ha1 hp hl5
 go_wp2_with (first
  | (go_at_call 69; refine Calls.same (hfA _ hvv) ?_)
  | (at_builtin; refine zbv ?_))
 unfold Hid;obtain ⟨i0,hi,hz0,hz1,hz2⟩:=info_parts Tryz.infoWrite2;have hown:((w2.alloc (.cells #[I 0,I D3] 40)).alloc (.cells #[I 0,I p] 73)).ownsRow (w2.heap.size+1) 73 2 (.slice none 0 0) 0 (zaz []):=World.ownsRow_nil _ _ _ _
 have hlit:Row ((w2.alloc (.cells #[I 0,I D3] 40)).alloc (.cells #[I 0,I p] 73)) 2 (.slice (some ⟨w2.heap.size+1,0,none⟩) 1 1) 1 (zaz [(0,(p:Int))]):=by
  have:=zcN (w:=(w2.alloc (.cells #[I 0,I D3] 40))) 73 [(0,(p:Int))] #[I 0,I p] 1 rfl rfl (by decide);simpa [zaw] using this
 have hbase:w2.heap.size+1<=((w2.alloc (.cells #[I 0,I D3] 40)).alloc (.cells #[I 0,I p] 73)).heap.size:=by simp
 have exb:=(Ext.refl (w2.alloc (.cells #[I 0,I D3] 40))).alloc (.cells #[I 0,I p] 73);refine zay _ rfl (.tmp 132) (.tmp 136) 28 rfl (w2.heap.size+1) 73 i0 (.agg #[.int .i64 0,.int .i64 0]) 2 16 zfz hi hz0 hz1 hz2 rfl (by decide) _ 0 (zaz []) rfl hown _ rfl 1 _ hlit (zbD _) (by omega) (by decide) hbase ?_;intro v5 w5 ho5 hg5;have ex5:Ext (w2.alloc (.cells #[I 0,I D3] 40)) w5:=Ext.grown exb hg5 (fun j hj=>by have:=(hown.lt j hj).1; simpa using this)
 have hh5:Has (w2.heap.size+1) w5 v5 [(0,(l.length:Int) - 1)]:=by
  have e:zaz []++zaz [(0,(p:Int))]=zaz [(0,(l.length:Int) - 1)]:=by rw [<- zbf]; rw [HLP.o]; simp [zaz]
  rw [e] at ho5;exact ⟨_,_,_,ho5,fun w2 h2=>zaA h2⟩
 obtain ⟨-,sb5⟩:=HB.o w5 ex5;obtain ⟨s0,s1,-,-⟩:=zaI sb5 (Ext.refl _);clear ho5 hg5 hown hlit hi hz0 hz1 hz2 c0 c1 c2 c3 x0 x1 f0 f1 y0 y1 rb sb sb5 hbase exb;go_wp2
 refine zam 3 [none,none,none] (by kernel_rfl) (by kernel_rfl) ?_ ?_
 ·exact ⟨trivial,trivial,trivial,trivial⟩
 (refine zar (fun K hK=>?_); go_simp; refine hK _ ?_; clear hK K)
 refine zaE (.agg #[I 0,I D3]) rfl (fun w' hw'=>by have q0:=hw'.cell s0; have q1:=hw'.cell s1; go_simp) ?_;(refine zar (fun K hK=>?_); go_simp; refine hK _ ?_; clear hK K)
 refine za0 ?_;intro w4 he4' _;have he4:=ex5.trans he4';have hr:=hh5.ext he4';clear s0 s1;obtain ⟨⟨-,rb4⟩,sb4⟩:=HB.o w4 he4;obtain ⟨x0,x1,f0,f1⟩:=zaI rb4 (Ext.refl _);go_wp2
 obtain ⟨z0,z1,-,-⟩:=zaI (zij rb4 (I 0) (I D3)) (Ext.refl _);clear x0 x1 f0 f1;refine bodyPost_ret (by simp [results,Tryz.results52,go_sem,z0,z1]; rfl) rfl ?_;exact zes HD.o hsz ((m2.alloc _).trans he4) (by rw [HP.o]; exact hr)

end Go.Proofs.YtdmipnnfoolelagGreat

/- zbb of the proof, merged: S9. -/
import Derived.Test.YtdmipnnfoolelagGreatDoorKTA
import Derived.Test.YtdmipnnfoolelagGreatDoorKTP
set_option maxHeartbeats 2000000
set_option maxRecDepth 100000

namespace Go.Proofs.YtdmipnnfoolelagGreatDoor
open Go.RowKit Go.Mk

theorem zlG {w wx:World} {o1 o2 o3 o4:Obj} (h:Ext ((((w.alloc o1).alloc o2).alloc o3).alloc o4) wx):wx.heap[w.heap.size]?=some o1/\wx.heap[w.heap.size+1]?=some o2/\wx.heap[w.heap.size+1+1]?=some o3/\wx.heap[w.heap.size+1+1+1]?=some o4:=by
 have h3:Ext (((w.alloc o1).alloc o2).alloc o3) wx:=((Ext.refl _).alloc o4).trans h
 obtain ⟨a,b,c⟩:=zia h3
 refine ⟨a,b,c,?_⟩
 have:=zbk h
 simpa using this
theorem zdH {w w':World} {row:Option Nat} (hg:w.grownBy w' row) {b:Nat} {o:Obj} (h:w.heap[b]?=some o) (hne:row≠some b):w'.heap[b]?=some o:=by
 rw [hg.block b (Array.getElem?_eq_some_iff.1 h).1 (fun e=>hne e.symm)]
 exact h

theorem zry (s:St) (p:Int×Int):zaP s p={ s with cells:=zav s.cells [p],undo:=zbh s.cells [p]++s.undo }:=by
 unfold zaP
 by_cases h:0<=p.1/\p.1 < (s.cells.length:Int)
 ·rw [if_pos h]
  have:zbh s.cells [p]=[(p.1,s.cells.getD p.1.toNat 0)]:=by
   show []++(if 0<=p.1/\p.1 < (s.cells.length:Int) then [(p.1,s.cells.getD p.1.toNat 0)] else [])=_
   rw [if_pos h]
   rfl
  rw [this]
  rfl
 ·rw [if_neg h]
  have h1:zbh s.cells [p]=[]:=by
   show []++(if 0<=p.1/\p.1 < (s.cells.length:Int) then [(p.1,s.cells.getD p.1.toNat 0)] else [])=_
   rw [if_neg h]
   rfl
  have h2:zav s.cells [p]=s.cells:=if_neg h
  rw [h1,h2]
  rfl

theorem zm4 (c u a p:Value) (s:St) (w:World) (h:zc7 w [c,u,a,p] s) (hs:ziO s) :
  za3 Tryz.prog 16 #[.agg #[c,u,a,p]] w (fun _=>False) (fun r w'=>Agg zc7 (zci s) r w'):=by
 unfold za3;have HS:=zhd hs;clear hs;have HE:=zhd h;clear h;have e0:Ext w ((w.alloc (.cells #[c,u,a,p] 30)).alloc (.cells zT4 30)):=((Ext.refl w).alloc _).alloc _;have HB:=zhd (fun wx (h:Ext ((w.alloc (.cells #[c,u,a,p] 30)).alloc (.cells zT4 30)) wx)=>zdq h);have hsz:((w.alloc (.cells #[c,u,a,p] 30)).alloc (.cells zT4 30)).heap.size=w.heap.size+2:=by simp
 have HSZ:=zhd hsz;clear hsz;go_enter Tryz.func16,Tryz.ntmps16
 go_wp2_with fail
 generalize hw0:(w.alloc (.cells #[c,u,a,p] 30)).alloc (.cells zT4 30)=w0 at *;clear hw0;refine (zhn c u a p s w0 (zf7 _ _ _ _ e0 HE.o) HS.o).to fun r w1 e1 hr=>?_;obtain ⟨c',u',a',p',rfl,ho⟩:=hr;obtain ⟨ka,kc,hk0⟩:=zaD ho.cells;obtain ⟨la,lc,hk1⟩:=zaD ho.undo
 obtain ⟨ma,mc,hk2⟩:=zaD ho.answers;obtain ⟨na,nc,hk3⟩:=zaD ho.past;subst hk0 hk1 hk2 hk3;have hle:=e1.size;have hz0:=HSZ.o;obtain ⟨A,hA⟩:∃ A:Nat->Prop,∀ k,A k↔(w.heap.size+2<=k/\k≠w1.heap.size):=⟨_,fun _=>Iff.rfl⟩;have HA:=zhd hA;clear hA;have k1:=(zeN ho.cells).widen (B:=A) (fun k hk h=>(HA.o k).2 ⟨by omega,by omega⟩);have k2:=(zeg ho.undo).widen (B:=A) (fun k hk h=>(HA.o k).2 ⟨by omega,by omega⟩);have k3:=(zgo ho.answers).widen (B:=A) (fun k hk h=>(HA.o k).2 ⟨by omega,by omega⟩);have k4:=(ziW ho.past).widen (B:=A) (fun k hk h=>(HA.o k).2 ⟨by omega,by omega⟩);clear ho;have ng:¬ A w1.heap.size:=fun h=>((HA.o _).1 h).2 rfl;have n1:¬ A (w.heap.size+1):=fun h=>by have:=((HA.o _).1 h).1; omega
 have ea:=(Ext.refl w1).alloc (.cells #[(.slice ka s.cells.length kc),(.slice la s.undo.length lc),(.slice ma s.answers.length mc),(.slice na s.past.length nc)] 30);replace k1:=k1.ext ea;replace k2:=k2.ext ea;replace k3:=k3.ext ea;replace k4:=k4.ext ea;have b3:=heap_alloc_new w1 (.cells #[(.slice ka s.cells.length kc),(.slice la s.undo.length lc),(.slice ma s.answers.length mc),(.slice na s.past.length nc)] 30);have hs2:(w1.alloc (.cells #[(.slice ka s.cells.length kc),(.slice la s.undo.length lc),(.slice ma s.answers.length mc),(.slice na s.past.length nc)] 30)).heap.size=w1.heap.size+1:=by simp
 have ew:=(e0.trans e1).alloc (.cells #[(.slice ka s.cells.length kc),(.slice la s.undo.length lc),(.slice ma s.answers.length mc),(.slice na s.past.length nc)] 30);have b1:=HB.o _ (e1.alloc (.cells #[(.slice ka s.cells.length kc),(.slice la s.undo.length lc),(.slice ma s.answers.length mc),(.slice na s.past.length nc)] 30));have K1:=zhd k1;have K2:=zhd k2;have K3:=zhd k3;have K4:=zhd k4;have B3:=zhd b3;have B1:=zhd b1;have HS2:=zhd hs2;have EW:=zhd ew;have HLE:=zhd hle;have HZ0:=zhd hz0;clear k1 k2 k3 k4 b3 b1 hs2 ew ea hle hz0;go_wp2_with fail
 refine (zpr _ _ s.cells s.undo _ K1.o.o K2.o.o (by have:=HS.o.1; omega) (by have:=HS.o.2.1; omega)).to fun r w3 e3 ⟨n3,ho3⟩=>?_;have hle:=HLE.o;have hz0:=HZ0.o;have hs2:=HS2.o;have k5:=(zeN ho3).widen (B:=A) (fun k hk h=>(HA.o k).2 (by simp at h; omega));obtain ⟨ra,rc,hrs⟩:=zaD ho3;subst hrs;have d3:=zaV B3.o e3;have d1:=zaV B1.o e3;have ew:=EW.o.trans e3;have K5:=zhd k5;have K6:=zhd (K3.o.ext e3);have K7:=zhd (K4.o.ext e3);have hn1:¬ (w1.heap.size=w.heap.size+1):=by omega
 have hn2:¬ (w.heap.size+1=w1.heap.size):=by omega
 clear k5 ho3 hle hz0 hs2 e3 K1 K2 K3 K4;obtain ⟨x0,x1,x2,x3,f0,f1,f2,f3⟩:=zcf d3;obtain ⟨y0,y1,y2,y3,g0,g1,g2,g3⟩:=zcf d1;go_wp2_with fail
 clear x0 x1 x2 x3 f0 f1 f2 f3 y0 y1 y2 y3 g0 g1 g2 g3;have d2:=set4 (zef (i:=1) (x:=.slice none 0 0) (zef (i:=0) (x:=.slice ra n3 rc) d1 hn2) hn2) (.slice ra n3 rc) (.slice none 0 0) (.slice ma s.answers.length mc) (.slice na s.past.length nc);obtain ⟨q0,q1,q2,q3,-⟩:=zcf d2;have hle:=HLE.o;have hz0:=HZ0.o;have m2:=zbY ((ew.setCell (p:=⟨w1.heap.size,0,none⟩) (by show w.heap.size<=w1.heap.size; omega) (.slice ra n3 rc)).setCell (p:=⟨w1.heap.size,1,none⟩) (by show w.heap.size<=w1.heap.size; omega) (.slice none 0 0)) (b:=w.heap.size+1) (by omega) (.slice ra n3 rc) (.slice none 0 0) (.slice ma s.answers.length mc) (.slice na s.past.length nc);refine bodyPost_ret (by simp [results,Tryz.results16,go_sem,q0,q1,q2,q3]; rfl) rfl ?_;refine ⟨_,rfl,m2,Rd.widen (A:=A) (zcM (zjY (s:=zci s) ?_ ?_ ?_ ?_)) (fun k _ h=>.inr (by have:=((HA.o k).1 h).1; omega))⟩
 ·exact ((K5.o.set ng _ _).set ng _ _).set4 n1 _ _ _ _
 ·exact Rd.all fun w=>zbr w
 ·exact ((K6.o.set ng _ _).set ng _ _).set4 n1 _ _ _ _
 ·exact ((K7.o.set ng _ _).set ng _ _).set4 n1 _ _ _ _

theorem zqE (c u a p:Value) (s:St) (x y:Int) (w:World) (h:zc7 w [c,u,a,p] s) (hs:ziO s) :
  za3 Tryz.prog 120 #[.agg #[c,u,a,p],.agg #[I x,I y]] w (fun _=>False) (fun r w'=>Agg zc7 (zaP s (x,y)) r w'):=by
 rw [zry];unfold za3;have HS:=zhd hs;clear hs;have HE:=zhd h;clear h;obtain ⟨i0,hi,hz0,hz1,hz2⟩:=info_parts Tryz.infoWrite;have HI:=zhd hi;clear hi;have e0:Ext w (((w.alloc (.cells #[c,u,a,p] 30)).alloc (.cells #[I x,I y] 52)).alloc (.cells zT4 30)):=(((Ext.refl w).alloc _).alloc _).alloc _;have HB:=zhd (fun wx (h:Ext (((w.alloc (.cells #[c,u,a,p] 30)).alloc (.cells #[I x,I y] 52)).alloc (.cells zT4 30)) wx)=>(zia h).2);have hsz:(((w.alloc (.cells #[c,u,a,p] 30)).alloc (.cells #[I x,I y] 52)).alloc (.cells zT4 30)).heap.size=w.heap.size+3:=by simp
 have HSZ:=zhd hsz;clear hsz;go_enter Tryz.func120,Tryz.ntmps120
 go_wp2_with fail
 generalize hw0:((w.alloc (.cells #[c,u,a,p] 30)).alloc (.cells #[I x,I y] 52)).alloc (.cells zT4 30)=w0 at *;clear hw0;refine (zhn c u a p s w0 (zf7 _ _ _ _ e0 HE.o) HS.o).to fun r w1 e1 hr=>?_;obtain ⟨c',u',a',p',rfl,ho⟩:=hr;obtain ⟨ka,kc,hk0⟩:=zaD ho.cells;obtain ⟨la,lc,hk1⟩:=zaD ho.undo
 obtain ⟨ma,mc,hk2⟩:=zaD ho.answers;obtain ⟨na,nc,hk3⟩:=zaD ho.past;subst hk0 hk1 hk2 hk3;have hle:=e1.size;have hz0':=HSZ.o;obtain ⟨A,hA⟩:∃ A:Nat->Prop,∀ k,A k↔(w.heap.size+3<=k/\k≠w1.heap.size):=⟨_,fun _=>Iff.rfl⟩;have HA:=zhd hA;clear hA;have k1:=(zeN ho.cells).widen (B:=A) (fun k hk h=>(HA.o k).2 ⟨by omega,by omega⟩);have k2:=(zeg ho.undo).widen (B:=A) (fun k hk h=>(HA.o k).2 ⟨by omega,by omega⟩);have k3:=(zgo ho.answers).widen (B:=A) (fun k hk h=>(HA.o k).2 ⟨by omega,by omega⟩);have k4:=(ziW ho.past).widen (B:=A) (fun k hk h=>(HA.o k).2 ⟨by omega,by omega⟩);clear ho;have ng:¬ A w1.heap.size:=fun h=>((HA.o _).1 h).2 rfl;have n1:¬ A (w.heap.size+1+1):=fun h=>by have:=((HA.o _).1 h).1; omega
 have ea:=((Ext.refl w1).alloc (.cells #[(.slice ka s.cells.length kc),(.slice la s.undo.length lc),(.slice ma s.answers.length mc),(.slice na s.past.length nc)] 30)).alloc (.cells #[I x,I y] 52);replace k1:=k1.ext ea;replace k2:=k2.ext ea;replace k3:=k3.ext ea;replace k4:=k4.ext ea;have b3:=zaV (heap_alloc_new w1 (.cells #[(.slice ka s.cells.length kc),(.slice la s.undo.length lc),(.slice ma s.answers.length mc),(.slice na s.past.length nc)] 30)) ((Ext.refl _).alloc (.cells #[I x,I y] 52));have hs3:((w1.alloc (.cells #[(.slice ka s.cells.length kc),(.slice la s.undo.length lc),(.slice ma s.answers.length mc),(.slice na s.past.length nc)] 30)).alloc (.cells #[I x,I y] 52)).heap.size=w1.heap.size+2:=by simp
 have ew:=((e0.trans e1).alloc (.cells #[(.slice ka s.cells.length kc),(.slice la s.undo.length lc),(.slice ma s.answers.length mc),(.slice na s.past.length nc)] 30)).alloc (.cells #[I x,I y] 52);have b2:=(HB.o _ ((e1.alloc (.cells #[(.slice ka s.cells.length kc),(.slice la s.undo.length lc),(.slice ma s.answers.length mc),(.slice na s.past.length nc)] 30)).alloc (.cells #[I x,I y] 52))).2;have b1':=(HB.o _ (e1.alloc (.cells #[(.slice ka s.cells.length kc),(.slice la s.undo.length lc),(.slice ma s.answers.length mc),(.slice na s.past.length nc)] 30))).1;have hlit:=World.ownsRow_lit (base:=w1.heap.size+1) (e:=52) (size:=2) (w1.alloc (.cells #[(.slice ka s.cells.length kc),(.slice la s.undo.length lc),(.slice ma s.answers.length mc),(.slice na s.past.length nc)] 30)) #[I x,I y] 1 (by simp) (by decide) rfl;rw [show (w1.alloc (.cells #[(.slice ka s.cells.length kc),(.slice la s.undo.length lc),(.slice ma s.answers.length mc),(.slice na s.past.length nc)] 30)).heap.size=w1.heap.size+1 by simp] at hlit;have k5:Rd A (fun w=>zar w (.slice (some ⟨w1.heap.size+1,0,none⟩) 1 1) [(x,y)]) ((w1.alloc (.cells #[(.slice ka s.cells.length kc),(.slice la s.undo.length lc),(.slice ma s.answers.length mc),(.slice na s.past.length nc)] 30)).alloc (.cells #[I x,I y] 52)):=(zeg (l:=[(x,y)]) hlit).widen (fun k hk h=>(HA.o k).2 (by omega));obtain ⟨y0,y1,-⟩:=box2 b1';have K1:=zhd k1;have K2:=zhd k2;have K3:=zhd k3;have K4:=zhd k4;have K5:=zhd k5;have B3:=zhd b3;have B2:=zhd b2;have HS3:=zhd hs3;have EW:=zhd ew;have HLE:=zhd hle;have HZ0:=zhd hz0';clear k1 k2 k3 k4 k5 b3 b2 hs3 ew ea hle hz0' hlit b1';go_wp2_with fail
 clear y0 y1;generalize hw3:(w1.alloc (.cells #[(.slice ka s.cells.length kc),(.slice la s.undo.length lc),(.slice ma s.answers.length mc),(.slice na s.past.length nc)] 30)).alloc (.cells #[I x,I y] 52)=w3 at *;clear hw3;obtain ⟨x0,x1,-⟩:=zcf B3.o;refine zgs 6 [none,none,none,some (.inr fun v wx=>∃ n,wx.ownsRow w3.heap.size 52 2 v n (zaC (zbh s.cells [(x,y)]))),none,none] (fun v wx=>∃ n,wx.ownsRow w3.heap.size 52 2 v n (zaC (zbh s.cells [(x,y)]++s.undo))) (by kernel_rfl) (by kernel_rfl) (by kernel_rfl) ?_ (fun v _ _ he ⟨n,h⟩=>⟨n,zai h he⟩) ?_
 ·exact ⟨trivial,trivial,trivial,(fun v _ _ he ⟨n,h⟩=>⟨n,zai h he⟩),trivial,trivial,trivial⟩
 (refine zat (fun K hK=>?_); go_simp; first | refine hK _ ?_ | refine ⟨(fun h=>by cases h),hK _ ?_⟩; clear hK K)
 refine zaK ((.slice ka s.cells.length kc)) rfl (fun w' hw'=>by have q0:=hw'.cell x0; go_simp) ?_;refine zan fun K h=>?_; go_simp; refine h _ ?_; clear h K;(refine zat (fun K hK=>?_); go_simp; first | refine hK _ ?_ | refine ⟨(fun h=>by cases h),hK _ ?_⟩; clear hK K)
 refine zbq _ rfl (fun w' hw' hk=>?_) (fun v14=>?_)
 ·have hle:=hw'.size;clear hk;unfold za0;go_simp
  exact ⟨Ext.refl _,(zrA _ _ s.cells [(x,y)] w' (K1.o.o.ext hw') (K5.o.o.ext hw') (by have:=HS.o.1; omega) (by simp)).mono fun _ _ _ ⟨n,h⟩=>⟨n,zaL h hle⟩⟩
 refine zan fun K h=>?_; go_simp; refine h _ ?_; clear h K;(refine zat (fun K hK=>?_); go_simp; first | refine hK _ ?_ | refine ⟨(fun h=>by cases h),hK _ ?_⟩; clear hK K)
 refine zaK ((.slice la s.undo.length lc)) rfl (fun w' hw'=>by have q0:=hw'.cell x1; go_simp) ?_;refine zan fun K h=>?_; go_simp; refine h _ ?_; clear h K;refine za5 ⟨_,_,rfl,rfl,rfl,fun w' hw' hk=>?_,fun v17 w4 e4 ho4=>?_⟩
 ·obtain ⟨n14,h14⟩:∃ n,w'.ownsRow w3.heap.size 52 2 v14 n (zaC (zbh s.cells [(x,y)])):=hk 14 (by decide)
  have hn14:n14<=1:=by
   have h1:=h14.1;have h2:=zfZ s.cells [(x,y)];rw [zcd] at h1;simp at h2;omega
  obtain ⟨vv,ww,hrun,hoo,hgg⟩:=zdA (P:=Tryz.prog) w' w3.heap.size 26 26 52 i0 _ 2 16 zj2 HI.o hz0 hz1 hz2 rfl (by decide) v14 _ _ h14 (.slice la s.undo.length lc) s.undo.length _ (K2.o.o.ext hw') (zdf _) (by have:=HS.o.2.1; omega) (by decide) hw'.size;exact ⟨vv,ww,zka rfl rfl rfl hrun,hw'.grown hgg (fun j hj=>(h14.lt j hj).1),_,by rw [zcy]; exact hoo⟩
 obtain ⟨n17,ho4⟩:=ho4;clear x0 x1;obtain ⟨va,vc,hvs⟩:=zaD ho4;subst hvs;have hle:=HLE.o;have hz0':=HZ0.o;have hs3:=HS3.o;have k6:Rd A (fun w=>zar w (.slice va n17 vc) (zbh s.cells [(x,y)]++s.undo)) w4:=(zeg ho4).widen (fun k hk h=>(HA.o k).2 (by omega));have d3:=zaV B3.o e4;have d2:=zaV B2.o e4;have ew:=EW.o.trans e4;have K1':=zhd ((K1.o.ext e4).set ng 1 (.slice va n17 vc));have K3':=zhd ((K3.o.ext e4).set ng 1 (.slice va n17 vc));have K4':=zhd ((K4.o.ext e4).set ng 1 (.slice va n17 vc));have K5':=zhd ((K5.o.ext e4).set ng 1 (.slice va n17 vc));have K6':=zhd (k6.set ng 1 (.slice va n17 vc));have hle4:=e4.size;have HLE4:=zhd hle4;clear k6 ho4 hle hz0' hs3 K1 K2 K3 K4 K5 hle4;obtain ⟨x0,x1,x2,x3,f0,f1,f2,f3⟩:=zcf d3;go_wp2_with fail
 clear x0 x1 x2 x3 f0 f1 f2 f3;refine (zpr _ _ s.cells [(x,y)] _ K1'.o.o K5'.o.o (by have:=HS.o.1; omega) (by simp)).to fun r w5 e5 ⟨n5,ho5⟩=>?_;have hle:=HLE.o;have hz0':=HZ0.o;have hs3:=HS3.o;have hle4:=HLE4.o;have k7:=(zeN ho5).widen (B:=A) (fun k hk h=>(HA.o k).2 (by simp at h; omega));obtain ⟨ra,rc,hrs⟩:=zaD ho5;subst hrs
 have c3:(w4.setCell ⟨w1.heap.size,1,none⟩ (.slice va n17 vc)).heap[w1.heap.size]?=some (.cells #[(.slice ka s.cells.length kc),.slice va n17 vc,(.slice ma s.answers.length mc),(.slice na s.past.length nc)] 30 (0,0)):=by
  have:=heap_setCell_same _ _ 1 _ _ (.slice va n17 vc) d3;simpa using this
 have c2:=zef (i:=1) (x:=.slice va n17 vc) d2 (show w.heap.size+1+1≠w1.heap.size by omega);replace ew:=(ew.setCell (p:=⟨w1.heap.size,1,none⟩) (by show w.heap.size<=w1.heap.size; omega) (.slice va n17 vc)).trans e5;have g3:=zaV c3 e5;have g2:=zaV c2 e5;have L3:=zhd (K3'.o.ext e5);have L4:=zhd (K4'.o.ext e5);have L6:=zhd (K6'.o.ext e5);have L7:=zhd k7;have hn1:¬ (w1.heap.size=w.heap.size+1+1):=by omega
 have hn2:¬ (w.heap.size+1+1=w1.heap.size):=by omega
 clear k7 ho5 hle hz0' hs3 hle4 e4 e5 c3 c2 d3 d2 K1' K3' K4' K5' K6';obtain ⟨x0,x1,x2,x3,f0,f1,f2,f3⟩:=zcf g3;obtain ⟨y0,y1,y2,y3,h0,h1,h2,h3⟩:=zcf g2;go_wp2_with fail
 clear x0 x1 x2 x3 f0 f1 f2 f3 y0 y1 y2 y3 h0 h1 h2 h3;have d4:=set4 (zef (i:=0) (x:=.slice ra n5 rc) g2 hn2) (.slice ra n5 rc) (.slice va n17 vc) (.slice ma s.answers.length mc) (.slice na s.past.length nc);obtain ⟨q0,q1,q2,q3,-⟩:=zcf d4;have hle:=HLE.o;have hz0':=HZ0.o;have m2:=zbY (ew.setCell (p:=⟨w1.heap.size,0,none⟩) (by show w.heap.size<=w1.heap.size; omega) (.slice ra n5 rc)) (b:=w.heap.size+1+1) (by omega) (.slice ra n5 rc) (.slice va n17 vc) (.slice ma s.answers.length mc) (.slice na s.past.length nc);refine bodyPost_ret (by simp [results,Tryz.results120,go_sem,q0,q1,q2,q3]; rfl) rfl ?_;refine ⟨_,rfl,m2,Rd.widen (A:=A) (zcM (zjY (s:={ s with cells:=zav s.cells [(x,y)],undo:=zbh s.cells [(x,y)]++s.undo }) ?_ ?_ ?_ ?_)) (fun k _ h=>.inr (by have:=((HA.o k).1 h).1; omega))⟩
 ·exact (L7.o.set ng _ _).set4 n1 _ _ _ _
 ·exact (L6.o.set ng _ _).set4 n1 _ _ _ _
 ·exact (L3.o.set ng _ _).set4 n1 _ _ _ _
 ·exact (L4.o.set ng _ _).set4 n1 _ _ _ _

end Go.Proofs.YtdmipnnfoolelagGreatDoor

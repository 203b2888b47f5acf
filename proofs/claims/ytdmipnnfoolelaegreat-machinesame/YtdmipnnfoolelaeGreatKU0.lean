/- Texts of the proof, merged: N15 S5 N18. -/
import Derived.Test.YtdmipnnfoolelaeGreatKUA
import Derived.Test.YtdmipnnfoolelaeGreatKUW
import Derived.Test.YtdmipnnfoolelaeGreatKUI
import Derived.Test.YtdmipnnfoolelaeGreatKUL
set_option maxHeartbeats 8000000
set_option maxRecDepth 100000

namespace Go.Proofs.YtdmipnnfoolelaeGreat
open Go.RowKit Go.Mk

theorem zlX {w:World} {v:Value} {l:List (List UInt8)} (h:zar 1 zb0 w v l):∃ ao cap,v=.slice ao l.length cap/\l.length<=cap/\cap<=maxLen /\
  ∀ k x,l[k]?=some x->∃ b off bv,ao=some ⟨b,off,none⟩/\w.cell? ⟨b,off+k,none⟩=some bv/\zbb w bv x:=by
 obtain ⟨ao,cap,h1,h2,h3,-,h5⟩:=h.form (by decide)
 refine ⟨ao,cap,h1,h2,h3,fun k x hx=>?_⟩
 obtain ⟨b,off,c,e,-,⟨bv,rfl,hb⟩,hcell⟩:=h5 k x hx
 refine ⟨b,off,bv,e,?_,hb⟩
 have:=hcell 0 bv rfl
 rwa [Nat.mul_one,Nat.add_zero] at this

theorem zhM (u v:Value) (xs:List (List UInt8)) (w:World) (hu:zar 1 zb0 w u xs) (hv:zar 1 zb0 w v xs) :
  Calls Tryz.prog 43 #[u,v] w fun e w'=>e=.returned (.bool true)/\Ext w w':=by
 obtain ⟨ua,uc,rfl,u1,u2,u3⟩:=zlX hu;obtain ⟨va,vc,rfl,v1,v2,v3⟩:=zlX hv;unfold maxLen at u2 v2;have U3:=zhd u3;have V3:=zhd v3;clear u3 v3 hu hv;go_enter Tryz.func43,Tryz.ntmps43
 go_wp2
 go_loopw [13] (fun i wr=>∃ k:Nat,k<=xs.length/\i=I k/\Ext w wr) (fun i _=>xs.length - (intOf i).toNat)
 case atStart=>exact ⟨0,by omega,rfl,Ext.refl _⟩
 case round =>
  obtain ⟨k,hk,rfl,he⟩:=hrel;by_cases hlt:k < xs.length
  ·obtain ⟨x,hx⟩:∃ x,xs[k]?=some x:=⟨xs[k],List.getElem?_eq_getElem hlt⟩;obtain ⟨b,off,v1,rfl,c1,h1⟩:=U3.o k x hx;obtain ⟨b',off',v2,rfl,c2,h2⟩:=V3.o k x hx;clear hx;replace c1:=he.cell c1;replace c2:=he.cell c2;replace h1:=h1.ext he;replace h2:=h2.ext he;go_wp2_with fail
   refine zbj [none,none,none,none,some (.inl (.string ⟨x.toArray⟩)),none,none,none,none,some (.inl (.string ⟨x.toArray⟩)),none] (by kernel_rfl) (by kernel_rfl) ?_ ?_
   ·exact ⟨trivial,trivial,trivial,trivial,trivial,trivial,trivial,trivial,trivial,trivial,trivial,trivial⟩
   iterate 3 (refine zap (fun K hK=>?_); go_simp; first | refine hK _ ?_ | refine ⟨(fun h=>by cases h),hK _ ?_⟩; clear hK K)
   refine zav (v1) rfl (fun w' hw'=>by have q0:=hw'.cell c1; go_simp) ?_;refine zai fun K h=>?_; go_simp; refine h _ ?_; clear h K;refine zdb _ rfl (fun w' hw' hk=>?_) ?_
   ·have hcv:=zds (P:=Tryz.prog) (h1.ext hw') zhQ zu5 zu9;clear hk;unfold zaL;go_simp
    exact ⟨Ext.refl _,rfl⟩
   refine zai fun K h=>?_; go_simp; refine h _ ?_; clear h K;iterate 3 (refine zap (fun K hK=>?_); go_simp; first | refine hK _ ?_ | refine ⟨(fun h=>by cases h),hK _ ?_⟩; clear hK K)
   refine zav (v2) rfl (fun w' hw'=>by have q0:=hw'.cell c2; go_simp) ?_;refine zai fun K h=>?_; go_simp; refine h _ ?_; clear h K;refine zdb _ rfl (fun w' hw' hk=>?_) ?_
   ·have hcv:=zds (P:=Tryz.prog) (h2.ext hw') zhQ zu5 zu9;clear hk;unfold zaL;go_simp
    exact ⟨Ext.refl _,rfl⟩
   refine zai fun K h=>?_; go_simp; refine h _ ?_; clear h K;(refine zap (fun K hK=>?_); go_simp; first | refine hK _ ?_ | refine ⟨(fun h=>by cases h),hK _ ?_⟩; clear hK K)
   refine zaM ?_;intro wn hen _;clear c1 c2 h1 h2;go_wp2
   go_roundw
   case rel=>exact ⟨k+1,by omega,by go_num,he.trans hen⟩
   case measure=>simp [intOf]; omega
  ·go_wp2
   go_ret
   exact ⟨rfl,he⟩

theorem zj3 (v:Sv) (x1 x9 y1 y9:Value) (w:World) (hx:zar 1 zb0 w x1 v.box/\zax w x9 v.plan) (hy:zar 1 zb0 w y1 v.box/\zax w y9 v.plan) :
  Calls Tryz.prog 24 #[.agg (zdy v x1 x9).toArray,.agg (zdy v y1 y9).toArray] w fun e w'=>e=.returned (.bool true)/\Ext w w':=by
 obtain ⟨gen,bl,busy,⟨nc,nt,⟨nk,na,no,nn⟩⟩,pl,⟨se,sn⟩⟩:=v;simp only [zdy] at *;have hst:Tryz.prog.stoodInHeld 36=false:=by kernel_rfl
 have hgd:Tryz.prog.eqGuardType Tryz.prog.depth 36=false:=by kernel_rfl
 have hst2:Tryz.prog.stoodInHeld 39=false:=by kernel_rfl
 have hgd2:Tryz.prog.eqGuardType Tryz.prog.depth 39=false:=by kernel_rfl
 have HX:=zhd hx;have HY:=zhd hy;clear hx hy;have EW:=zhd (Ext.refl w);go_enter Tryz.func24,Tryz.ntmps24
 go_wp2_with (with_reducible first | refine zdK 44 ?_ | refine zdK 41 ?_ | refine zdK 31 ?_ | refine zdK 63 ?_ | refine zeb ?_ | refine zmp ?_ | refine ziV ?_ | refine ziU ?_ | refine zlL ?_)
 refine zaj rfl 41 (.tmp 0) rfl #[I gen,x1,.bool busy,I nc,I nt,I nk,I na,I no,I nn,x9,I se,I sn] rfl (fun b0 w1_ M1=>?_);have zab:=zhd M1.o.block;go_wp2_with (with_reducible first | refine zdK 44 ?_ | refine zdK 41 ?_ | refine zdK 31 ?_ | refine zdK 63 ?_ | refine zeb ?_ | refine zmp ?_ | refine ziV ?_ | refine ziU ?_ | refine zlL ?_)
 refine zaj rfl 41 (.tmp 1) rfl #[I gen,y1,.bool busy,I nc,I nt,I nk,I na,I no,I nn,y9,I se,I sn] rfl (fun b1 w2_ M2=>?_);have zad:=zhd M2.o.block;replace zab:=zhd (M2.o.old zab.o);have c0:=zaa (i:=0) zab.o rfl;have d0:=zaa (i:=0) zad.o rfl;have c1:=zaa (i:=1) zab.o rfl;have d1:=zaa (i:=1) zad.o rfl;have c2:=zaa (i:=2) zab.o rfl;have d2:=zaa (i:=2) zad.o rfl;have c3:=zaa (i:=3) zab.o rfl;have d3:=zaa (i:=3) zad.o rfl;have c4:=zaa (i:=4) zab.o rfl;have d4:=zaa (i:=4) zad.o rfl;have c5:=zaa (i:=5) zab.o rfl;have d5:=zaa (i:=5) zad.o rfl;have c6:=zaa (i:=6) zab.o rfl;have d6:=zaa (i:=6) zad.o rfl;have c7:=zaa (i:=7) zab.o rfl;have d7:=zaa (i:=7) zad.o rfl;have c8:=zaa (i:=8) zab.o rfl;have d8:=zaa (i:=8) zad.o rfl;have c9:=zaa (i:=9) zab.o rfl;have d9:=zaa (i:=9) zad.o rfl;have c10:=zaa (i:=10) zab.o rfl;have d10:=zaa (i:=10) zad.o rfl;have c11:=zaa (i:=11) zab.o rfl;have d11:=zaa (i:=11) zad.o rfl;go_wp2_with fail
 clear c0 c1 c2 c3 c4 c5 c6 c7 c8 c9 c10 c11 d0 d1 d2 d3 d4 d5 d6 d7 d8 d9 d10 d11;replace EW:=zhd ((zhd (EW.o.trans M1.o.ext)).o.trans M2.o.ext);refine Calls.exts (zhM _ _ bl w2_ (HX.o.1.ext zcX EW.o) (HY.o.1.ext zcX EW.o)) (fun wa ea=>?_);replace zab:=zhd (zbS zab.o ea);have c0:=zaa (i:=0) zab.o rfl;replace zad:=zhd (zbS zad.o ea);have d0:=zaa (i:=0) zad.o rfl;have c1:=zaa (i:=1) zab.o rfl;have d1:=zaa (i:=1) zad.o rfl;have c2:=zaa (i:=2) zab.o rfl;have d2:=zaa (i:=2) zad.o rfl;have c3:=zaa (i:=3) zab.o rfl;have d3:=zaa (i:=3) zad.o rfl;have c4:=zaa (i:=4) zab.o rfl;have d4:=zaa (i:=4) zad.o rfl;have c5:=zaa (i:=5) zab.o rfl;have d5:=zaa (i:=5) zad.o rfl;have c6:=zaa (i:=6) zab.o rfl;have d6:=zaa (i:=6) zad.o rfl;have c7:=zaa (i:=7) zab.o rfl;have d7:=zaa (i:=7) zad.o rfl;have c8:=zaa (i:=8) zab.o rfl;have d8:=zaa (i:=8) zad.o rfl;have c9:=zaa (i:=9) zab.o rfl;have d9:=zaa (i:=9) zad.o rfl;have c10:=zaa (i:=10) zab.o rfl;have d10:=zaa (i:=10) zad.o rfl;have c11:=zaa (i:=11) zab.o rfl;have d11:=zaa (i:=11) zad.o rfl;go_wp2_with fail
 clear c0 c1 c2 c3 c4 c5 c6 c7 c8 c9 c10 c11 d0 d1 d2 d3 d4 d5 d6 d7 d8 d9 d10 d11;replace EW:=zhd (EW.o.trans ea);refine (ze8 rfl (HX.o.2.ext EW.o) (HY.o.2.ext EW.o)).to fun r wb eb hr=>?_;subst hr;replace zab:=zhd (zbS zab.o eb);have c0:=zaa (i:=0) zab.o rfl;replace zad:=zhd (zbS zad.o eb);have d0:=zaa (i:=0) zad.o rfl;have c1:=zaa (i:=1) zab.o rfl;have d1:=zaa (i:=1) zad.o rfl;have c2:=zaa (i:=2) zab.o rfl;have d2:=zaa (i:=2) zad.o rfl;have c3:=zaa (i:=3) zab.o rfl;have d3:=zaa (i:=3) zad.o rfl;have c4:=zaa (i:=4) zab.o rfl;have d4:=zaa (i:=4) zad.o rfl;have c5:=zaa (i:=5) zab.o rfl;have d5:=zaa (i:=5) zad.o rfl;have c6:=zaa (i:=6) zab.o rfl;have d6:=zaa (i:=6) zad.o rfl;have c7:=zaa (i:=7) zab.o rfl;have d7:=zaa (i:=7) zad.o rfl;have c8:=zaa (i:=8) zab.o rfl;have d8:=zaa (i:=8) zad.o rfl;have c9:=zaa (i:=9) zab.o rfl;have d9:=zaa (i:=9) zad.o rfl;have c10:=zaa (i:=10) zab.o rfl;have d10:=zaa (i:=10) zad.o rfl;have c11:=zaa (i:=11) zab.o rfl;have d11:=zaa (i:=11) zad.o rfl;go_wp2
 go_ret
 replace EW:=zhd (EW.o.trans eb);exact ⟨rfl,EW.o⟩

open Go.RowKit Go.Mk

theorem zhw {w:World} {v:Value} {l:List Rq} (h:zar 6 zg8 w v l):∃ ao cap,v=.slice ao l.length cap/\l.length<=cap/\cap<=maxLen /\
  ∀ k r,l[k]?=some r->∃ b off,ao=some ⟨b,off,none⟩/\w.cell? ⟨b,off+k * 6,none⟩=some (I r.client)/\w.cell? ⟨b,off+k * 6+1,none⟩=some (I r.token)/\w.cell? ⟨b,off+k * 6+2,none⟩=some (I r.call.kind) /\
   w.cell? ⟨b,off+k * 6+3,none⟩=some (I r.call.name)/\w.cell? ⟨b,off+k * 6+4,none⟩=some (I r.call.other)/\w.cell? ⟨b,off+k * 6+5,none⟩=some (I r.call.n):=(zdF.1 h).form

theorem zla (c u a p c' u' a' p':Value) (s:St) (w:World) (h:zb8 w [c,u,a,p] s) (h':zb8 w [c',u',a',p'] s) :
  Calls Tryz.prog 23 #[.agg #[c,u,a,p],.agg #[c',u',a',p']] w fun e w'=>e=.returned (.bool true)/\Ext w w':=by
 obtain ⟨h1,h2,h3,h4⟩:=zcp.1 h;obtain ⟨k1,k2,k3,k4⟩:=zcp.1 h';clear h h';obtain ⟨aa,ac,rfl,g1,g2,g3⟩:=zfp h3;obtain ⟨ba,bc,rfl,_,f2,f3⟩:=zfp k3;obtain ⟨pa,pc,rfl,_,m2,m3⟩:=zhw h4;obtain ⟨qa,qc,rfl,_,n2,n3⟩:=zhw k4;unfold maxLen at g2 f2 m2 n2;clear h3 k3 h4 k4;have e0:Ext w ((w.alloc (.cells #[c,u,.slice aa s.answers.length ac,.slice pa s.past.length pc] 31)).alloc (.cells #[c',u',.slice ba s.answers.length bc,.slice qa s.past.length qc] 31)):=((Ext.refl w).alloc _).alloc _;have HB:=zhd (fun wx (h:Ext ((w.alloc (.cells #[c,u,.slice aa s.answers.length ac,.slice pa s.past.length pc] 31)).alloc (.cells #[c',u',.slice ba s.answers.length bc,.slice qa s.past.length qc] 31)) wx)=>And.intro (zcT h) (zcm h));have hst:Tryz.prog.stoodInHeld 99=false:=by kernel_rfl
 have hgd:Tryz.prog.eqGuardType Tryz.prog.depth 99=false:=by kernel_rfl
 have hst2:Tryz.prog.stoodInHeld 36=false:=by kernel_rfl
 have hgd2:Tryz.prog.eqGuardType Tryz.prog.depth 36=false:=by kernel_rfl
 have G3:=zhd g3;have F3:=zhd f3;have M3:=zhd m3;have N3:=zhd n3;clear g3 f3 m3 n3;generalize s.answers=al at *;generalize s.past=pl at *;go_enter Tryz.func23,Tryz.ntmps23
 go_wp2_with fail
 generalize hw0:(w.alloc (.cells #[c,u,.slice aa al.length ac,.slice pa pl.length pc] 31)).alloc (.cells #[c',u',.slice ba al.length bc,.slice qa pl.length qc] 31)=w0 at *;clear hw0;refine (zlT rfl (h1.ext e0) (k1.ext e0)).to fun r w1 e1 hr=>?_;subst hr;obtain ⟨b0,b1⟩:=HB.o w1 e1;obtain ⟨x0,x1,x2,x3,-⟩:=box4 b0;obtain ⟨y0,y1,y2,y3,-⟩:=box4 b1;go_wp2_with fail
 clear x0 x1 x2 x3 y0 y1 y2 y3 b0 b1;refine (ze8 rfl (h2.ext (e0.trans e1)) (k2.ext (e0.trans e1))).to fun r w2 e2 hr=>?_;subst hr;replace e2:=e1.trans e2;clear e1 h1 h2 k1 k2;obtain ⟨b0,b1⟩:=HB.o w2 e2;obtain ⟨x0,x1,x2,x3,-⟩:=box4 b0;obtain ⟨y0,y1,y2,y3,-⟩:=box4 b1;go_wp2
 clear x0 x1 x2 x3 y0 y1 y2 y3 b0 b1;go_loopw [42] (fun i wr=>∃ k:Nat,k<=al.length/\i=I k/\Ext w0 wr) (fun i _=>al.length - (intOf i).toNat)
 case atStart=>exact ⟨0,by omega,rfl,e2⟩
 case round =>
  obtain ⟨k,hk,rfl,he⟩:=hrel;by_cases hlt:k < al.length
  ·obtain ⟨x,hx⟩:∃ x,al[k]?=some x:=⟨al[k],List.getElem?_eq_getElem hlt⟩;obtain ⟨b,off,rfl,c0,c1,c2,c3⟩:=G3.o k x hx;obtain ⟨b',off',rfl,d0,d1,d2,d3⟩:=F3.o k x hx;clear hx;have mr:Ext w wr:=e0.trans he;replace c0:=mr.cell c0;replace c1:=mr.cell c1;replace c2:=mr.cell c2;replace c3:=mr.cell c3;replace d0:=mr.cell d0;replace d1:=mr.cell d1;replace d2:=mr.cell d2;replace d3:=mr.cell d3;obtain ⟨b0,b1⟩:=HB.o wr he;obtain ⟨x0,x1,x2,x3,-⟩:=box4 b0;obtain ⟨y0,y1,y2,y3,-⟩:=box4 b1;obtain ⟨xc,xt,⟨xe,xn⟩⟩:=x;go_wp2_with fail
   refine zbj [none,none,none,none,none,none,none,none,none,none,none] (by kernel_rfl) (by kernel_rfl) ?_ ?_
   ·exact ⟨trivial,trivial,trivial,trivial,trivial,trivial,trivial,trivial,trivial,trivial,trivial,trivial⟩
   (refine zap (fun K hK=>?_); go_simp; first | refine hK _ ?_ | refine ⟨(fun h=>by cases h),hK _ ?_⟩; clear hK K)
   refine zav (.slice (some ⟨b,off,none⟩) al.length ac) rfl (fun w' hw'=>by have q0:=hw'.cell x2; go_simp) ?_;refine zai fun K h=>?_; go_simp; refine h _ ?_; clear h K;iterate 2 (refine zap (fun K hK=>?_); go_simp; first | refine hK _ ?_ | refine ⟨(fun h=>by cases h),hK _ ?_⟩; clear hK K)
   refine zav (.agg #[I xc,I xt,I xe,I xn]) rfl (fun w' hw'=>by have q0:=hw'.cell c0; have q1:=hw'.cell c1; have q2:=hw'.cell c2; have q3:=hw'.cell c3; go_simp) ?_;refine zai fun K h=>?_; go_simp; refine h _ ?_; clear h K;(refine zap (fun K hK=>?_); go_simp; first | refine hK _ ?_ | refine ⟨(fun h=>by cases h),hK _ ?_⟩; clear hK K)
   refine zav (.slice (some ⟨b',off',none⟩) al.length bc) rfl (fun w' hw'=>by have q0:=hw'.cell y2; go_simp) ?_;refine zai fun K h=>?_; go_simp; refine h _ ?_; clear h K;iterate 2 (refine zap (fun K hK=>?_); go_simp; first | refine hK _ ?_ | refine ⟨(fun h=>by cases h),hK _ ?_⟩; clear hK K)
   refine zav (.agg #[I xc,I xt,I xe,I xn]) rfl (fun w' hw'=>by have q0:=hw'.cell d0; have q1:=hw'.cell d1; have q2:=hw'.cell d2; have q3:=hw'.cell d3; go_simp) ?_;refine zai fun K h=>?_; go_simp; refine h _ ?_; clear h K;(refine zap (fun K hK=>?_); go_simp; first | refine hK _ ?_ | refine ⟨(fun h=>by cases h),hK _ ?_⟩; clear hK K)
   refine zaM ?_;intro wn hen _;clear c0 c1 c2 c3 d0 d1 d2 d3 x0 x1 x2 x3 y0 y1 y2 y3 b0 b1;go_wp2
   go_roundw
   case rel=>exact ⟨k+1,by omega,by go_num,he.trans hen⟩
   case measure=>simp [intOf]; omega
  ·have mr:Ext w wr:=e0.trans he;obtain ⟨b0,b1⟩:=HB.o wr he;obtain ⟨x0,x1,x2,x3,-⟩:=box4 b0;clear b0 b1;go_wp2
   clear x0 x1 x2 x3;go_loopw [60] (fun i wr=>∃ k:Nat,k<=pl.length/\i=I k/\Ext w0 wr) (fun i _=>pl.length - (intOf i).toNat)
   case atStart=>exact ⟨0,by omega,rfl,he⟩
   case round =>
    clear he mr;obtain ⟨k,hk,rfl,he⟩:=hrel;by_cases hlt:k < pl.length
    ·obtain ⟨x,hx⟩:∃ x,pl[k]?=some x:=⟨pl[k],List.getElem?_eq_getElem hlt⟩;obtain ⟨b,off,rfl,c0,c1,c2,c3,c4,c5⟩:=M3.o k x hx;obtain ⟨b',off',rfl,d0,d1,d2,d3,d4,d5⟩:=N3.o k x hx;clear hx;have mr:Ext w wr:=e0.trans he;replace c0:=mr.cell c0;replace c1:=mr.cell c1;replace c2:=mr.cell c2;replace c3:=mr.cell c3;replace c4:=mr.cell c4;replace c5:=mr.cell c5;replace d0:=mr.cell d0;replace d1:=mr.cell d1;replace d2:=mr.cell d2;replace d3:=mr.cell d3;replace d4:=mr.cell d4;replace d5:=mr.cell d5;obtain ⟨b0,b1⟩:=HB.o wr he;obtain ⟨x0,x1,x2,x3,-⟩:=box4 b0;obtain ⟨y0,y1,y2,y3,-⟩:=box4 b1;obtain ⟨xc,xt,⟨xk,xa,xo,xn⟩⟩:=x;go_wp2_with fail
     refine zbj [none,none,none,none,none,none,none,none,none,none,none] (by kernel_rfl) (by kernel_rfl) ?_ ?_
     ·exact ⟨trivial,trivial,trivial,trivial,trivial,trivial,trivial,trivial,trivial,trivial,trivial,trivial⟩
     (refine zap (fun K hK=>?_); go_simp; first | refine hK _ ?_ | refine ⟨(fun h=>by cases h),hK _ ?_⟩; clear hK K)
     refine zav (.slice (some ⟨b,off,none⟩) pl.length pc) rfl (fun w' hw'=>by have q0:=hw'.cell x3; go_simp) ?_;refine zai fun K h=>?_; go_simp; refine h _ ?_; clear h K;iterate 2 (refine zap (fun K hK=>?_); go_simp; first | refine hK _ ?_ | refine ⟨(fun h=>by cases h),hK _ ?_⟩; clear hK K)
     refine zav (.agg #[I xc,I xt,I xk,I xa,I xo,I xn]) rfl (fun w' hw'=>by have q0:=hw'.cell c0; have q1:=hw'.cell c1; have q2:=hw'.cell c2; have q3:=hw'.cell c3; have q4:=hw'.cell c4; have q5:=hw'.cell c5; go_simp) ?_;refine zai fun K h=>?_; go_simp; refine h _ ?_; clear h K;(refine zap (fun K hK=>?_); go_simp; first | refine hK _ ?_ | refine ⟨(fun h=>by cases h),hK _ ?_⟩; clear hK K)
     refine zav (.slice (some ⟨b',off',none⟩) pl.length qc) rfl (fun w' hw'=>by have q0:=hw'.cell y3; go_simp) ?_;refine zai fun K h=>?_; go_simp; refine h _ ?_; clear h K;iterate 2 (refine zap (fun K hK=>?_); go_simp; first | refine hK _ ?_ | refine ⟨(fun h=>by cases h),hK _ ?_⟩; clear hK K)
     refine zav (.agg #[I xc,I xt,I xk,I xa,I xo,I xn]) rfl (fun w' hw'=>by have q0:=hw'.cell d0; have q1:=hw'.cell d1; have q2:=hw'.cell d2; have q3:=hw'.cell d3; have q4:=hw'.cell d4; have q5:=hw'.cell d5; go_simp) ?_;refine zai fun K h=>?_; go_simp; refine h _ ?_; clear h K;(refine zap (fun K hK=>?_); go_simp; first | refine hK _ ?_ | refine ⟨(fun h=>by cases h),hK _ ?_⟩; clear hK K)
     refine zaM ?_;intro wn hen _;clear c0 c1 c2 c3 c4 c5 d0 d1 d2 d3 d4 d5 x0 x1 x2 x3 y0 y1 y2 y3 b0 b1;go_wp2
     go_roundw
     case rel=>exact ⟨k+1,by omega,by go_num,he.trans hen⟩
     case measure=>simp [intOf]; omega
    ·go_wp2
     go_ret
     exact ⟨rfl,e0.trans he⟩

open Go.RowKit Go.Mk

theorem zgz {w:World} {v:Value} {l:List Rp} (h:zar 2 zdY w v l):∃ ao cap,v=.slice ao l.length cap/\l.length<=cap/\cap<=maxLen /\
  ∀ k x,l[k]?=some x->∃ b off,ao=some ⟨b,off,none⟩/\w.cell? ⟨b,off+k * 2,none⟩=some (I x.err)/\w.cell? ⟨b,off+k * 2+1,none⟩=some (I x.n):=by
 obtain ⟨ao,cap,h1,h2,h3,-,h5⟩:=h.form (by decide)
 refine ⟨ao,cap,h1,h2,h3,fun k x hx=>?_⟩
 obtain ⟨b,off,c,e,-,hc,hcell⟩:=h5 k x hx
 have hc:c=[I x.err,I x.n]:=hc
 subst hc
 exact ⟨b,off,e,hcell 0 _ rfl,by rw [Nat.add_assoc]; exact hcell 1 _ rfl⟩
theorem zoM (u v:Value) (xs:List Rp) (w:World) (hu:zar 2 zdY w u xs) (hv:zar 2 zdY w v xs) :
  Calls Tryz.prog 18 #[u,v] w fun e w'=>e=.returned (.bool true)/\Ext w w':=by
 obtain ⟨ua,uc,rfl,u1,u2,u3⟩:=zgz hu;obtain ⟨va,vc,rfl,v1,v2,v3⟩:=zgz hv;unfold maxLen at u2 v2;have U3:=zhd u3;have V3:=zhd v3;clear u3 v3 hu hv;have hst:Tryz.prog.stoodInHeld 39=false:=by kernel_rfl
 have hgd:Tryz.prog.eqGuardType Tryz.prog.depth 39=false:=by kernel_rfl
 go_enter Tryz.func18,Tryz.ntmps18
 go_wp2
 go_loopw [13] (fun i wr=>∃ k:Nat,k<=xs.length/\i=I k/\Ext w wr) (fun i _=>xs.length - (intOf i).toNat)
 case atStart=>exact ⟨0,by omega,rfl,Ext.refl _⟩
 case round =>
  obtain ⟨k,hk,rfl,he⟩:=hrel;by_cases hlt:k < xs.length
  ·obtain ⟨x,hx⟩:∃ x,xs[k]?=some x:=⟨xs[k],List.getElem?_eq_getElem hlt⟩;obtain ⟨b,off,rfl,c0,c1⟩:=U3.o k x hx;obtain ⟨b',off',rfl,d0,d1⟩:=V3.o k x hx;clear hx;obtain ⟨xe,xn⟩:=x;replace c0:=he.cell c0;replace d0:=he.cell d0;replace c1:=he.cell c1;replace d1:=he.cell d1;go_wp2_with fail
   refine zbj [none,none,none,none,none,none,none,none,none] (by kernel_rfl) (by kernel_rfl) ?_ ?_
   ·exact ⟨trivial,trivial,trivial,trivial,trivial,trivial,trivial,trivial,trivial,trivial⟩
   iterate 3 (refine zap (fun K hK=>?_); go_simp; first | refine hK _ ?_ | refine ⟨(fun h=>by cases h),hK _ ?_⟩; clear hK K)
   refine zav (.agg #[I xe,I xn]) rfl (fun w' hw'=>by have q0:=hw'.cell c0; have q1:=hw'.cell c1; go_simp) ?_;refine zai fun K h=>?_; go_simp; refine h _ ?_; clear h K;iterate 3 (refine zap (fun K hK=>?_); go_simp; first | refine hK _ ?_ | refine ⟨(fun h=>by cases h),hK _ ?_⟩; clear hK K)
   refine zav (.agg #[I xe,I xn]) rfl (fun w' hw'=>by have q0:=hw'.cell d0; have q1:=hw'.cell d1; go_simp) ?_;refine zai fun K h=>?_; go_simp; refine h _ ?_; clear h K;(refine zap (fun K hK=>?_); go_simp; first | refine hK _ ?_ | refine ⟨(fun h=>by cases h),hK _ ?_⟩; clear hK K)
   refine zaM ?_;intro wn hen _;clear c0 c1 d0 d1;go_wp2
   go_roundw
   case rel=>exact ⟨k+1,by omega,by go_num,he.trans hen⟩
   case measure=>simp [intOf]; omega
  ·go_wp2
   go_ret
   exact ⟨rfl,he⟩

theorem zgr {w:World} {v:Value} {l:List Cl} (h:zar 4 zdk w v l):∃ ao cap,v=.slice ao l.length cap/\l.length<=cap/\cap<=maxLen /\
  ∀ k x,l[k]?=some x->∃ b off,ao=some ⟨b,off,none⟩/\w.cell? ⟨b,off+k * 4,none⟩=some (I x.kind)/\w.cell? ⟨b,off+k * 4+1,none⟩=some (I x.name)/\w.cell? ⟨b,off+k * 4+2,none⟩=some (I x.other)/\w.cell? ⟨b,off+k * 4+3,none⟩=some (I x.n):=by
 obtain ⟨ao,cap,h1,h2,h3,-,h5⟩:=h.form (by decide)
 refine ⟨ao,cap,h1,h2,h3,fun k x hx=>?_⟩
 obtain ⟨b,off,c,e,-,hc,hcell⟩:=h5 k x hx
 have hc:c=[I x.kind,I x.name,I x.other,I x.n]:=hc
 subst hc
 exact ⟨b,off,e,hcell 0 _ rfl,by rw [Nat.add_assoc]; exact hcell 1 _ rfl,by rw [Nat.add_assoc]; exact hcell 2 _ rfl,by rw [Nat.add_assoc]; exact hcell 3 _ rfl⟩
theorem zq5 (u v:Value) (xs:List Cl) (w:World) (hu:zar 4 zdk w u xs) (hv:zar 4 zdk w v xs) :
  Calls Tryz.prog 44 #[u,v] w fun e w'=>e=.returned (.bool true)/\Ext w w':=by
 obtain ⟨ua,uc,rfl,u1,u2,u3⟩:=zgr hu;obtain ⟨va,vc,rfl,v1,v2,v3⟩:=zgr hv;unfold maxLen at u2 v2;have U3:=zhd u3;have V3:=zhd v3;clear u3 v3 hu hv;have hst:Tryz.prog.stoodInHeld 34=false:=by kernel_rfl
 have hgd:Tryz.prog.eqGuardType Tryz.prog.depth 34=false:=by kernel_rfl
 go_enter Tryz.func44,Tryz.ntmps44
 go_wp2
 go_loopw [13] (fun i wr=>∃ k:Nat,k<=xs.length/\i=I k/\Ext w wr) (fun i _=>xs.length - (intOf i).toNat)
 case atStart=>exact ⟨0,by omega,rfl,Ext.refl _⟩
 case round =>
  obtain ⟨k,hk,rfl,he⟩:=hrel;by_cases hlt:k < xs.length
  ·obtain ⟨x,hx⟩:∃ x,xs[k]?=some x:=⟨xs[k],List.getElem?_eq_getElem hlt⟩;obtain ⟨b,off,rfl,c0,c1,c2,c3⟩:=U3.o k x hx;obtain ⟨b',off',rfl,d0,d1,d2,d3⟩:=V3.o k x hx;clear hx;obtain ⟨xk,xa,xo,xn⟩:=x;replace c0:=he.cell c0;replace d0:=he.cell d0;replace c1:=he.cell c1;replace d1:=he.cell d1;replace c2:=he.cell c2;replace d2:=he.cell d2;replace c3:=he.cell c3;replace d3:=he.cell d3;go_wp2_with fail
   refine zbj [none,none,none,none,none,none,none,none,none] (by kernel_rfl) (by kernel_rfl) ?_ ?_
   ·exact ⟨trivial,trivial,trivial,trivial,trivial,trivial,trivial,trivial,trivial,trivial⟩
   iterate 3 (refine zap (fun K hK=>?_); go_simp; first | refine hK _ ?_ | refine ⟨(fun h=>by cases h),hK _ ?_⟩; clear hK K)
   refine zav (.agg #[I xk,I xa,I xo,I xn]) rfl (fun w' hw'=>by have q0:=hw'.cell c0; have q1:=hw'.cell c1; have q2:=hw'.cell c2; have q3:=hw'.cell c3; go_simp) ?_;refine zai fun K h=>?_; go_simp; refine h _ ?_; clear h K;iterate 3 (refine zap (fun K hK=>?_); go_simp; first | refine hK _ ?_ | refine ⟨(fun h=>by cases h),hK _ ?_⟩; clear hK K)
   refine zav (.agg #[I xk,I xa,I xo,I xn]) rfl (fun w' hw'=>by have q0:=hw'.cell d0; have q1:=hw'.cell d1; have q2:=hw'.cell d2; have q3:=hw'.cell d3; go_simp) ?_;refine zai fun K h=>?_; go_simp; refine h _ ?_; clear h K;(refine zap (fun K hK=>?_); go_simp; first | refine hK _ ?_ | refine ⟨(fun h=>by cases h),hK _ ?_⟩; clear hK K)
   refine zaM ?_;intro wn hen _;clear c0 c1 c2 c3 d0 d1 d2 d3;go_wp2
   go_roundw
   case rel=>exact ⟨k+1,by omega,by go_num,he.trans hen⟩
   case measure=>simp [intOf]; omega
  ·go_wp2
   go_ret
   exact ⟨rfl,he⟩

theorem zjS (c:Cn) (x1 x2 x3 y1 y2 y3:Value) (w:World) (hx:zcx w [x1,I c.at_,.bool c.sent,I c.gen,x2,x3] c) (hy:zcx w [y1,I c.at_,.bool c.sent,I c.gen,y2,y3] c) :
  Calls Tryz.prog 25 #[.agg #[x1,I c.at_,.bool c.sent,I c.gen,x2,x3],.agg #[y1,I c.at_,.bool c.sent,I c.gen,y2,y3]] w fun e w'=>e=.returned (.bool true)/\Ext w w':=by
 have HX:=zhd (zjy.1 hx);have HY:=zhd (zjy.1 hy);clear hx hy;obtain ⟨cl,at_,sent,gen,bl,gl⟩:=c;have EW:=zhd (Ext.refl w);go_enter Tryz.func25,Tryz.ntmps25
 go_wp2_with (with_reducible refine zT ?_)
 refine zaj rfl 63 (.tmp 0) rfl #[x1,I at_,.bool sent,I gen,x2,x3] rfl (fun b0 w1_ M1=>?_);have zab:=zmb M1;go_wp2_with (with_reducible refine zT ?_)
 refine zaj rfl 63 (.tmp 1) rfl #[y1,I at_,.bool sent,I gen,y2,y3] rfl (fun b1 w2_ M2=>?_);have zad:=zmb M2;replace zab:=zmo M2 zab;have c0:=zaa (i:=0) zab.o rfl;have d0:=zaa (i:=0) zad.o rfl;have c1:=zaa (i:=1) zab.o rfl;have d1:=zaa (i:=1) zad.o rfl;have c2:=zaa (i:=2) zab.o rfl;have d2:=zaa (i:=2) zad.o rfl;have c3:=zaa (i:=3) zab.o rfl;have d3:=zaa (i:=3) zad.o rfl;have c4:=zaa (i:=4) zab.o rfl;have d4:=zaa (i:=4) zad.o rfl;have c5:=zaa (i:=5) zab.o rfl;have d5:=zaa (i:=5) zad.o rfl;go_wp2_with fail
 clear c0 c1 c2 c3 c4 c5 d0 d1 d2 d3 d4 d5;replace EW:=zet (zet EW M1) M2;refine Calls.exts (zq5 _ _ cl w2_ (HX.o.1.ext zdA EW.o) (HY.o.1.ext zdA EW.o)) (fun wa ea=>?_);replace zab:=zbx zab ea;have c0:=zaa (i:=0) zab.o rfl;replace zad:=zbx zad ea;have d0:=zaa (i:=0) zad.o rfl;have c1:=zaa (i:=1) zab.o rfl;have d1:=zaa (i:=1) zad.o rfl;have c2:=zaa (i:=2) zab.o rfl;have d2:=zaa (i:=2) zad.o rfl;have c3:=zaa (i:=3) zab.o rfl;have d3:=zaa (i:=3) zad.o rfl;have c4:=zaa (i:=4) zab.o rfl;have d4:=zaa (i:=4) zad.o rfl;have c5:=zaa (i:=5) zab.o rfl;have d5:=zaa (i:=5) zad.o rfl;go_wp2_with fail
 clear c0 c1 c2 c3 c4 c5 d0 d1 d2 d3 d4 d5;replace EW:=zhd (EW.o.trans ea);refine Calls.exts (zhM _ _ bl wa (HX.o.2.1.ext zcX EW.o) (HY.o.2.1.ext zcX EW.o)) (fun wb eb=>?_);replace zab:=zbx zab eb;have c0:=zaa (i:=0) zab.o rfl;replace zad:=zbx zad eb;have d0:=zaa (i:=0) zad.o rfl;have c1:=zaa (i:=1) zab.o rfl;have d1:=zaa (i:=1) zad.o rfl;have c2:=zaa (i:=2) zab.o rfl;have d2:=zaa (i:=2) zad.o rfl;have c3:=zaa (i:=3) zab.o rfl;have d3:=zaa (i:=3) zad.o rfl;have c4:=zaa (i:=4) zab.o rfl;have d4:=zaa (i:=4) zad.o rfl;have c5:=zaa (i:=5) zab.o rfl;have d5:=zaa (i:=5) zad.o rfl;go_wp2_with fail
 clear c0 c1 c2 c3 c4 c5 d0 d1 d2 d3 d4 d5;replace EW:=zhd (EW.o.trans eb);refine Calls.exts (zoM _ _ gl wb (HX.o.2.2.ext zeJ EW.o) (HY.o.2.2.ext zeJ EW.o)) (fun wc ec=>?_);replace zab:=zbx zab ec;have c0:=zaa (i:=0) zab.o rfl;replace zad:=zbx zad ec;have d0:=zaa (i:=0) zad.o rfl;have c1:=zaa (i:=1) zab.o rfl;have d1:=zaa (i:=1) zad.o rfl;have c2:=zaa (i:=2) zab.o rfl;have d2:=zaa (i:=2) zad.o rfl;have c3:=zaa (i:=3) zab.o rfl;have d3:=zaa (i:=3) zad.o rfl;have c4:=zaa (i:=4) zab.o rfl;have d4:=zaa (i:=4) zad.o rfl;have c5:=zaa (i:=5) zab.o rfl;have d5:=zaa (i:=5) zad.o rfl;go_wp2
 go_ret
 replace EW:=zhd (EW.o.trans ec);exact ⟨rfl,EW.o⟩

theorem zlO {w:World} {v:Value} {l:List Cn} (h:zar 6 zcx w v l):∃ ao cap,v=.slice ao l.length cap/\l.length<=cap/\cap<=maxLen /\
  ∀ k x,l[k]?=some x->∃ b off x1 x2 x3,ao=some ⟨b,off,none⟩/\w.cell? ⟨b,off+k * 6,none⟩=some x1/\w.cell? ⟨b,off+k * 6+1,none⟩=some (I x.at_)/\w.cell? ⟨b,off+k * 6+2,none⟩=some (.bool x.sent)/\w.cell? ⟨b,off+k * 6+3,none⟩=some (I x.gen) /\
   w.cell? ⟨b,off+k * 6+4,none⟩=some x2/\w.cell? ⟨b,off+k * 6+5,none⟩=some x3/\zcx w [x1,I x.at_,.bool x.sent,I x.gen,x2,x3] x:=by
 obtain ⟨ao,cap,h1,h2,h3,-,h5⟩:=h.form (by decide)
 refine ⟨ao,cap,h1,h2,h3,fun k x hx=>?_⟩
 obtain ⟨b,off,c,e,-,hc,hcell⟩:=h5 k x hx
 obtain ⟨x1,x2,x3,rfl,hc'⟩:=hc
 exact ⟨b,off,x1,x2,x3,e,hcell 0 _ rfl,by rw [Nat.add_assoc]; exact hcell 1 _ rfl,by rw [Nat.add_assoc]; exact hcell 2 _ rfl,by rw [Nat.add_assoc]; exact hcell 3 _ rfl,by rw [Nat.add_assoc]; exact hcell 4 _ rfl,by rw [Nat.add_assoc]; exact hcell 5 _ rfl,x1,x2,x3,rfl,hc'⟩

theorem zgt (m:Mc) (c u a p box plan cl c' u' a' p' box' plan' cl':Value) (w:World) {A A':Nat->Prop} (hx:RdM A w m c u a p box plan cl) (hy:RdM A' w m c' u' a' p' box' plan' cl') :
  Calls Tryz.prog 8 #[.agg (zaW m c u a p box plan cl).toArray,.agg (zaW m c' u' a' p' box' plan' cl').toArray] w fun e w'=>e=.returned (.bool true)/\Ext w w':=by
 obtain ⟨ka,kc,rfl,k1,k2,k3⟩:=zlO hx.clients.o;obtain ⟨ja,jc,rfl,j1,j2,j3⟩:=zlO hy.clients.o;unfold maxLen at k2 j2;have S1:=zhd (zcp.2 ⟨hx.cells.o,hx.undo.o,hx.answers.o,hx.past.o⟩);have S2:=zhd (zcp.2 ⟨hy.cells.o,hy.undo.o,hy.answers.o,hy.past.o⟩);have V1:=zhd (And.intro hx.box.o hx.plan.o);have V2:=zhd (And.intro hy.box.o hy.plan.o);have K3:=zhd k3;have J3:=zhd j3;clear hx hy k3 j3;obtain ⟨⟨sc,su,sa,sp⟩,⟨gen,bl,busy,⟨nc,nt,⟨nk,na,no,nn⟩⟩,pl,⟨se,sn⟩⟩,up,pause,falls,cls⟩:=m;have EW:=zhd (Ext.refl w);go_enter Tryz.func8,Tryz.ntmps8
 go_wp2_with (with_reducible refine zT ?_)
 refine zaj rfl 44 (.tmp 0) rfl #[c,u,a,p,I gen,box,.bool busy,I nc,I nt,I nk,I na,I no,I nn,plan,I se,I sn,.bool up,I pause,I falls,.slice ka cls.length kc] rfl (fun b0 w1_ M1=>?_);have zab:=zmb M1;go_wp2_with (with_reducible refine zT ?_)
 refine zaj rfl 44 (.tmp 1) rfl #[c',u',a',p',I gen,box',.bool busy,I nc,I nt,I nk,I na,I no,I nn,plan',I se,I sn,.bool up,I pause,I falls,.slice ja cls.length jc] rfl (fun b1 w2_ M2=>?_);have zad:=zmb M2;replace zab:=zmo M2 zab;have c0:=zaa (i:=0) zab.o rfl;have d0:=zaa (i:=0) zad.o rfl;have c1:=zaa (i:=1) zab.o rfl;have d1:=zaa (i:=1) zad.o rfl;have c2:=zaa (i:=2) zab.o rfl;have d2:=zaa (i:=2) zad.o rfl;have c3:=zaa (i:=3) zab.o rfl;have d3:=zaa (i:=3) zad.o rfl;have c4:=zaa (i:=4) zab.o rfl;have d4:=zaa (i:=4) zad.o rfl;have c5:=zaa (i:=5) zab.o rfl;have d5:=zaa (i:=5) zad.o rfl;have c6:=zaa (i:=6) zab.o rfl;have d6:=zaa (i:=6) zad.o rfl;have c7:=zaa (i:=7) zab.o rfl;have d7:=zaa (i:=7) zad.o rfl;have c8:=zaa (i:=8) zab.o rfl;have d8:=zaa (i:=8) zad.o rfl;have c9:=zaa (i:=9) zab.o rfl;have d9:=zaa (i:=9) zad.o rfl;have c10:=zaa (i:=10) zab.o rfl;have d10:=zaa (i:=10) zad.o rfl;have c11:=zaa (i:=11) zab.o rfl;have d11:=zaa (i:=11) zad.o rfl;have c12:=zaa (i:=12) zab.o rfl;have d12:=zaa (i:=12) zad.o rfl;have c13:=zaa (i:=13) zab.o rfl;have d13:=zaa (i:=13) zad.o rfl;have c14:=zaa (i:=14) zab.o rfl;have d14:=zaa (i:=14) zad.o rfl;have c15:=zaa (i:=15) zab.o rfl;have d15:=zaa (i:=15) zad.o rfl;have c16:=zaa (i:=16) zab.o rfl;have d16:=zaa (i:=16) zad.o rfl;have c17:=zaa (i:=17) zab.o rfl;have d17:=zaa (i:=17) zad.o rfl;have c18:=zaa (i:=18) zab.o rfl;have d18:=zaa (i:=18) zad.o rfl;have c19:=zaa (i:=19) zab.o rfl;have d19:=zaa (i:=19) zad.o rfl;go_wp2_with fail
 clear c0 c1 c2 c3 c4 c5 c6 c7 c8 c9 c10 c11 c12 c13 c14 c15 c16 c17 c18 c19 d0 d1 d2 d3 d4 d5 d6 d7 d8 d9 d10 d11 d12 d13 d14 d15 d16 d17 d18 d19;replace EW:=zet (zet EW M1) M2;refine Calls.exts (zla _ _ _ _ _ _ _ _ ⟨sc,su,sa,sp⟩ w2_ (zfw _ _ _ _ EW.o S1.o) (zfw _ _ _ _ EW.o S2.o)) (fun wa ea=>?_);replace zab:=zbx zab ea;have c0:=zaa (i:=0) zab.o rfl;replace zad:=zbx zad ea;have d0:=zaa (i:=0) zad.o rfl;have c1:=zaa (i:=1) zab.o rfl;have d1:=zaa (i:=1) zad.o rfl;have c2:=zaa (i:=2) zab.o rfl;have d2:=zaa (i:=2) zad.o rfl;have c3:=zaa (i:=3) zab.o rfl;have d3:=zaa (i:=3) zad.o rfl;have c4:=zaa (i:=4) zab.o rfl;have d4:=zaa (i:=4) zad.o rfl;have c5:=zaa (i:=5) zab.o rfl;have d5:=zaa (i:=5) zad.o rfl;have c6:=zaa (i:=6) zab.o rfl;have d6:=zaa (i:=6) zad.o rfl;have c7:=zaa (i:=7) zab.o rfl;have d7:=zaa (i:=7) zad.o rfl;have c8:=zaa (i:=8) zab.o rfl;have d8:=zaa (i:=8) zad.o rfl;have c9:=zaa (i:=9) zab.o rfl;have d9:=zaa (i:=9) zad.o rfl;have c10:=zaa (i:=10) zab.o rfl;have d10:=zaa (i:=10) zad.o rfl;have c11:=zaa (i:=11) zab.o rfl;have d11:=zaa (i:=11) zad.o rfl;have c12:=zaa (i:=12) zab.o rfl;have d12:=zaa (i:=12) zad.o rfl;have c13:=zaa (i:=13) zab.o rfl;have d13:=zaa (i:=13) zad.o rfl;have c14:=zaa (i:=14) zab.o rfl;have d14:=zaa (i:=14) zad.o rfl;have c15:=zaa (i:=15) zab.o rfl;have d15:=zaa (i:=15) zad.o rfl;have c16:=zaa (i:=16) zab.o rfl;have d16:=zaa (i:=16) zad.o rfl;have c17:=zaa (i:=17) zab.o rfl;have d17:=zaa (i:=17) zad.o rfl;have c18:=zaa (i:=18) zab.o rfl;have d18:=zaa (i:=18) zad.o rfl;have c19:=zaa (i:=19) zab.o rfl;have d19:=zaa (i:=19) zad.o rfl;go_wp2_with fail
 clear c0 c1 c2 c3 c4 c5 c6 c7 c8 c9 c10 c11 c12 c13 c14 c15 c16 c17 c18 c19 d0 d1 d2 d3 d4 d5 d6 d7 d8 d9 d10 d11 d12 d13 d14 d15 d16 d17 d18 d19;replace EW:=zhd (EW.o.trans ea);refine Calls.exts (zj3 ⟨gen,bl,busy,⟨nc,nt,⟨nk,na,no,nn⟩⟩,pl,⟨se,sn⟩⟩ _ _ _ _ wa ⟨V1.o.1.ext zcX EW.o,V1.o.2.ext EW.o⟩ ⟨V2.o.1.ext zcX EW.o,V2.o.2.ext EW.o⟩) (fun wb eb=>?_);replace zab:=zbx zab eb;have c0:=zaa (i:=0) zab.o rfl;replace zad:=zbx zad eb;have d0:=zaa (i:=0) zad.o rfl;have c1:=zaa (i:=1) zab.o rfl;have d1:=zaa (i:=1) zad.o rfl;have c2:=zaa (i:=2) zab.o rfl;have d2:=zaa (i:=2) zad.o rfl;have c3:=zaa (i:=3) zab.o rfl;have d3:=zaa (i:=3) zad.o rfl;have c4:=zaa (i:=4) zab.o rfl;have d4:=zaa (i:=4) zad.o rfl;have c5:=zaa (i:=5) zab.o rfl;have d5:=zaa (i:=5) zad.o rfl;have c6:=zaa (i:=6) zab.o rfl;have d6:=zaa (i:=6) zad.o rfl;have c7:=zaa (i:=7) zab.o rfl;have d7:=zaa (i:=7) zad.o rfl;have c8:=zaa (i:=8) zab.o rfl;have d8:=zaa (i:=8) zad.o rfl;have c9:=zaa (i:=9) zab.o rfl;have d9:=zaa (i:=9) zad.o rfl;have c10:=zaa (i:=10) zab.o rfl;have d10:=zaa (i:=10) zad.o rfl;have c11:=zaa (i:=11) zab.o rfl;have d11:=zaa (i:=11) zad.o rfl;have c12:=zaa (i:=12) zab.o rfl;have d12:=zaa (i:=12) zad.o rfl;have c13:=zaa (i:=13) zab.o rfl;have d13:=zaa (i:=13) zad.o rfl;have c14:=zaa (i:=14) zab.o rfl;have d14:=zaa (i:=14) zad.o rfl;have c15:=zaa (i:=15) zab.o rfl;have d15:=zaa (i:=15) zad.o rfl;have c16:=zaa (i:=16) zab.o rfl;have d16:=zaa (i:=16) zad.o rfl;have c17:=zaa (i:=17) zab.o rfl;have d17:=zaa (i:=17) zad.o rfl;have c18:=zaa (i:=18) zab.o rfl;have d18:=zaa (i:=18) zad.o rfl;have c19:=zaa (i:=19) zab.o rfl;have d19:=zaa (i:=19) zad.o rfl;go_wp2
 clear c0 c1 c2 c3 c4 c5 c6 c7 c8 c9 c10 c11 c12 c13 c14 c15 c16 c17 c18 c19 d0 d1 d2 d3 d4 d5 d6 d7 d8 d9 d10 d11 d12 d13 d14 d15 d16 d17 d18 d19;replace EW:=zhd (EW.o.trans eb);go_loopw [53] (fun i wr=>∃ k:Nat,k<=cls.length/\i=I k/\Ext wb wr) (fun i _=>cls.length - (intOf i).toNat)
 case atStart=>exact ⟨0,by omega,rfl,Ext.refl _⟩
 case round =>
  obtain ⟨k,hk,rfl,he⟩:=hrel;by_cases hlt:k < cls.length
  ·obtain ⟨x,hx⟩:∃ x,cls[k]?=some x:=⟨cls[k],List.getElem?_eq_getElem hlt⟩;obtain ⟨b,off,x1,x2,x3,rfl,c0,c1,c2,c3,c4,c5,g1⟩:=K3.o k x hx;obtain ⟨b',off',y1,y2,y3,rfl,d0,d1,d2,d3,d4,d5,g2⟩:=J3.o k x hx;clear hx;have mr:Ext w wr:=EW.o.trans he;replace g1:=zk7 _ _ _ _ mr g1;replace g2:=zk7 _ _ _ _ mr g2;have f0:=zaa (i:=19) (zbS zab.o he) rfl;have f1:=zaa (i:=19) (zbS zad.o he) rfl;replace c0:=mr.cell c0;replace d0:=mr.cell d0;replace c1:=mr.cell c1;replace d1:=mr.cell d1;replace c2:=mr.cell c2;replace d2:=mr.cell d2;replace c3:=mr.cell c3;replace d3:=mr.cell d3;replace c4:=mr.cell c4;replace d4:=mr.cell d4;replace c5:=mr.cell c5;replace d5:=mr.cell d5;go_wp2_with fail
   refine zbj [none,none,none,none,none,none,none,none,none,none,some (.inl (.bool true)),none] (by kernel_rfl) (by kernel_rfl) ?_ ?_
   ·exact ⟨trivial,trivial,trivial,trivial,trivial,trivial,trivial,trivial,trivial,trivial,trivial,trivial,trivial⟩
   (refine zap (fun K hK=>?_); go_simp; first | refine hK _ ?_ | refine ⟨(fun h=>by cases h),hK _ ?_⟩; clear hK K)
   refine zav (.slice (some ⟨b,off,none⟩) cls.length kc) rfl (fun w' hw'=>by have q0:=hw'.cell f0; go_simp) ?_;refine zai fun K h=>?_; go_simp; refine h _ ?_; clear h K;iterate 2 (refine zap (fun K hK=>?_); go_simp; first | refine hK _ ?_ | refine ⟨(fun h=>by cases h),hK _ ?_⟩; clear hK K)
   refine zav (.agg #[x1,I x.at_,.bool x.sent,I x.gen,x2,x3]) rfl (fun w' hw'=>by have q0:=hw'.cell c0; have q1:=hw'.cell c1; have q2:=hw'.cell c2; have q3:=hw'.cell c3; have q4:=hw'.cell c4; have q5:=hw'.cell c5; go_simp) ?_;refine zai fun K h=>?_; go_simp; refine h _ ?_; clear h K;(refine zap (fun K hK=>?_); go_simp; first | refine hK _ ?_ | refine ⟨(fun h=>by cases h),hK _ ?_⟩; clear hK K)
   refine zav ((.slice (some ⟨b',off',none⟩) cls.length jc)) rfl (fun w' hw'=>by have q0:=hw'.cell f1; go_simp) ?_;refine zai fun K h=>?_; go_simp; refine h _ ?_; clear h K;iterate 2 (refine zap (fun K hK=>?_); go_simp; first | refine hK _ ?_ | refine ⟨(fun h=>by cases h),hK _ ?_⟩; clear hK K)
   refine zav (.agg #[y1,I x.at_,.bool x.sent,I x.gen,y2,y3]) rfl (fun w' hw'=>by have q0:=hw'.cell d0; have q1:=hw'.cell d1; have q2:=hw'.cell d2; have q3:=hw'.cell d3; have q4:=hw'.cell d4; have q5:=hw'.cell d5; go_simp) ?_;refine zai fun K h=>?_; go_simp; refine h _ ?_; clear h K;refine zdb _ rfl (fun w' hw' hk=>?_) ?_
   ·have hcs:=(zjS x x1 x2 x3 y1 y2 y3 w' (zk7 _ _ _ _ hw' g1) (zk7 _ _ _ _ hw' g2)).mono (R':=fun e w''=>∃ v,e=.returned v/\Ext w' w''/\v=.bool true) (fun e w'' h=>⟨_,h.1,h.2,rfl⟩);clear hk;unfold zaL;go_simp
    exact ⟨Ext.refl _,hcs⟩
   refine zai fun K h=>?_; go_simp; refine h _ ?_; clear h K;(refine zap (fun K hK=>?_); go_simp; first | refine hK _ ?_ | refine ⟨(fun h=>by cases h),hK _ ?_⟩; clear hK K)
   refine zaM ?_;intro wn hen _;clear c0 c1 c2 c3 c4 c5 d0 d1 d2 d3 d4 d5 f0 f1 g1 g2 mr;go_wp2
   go_roundw
   case rel=>exact ⟨k+1,by omega,by go_num,he.trans hen⟩
   case measure=>simp [intOf]; omega
  ·have mr:Ext w wr:=EW.o.trans he;go_wp2
   go_ret
   exact ⟨rfl,mr⟩

end Go.Proofs.YtdmipnnfoolelaeGreat

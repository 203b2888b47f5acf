/- Texts of the proof, merged: S5 N18 G4 N10. -/
import Derived.Test.YtdmipnnfoolelafGreatKTA
import Derived.Test.YtdmipnnfoolelafGreatKTJ
import Derived.Test.YtdmipnnfoolelafGreatKTH
import Derived.Test.YtdmipnnfoolelafGreatKTW
import Derived.Test.YtdmipnnfoolelafGreatKTF
import Derived.Test.YtdmipnnfoolelafGreatKTS
set_option maxHeartbeats 8000000
set_option maxRecDepth 100000

namespace Go.Proofs.YtdmipnnfoolelafGreat
open Go.RowKit Go.Mk

theorem zgZ {w:World} {v:Value} {l:List Rq} (h:zas 6 zhn w v l):∃ ao cap,v=.slice ao l.length cap/\l.length<=cap/\cap<=maxLen /\
  ∀ k r,l[k]?=some r->∃ b off,ao=some ⟨b,off,none⟩/\w.cell? ⟨b,off+k * 6,none⟩=some (I r.client)/\w.cell? ⟨b,off+k * 6+1,none⟩=some (I r.token)/\w.cell? ⟨b,off+k * 6+2,none⟩=some (I r.call.kind) /\
   w.cell? ⟨b,off+k * 6+3,none⟩=some (I r.call.name)/\w.cell? ⟨b,off+k * 6+4,none⟩=some (I r.call.other)/\w.cell? ⟨b,off+k * 6+5,none⟩=some (I r.call.n):=(zei.1 h).form

theorem zl6 (c u a p c' u' a' p':Value) (s:St) (w:World) (h:zcn w [c,u,a,p] s) (h':zcn w [c',u',a',p'] s) :
  Calls Tryz.prog 25 #[.agg #[c,u,a,p],.agg #[c',u',a',p']] w fun e w'=>e=.returned (.bool true)/\Ext w w':=by
 obtain ⟨h1,h2,h3,h4⟩:=zcK.1 h;obtain ⟨k1,k2,k3,k4⟩:=zcK.1 h';clear h h';obtain ⟨aa,ac,rfl,g1,g2,g3⟩:=zfT h3;obtain ⟨ba,bc,rfl,_,f2,f3⟩:=zfT k3;obtain ⟨pa,pc,rfl,_,m2,m3⟩:=zgZ h4;obtain ⟨qa,qc,rfl,_,n2,n3⟩:=zgZ k4;unfold maxLen at g2 f2 m2 n2;clear h3 k3 h4 k4;have e0:Ext w ((w.alloc (.cells #[c,u,.slice aa s.answers.length ac,.slice pa s.past.length pc] 31)).alloc (.cells #[c',u',.slice ba s.answers.length bc,.slice qa s.past.length qc] 31)):=((Ext.refl w).alloc _).alloc _;have HB:=zhd (fun wx (h:Ext ((w.alloc (.cells #[c,u,.slice aa s.answers.length ac,.slice pa s.past.length pc] 31)).alloc (.cells #[c',u',.slice ba s.answers.length bc,.slice qa s.past.length qc] 31)) wx)=>And.intro (zc8 h) (zcD h));have hst:Tryz.prog.stoodInHeld 97=false:=by kernel_rfl
 have hgd:Tryz.prog.eqGuardType Tryz.prog.depth 97=false:=by kernel_rfl
 have hst2:Tryz.prog.stoodInHeld 36=false:=by kernel_rfl
 have hgd2:Tryz.prog.eqGuardType Tryz.prog.depth 36=false:=by kernel_rfl
 have G3:=zhd g3;have F3:=zhd f3;have M3:=zhd m3;have N3:=zhd n3;clear g3 f3 m3 n3;generalize s.answers=al at *;generalize s.past=pl at *;go_enter Tryz.func25,Tryz.ntmps25
 go_wp2_with fail
 generalize hw0:(w.alloc (.cells #[c,u,.slice aa al.length ac,.slice pa pl.length pc] 31)).alloc (.cells #[c',u',.slice ba al.length bc,.slice qa pl.length qc] 31)=w0 at *;clear hw0;refine (znt rfl (h1.ext e0) (k1.ext e0)).to fun r w1 e1 hr=>?_;subst hr;obtain ⟨b0,b1⟩:=HB.o w1 e1;obtain ⟨x0,x1,x2,x3,-⟩:=zb4 b0;obtain ⟨y0,y1,y2,y3,-⟩:=zb4 b1;go_wp2_with fail
 clear x0 x1 x2 x3 y0 y1 y2 y3 b0 b1;refine (zhy rfl (h2.ext (e0.trans e1)) (k2.ext (e0.trans e1))).to fun r w2 e2 hr=>?_;subst hr;replace e2:=e1.trans e2;clear e1 h1 h2 k1 k2;obtain ⟨b0,b1⟩:=HB.o w2 e2;obtain ⟨x0,x1,x2,x3,-⟩:=zb4 b0;obtain ⟨y0,y1,y2,y3,-⟩:=zb4 b1;go_wp2
 clear x0 x1 x2 x3 y0 y1 y2 y3 b0 b1;go_loopw [42] (fun i wr=>∃ k:Nat,k<=al.length/\i=I k/\Ext w0 wr) (fun i _=>al.length - (intOf i).toNat)
 case atStart=>exact ⟨0,by omega,rfl,e2⟩
 case round =>
  obtain ⟨k,hk,rfl,he⟩:=hrel;by_cases hlt:k < al.length
  ·obtain ⟨x,hx⟩:∃ x,al[k]?=some x:=⟨al[k],List.getElem?_eq_getElem hlt⟩;obtain ⟨b,off,rfl,c0,c1,c2,c3⟩:=G3.o k x hx;obtain ⟨b',off',rfl,d0,d1,d2,d3⟩:=F3.o k x hx;clear hx;have mr:Ext w wr:=e0.trans he;replace c0:=mr.cell c0;replace c1:=mr.cell c1;replace c2:=mr.cell c2;replace c3:=mr.cell c3;replace d0:=mr.cell d0;replace d1:=mr.cell d1;replace d2:=mr.cell d2;replace d3:=mr.cell d3;obtain ⟨b0,b1⟩:=HB.o wr he;obtain ⟨x0,x1,x2,x3,-⟩:=zb4 b0;obtain ⟨y0,y1,y2,y3,-⟩:=zb4 b1;obtain ⟨xc,xt,⟨xe,xn⟩⟩:=x;go_wp2_with fail
   refine zbe [none,none,none,none,none,none,none,none,none,none,none] (by kernel_rfl) (by kernel_rfl) ?_ ?_
   ·exact ⟨trivial,trivial,trivial,trivial,trivial,trivial,trivial,trivial,trivial,trivial,trivial,trivial⟩
   (refine zap (fun K hK=>?_); go_simp; first | refine hK _ ?_ | refine ⟨(fun h=>by cases h),hK _ ?_⟩; clear hK K)
   refine zay (.slice (some ⟨b,off,none⟩) al.length ac) rfl (fun w' hw'=>by have q0:=hw'.cell x2; go_simp) ?_;refine zai fun K h=>?_; go_simp; refine h _ ?_; clear h K;iterate 2 (refine zap (fun K hK=>?_); go_simp; first | refine hK _ ?_ | refine ⟨(fun h=>by cases h),hK _ ?_⟩; clear hK K)
   refine zay (.agg #[I xc,I xt,I xe,I xn]) rfl (fun w' hw'=>by have q0:=hw'.cell c0; have q1:=hw'.cell c1; have q2:=hw'.cell c2; have q3:=hw'.cell c3; go_simp) ?_;refine zai fun K h=>?_; go_simp; refine h _ ?_; clear h K;(refine zap (fun K hK=>?_); go_simp; first | refine hK _ ?_ | refine ⟨(fun h=>by cases h),hK _ ?_⟩; clear hK K)
   refine zay (.slice (some ⟨b',off',none⟩) al.length bc) rfl (fun w' hw'=>by have q0:=hw'.cell y2; go_simp) ?_;refine zai fun K h=>?_; go_simp; refine h _ ?_; clear h K;iterate 2 (refine zap (fun K hK=>?_); go_simp; first | refine hK _ ?_ | refine ⟨(fun h=>by cases h),hK _ ?_⟩; clear hK K)
   refine zay (.agg #[I xc,I xt,I xe,I xn]) rfl (fun w' hw'=>by have q0:=hw'.cell d0; have q1:=hw'.cell d1; have q2:=hw'.cell d2; have q3:=hw'.cell d3; go_simp) ?_;refine zai fun K h=>?_; go_simp; refine h _ ?_; clear h K;(refine zap (fun K hK=>?_); go_simp; first | refine hK _ ?_ | refine ⟨(fun h=>by cases h),hK _ ?_⟩; clear hK K)
   refine zaP ?_;intro wn hen _;clear c0 c1 c2 c3 d0 d1 d2 d3 x0 x1 x2 x3 y0 y1 y2 y3 b0 b1;go_wp2
   go_roundw
   case rel=>exact ⟨k+1,by omega,by go_num,he.trans hen⟩
   case measure=>simp [intOf]; omega
  ·have mr:Ext w wr:=e0.trans he;obtain ⟨b0,b1⟩:=HB.o wr he;obtain ⟨x0,x1,x2,x3,-⟩:=zb4 b0;clear b0 b1;go_wp2
   clear x0 x1 x2 x3;go_loopw [60] (fun i wr=>∃ k:Nat,k<=pl.length/\i=I k/\Ext w0 wr) (fun i _=>pl.length - (intOf i).toNat)
   case atStart=>exact ⟨0,by omega,rfl,he⟩
   case round =>
    clear he mr;obtain ⟨k,hk,rfl,he⟩:=hrel;by_cases hlt:k < pl.length
    ·obtain ⟨x,hx⟩:∃ x,pl[k]?=some x:=⟨pl[k],List.getElem?_eq_getElem hlt⟩;obtain ⟨b,off,rfl,c0,c1,c2,c3,c4,c5⟩:=M3.o k x hx;obtain ⟨b',off',rfl,d0,d1,d2,d3,d4,d5⟩:=N3.o k x hx;clear hx;have mr:Ext w wr:=e0.trans he;replace c0:=mr.cell c0;replace c1:=mr.cell c1;replace c2:=mr.cell c2;replace c3:=mr.cell c3;replace c4:=mr.cell c4;replace c5:=mr.cell c5;replace d0:=mr.cell d0;replace d1:=mr.cell d1;replace d2:=mr.cell d2;replace d3:=mr.cell d3;replace d4:=mr.cell d4;replace d5:=mr.cell d5;obtain ⟨b0,b1⟩:=HB.o wr he;obtain ⟨x0,x1,x2,x3,-⟩:=zb4 b0;obtain ⟨y0,y1,y2,y3,-⟩:=zb4 b1;obtain ⟨xc,xt,⟨xk,xa,xo,xn⟩⟩:=x;go_wp2_with fail
     refine zbe [none,none,none,none,none,none,none,none,none,none,none] (by kernel_rfl) (by kernel_rfl) ?_ ?_
     ·exact ⟨trivial,trivial,trivial,trivial,trivial,trivial,trivial,trivial,trivial,trivial,trivial,trivial⟩
     (refine zap (fun K hK=>?_); go_simp; first | refine hK _ ?_ | refine ⟨(fun h=>by cases h),hK _ ?_⟩; clear hK K)
     refine zay (.slice (some ⟨b,off,none⟩) pl.length pc) rfl (fun w' hw'=>by have q0:=hw'.cell x3; go_simp) ?_;refine zai fun K h=>?_; go_simp; refine h _ ?_; clear h K;iterate 2 (refine zap (fun K hK=>?_); go_simp; first | refine hK _ ?_ | refine ⟨(fun h=>by cases h),hK _ ?_⟩; clear hK K)
     refine zay (.agg #[I xc,I xt,I xk,I xa,I xo,I xn]) rfl (fun w' hw'=>by have q0:=hw'.cell c0; have q1:=hw'.cell c1; have q2:=hw'.cell c2; have q3:=hw'.cell c3; have q4:=hw'.cell c4; have q5:=hw'.cell c5; go_simp) ?_;refine zai fun K h=>?_; go_simp; refine h _ ?_; clear h K;(refine zap (fun K hK=>?_); go_simp; first | refine hK _ ?_ | refine ⟨(fun h=>by cases h),hK _ ?_⟩; clear hK K)
     refine zay (.slice (some ⟨b',off',none⟩) pl.length qc) rfl (fun w' hw'=>by have q0:=hw'.cell y3; go_simp) ?_;refine zai fun K h=>?_; go_simp; refine h _ ?_; clear h K;iterate 2 (refine zap (fun K hK=>?_); go_simp; first | refine hK _ ?_ | refine ⟨(fun h=>by cases h),hK _ ?_⟩; clear hK K)
     refine zay (.agg #[I xc,I xt,I xk,I xa,I xo,I xn]) rfl (fun w' hw'=>by have q0:=hw'.cell d0; have q1:=hw'.cell d1; have q2:=hw'.cell d2; have q3:=hw'.cell d3; have q4:=hw'.cell d4; have q5:=hw'.cell d5; go_simp) ?_;refine zai fun K h=>?_; go_simp; refine h _ ?_; clear h K;(refine zap (fun K hK=>?_); go_simp; first | refine hK _ ?_ | refine ⟨(fun h=>by cases h),hK _ ?_⟩; clear hK K)
     refine zaP ?_;intro wn hen _;clear c0 c1 c2 c3 c4 c5 d0 d1 d2 d3 d4 d5 x0 x1 x2 x3 y0 y1 y2 y3 b0 b1;go_wp2
     go_roundw
     case rel=>exact ⟨k+1,by omega,by go_num,he.trans hen⟩
     case measure=>simp [intOf]; omega
    ·go_wp2
     go_ret
     exact ⟨rfl,e0.trans he⟩

open Go.RowKit Go.Mk

theorem zfl {w:World} {v:Value} {l:List Rp} (h:zas 2 zd6 w v l):∃ ao cap,v=.slice ao l.length cap/\l.length<=cap/\cap<=maxLen /\
  ∀ k x,l[k]?=some x->∃ b off,ao=some ⟨b,off,none⟩/\w.cell? ⟨b,off+k * 2,none⟩=some (I x.err)/\w.cell? ⟨b,off+k * 2+1,none⟩=some (I x.n):=by
 obtain ⟨ao,cap,h1,h2,h3,-,h5⟩:=h.form (by decide)
 refine ⟨ao,cap,h1,h2,h3,fun k x hx=>?_⟩
 obtain ⟨b,off,c,e,-,hc,hcell⟩:=h5 k x hx
 have hc:c=[I x.err,I x.n]:=hc
 subst hc
 exact ⟨b,off,e,hcell 0 _ rfl,by rw [Nat.add_assoc]; exact hcell 1 _ rfl⟩
theorem zqU (u v:Value) (xs:List Rp) (w:World) (hu:zas 2 zd6 w u xs) (hv:zas 2 zd6 w v xs) :
  Calls Tryz.prog 10 #[u,v] w fun e w'=>e=.returned (.bool true)/\Ext w w':=by
 obtain ⟨ua,uc,rfl,u1,u2,u3⟩:=zfl hu;obtain ⟨va,vc,rfl,v1,v2,v3⟩:=zfl hv;unfold maxLen at u2 v2;have U3:=zhd u3;have V3:=zhd v3;clear u3 v3 hu hv;have hst:Tryz.prog.stoodInHeld 39=false:=by kernel_rfl
 have hgd:Tryz.prog.eqGuardType Tryz.prog.depth 39=false:=by kernel_rfl
 go_enter Tryz.func10,Tryz.ntmps10
 go_wp2
 go_loopw [13] (fun i wr=>∃ k:Nat,k<=xs.length/\i=I k/\Ext w wr) (fun i _=>xs.length - (intOf i).toNat)
 case atStart=>exact ⟨0,by omega,rfl,Ext.refl _⟩
 case round =>
  obtain ⟨k,hk,rfl,he⟩:=hrel;by_cases hlt:k < xs.length
  ·obtain ⟨x,hx⟩:∃ x,xs[k]?=some x:=⟨xs[k],List.getElem?_eq_getElem hlt⟩;obtain ⟨b,off,rfl,c0,c1⟩:=U3.o k x hx;obtain ⟨b',off',rfl,d0,d1⟩:=V3.o k x hx;clear hx;obtain ⟨xe,xn⟩:=x;replace c0:=he.cell c0;replace d0:=he.cell d0;replace c1:=he.cell c1;replace d1:=he.cell d1;go_wp2_with fail
   refine zbe [none,none,none,none,none,none,none,none,none] (by kernel_rfl) (by kernel_rfl) ?_ ?_
   ·exact ⟨trivial,trivial,trivial,trivial,trivial,trivial,trivial,trivial,trivial,trivial⟩
   iterate 3 (refine zap (fun K hK=>?_); go_simp; first | refine hK _ ?_ | refine ⟨(fun h=>by cases h),hK _ ?_⟩; clear hK K)
   refine zay (.agg #[I xe,I xn]) rfl (fun w' hw'=>by have q0:=hw'.cell c0; have q1:=hw'.cell c1; go_simp) ?_;refine zai fun K h=>?_; go_simp; refine h _ ?_; clear h K;iterate 3 (refine zap (fun K hK=>?_); go_simp; first | refine hK _ ?_ | refine ⟨(fun h=>by cases h),hK _ ?_⟩; clear hK K)
   refine zay (.agg #[I xe,I xn]) rfl (fun w' hw'=>by have q0:=hw'.cell d0; have q1:=hw'.cell d1; go_simp) ?_;refine zai fun K h=>?_; go_simp; refine h _ ?_; clear h K;(refine zap (fun K hK=>?_); go_simp; first | refine hK _ ?_ | refine ⟨(fun h=>by cases h),hK _ ?_⟩; clear hK K)
   refine zaP ?_;intro wn hen _;clear c0 c1 d0 d1;go_wp2
   go_roundw
   case rel=>exact ⟨k+1,by omega,by go_num,he.trans hen⟩
   case measure=>simp [intOf]; omega
  ·go_wp2
   go_ret
   exact ⟨rfl,he⟩

theorem ziT {w:World} {v:Value} {l:List Cl} (h:zas 4 zdw w v l):∃ ao cap,v=.slice ao l.length cap/\l.length<=cap/\cap<=maxLen /\
  ∀ k x,l[k]?=some x->∃ b off,ao=some ⟨b,off,none⟩/\w.cell? ⟨b,off+k * 4,none⟩=some (I x.kind)/\w.cell? ⟨b,off+k * 4+1,none⟩=some (I x.name)/\w.cell? ⟨b,off+k * 4+2,none⟩=some (I x.other)/\w.cell? ⟨b,off+k * 4+3,none⟩=some (I x.n):=by
 obtain ⟨ao,cap,h1,h2,h3,-,h5⟩:=h.form (by decide)
 refine ⟨ao,cap,h1,h2,h3,fun k x hx=>?_⟩
 obtain ⟨b,off,c,e,-,hc,hcell⟩:=h5 k x hx
 have hc:c=[I x.kind,I x.name,I x.other,I x.n]:=hc
 subst hc
 exact ⟨b,off,e,hcell 0 _ rfl,by rw [Nat.add_assoc]; exact hcell 1 _ rfl,by rw [Nat.add_assoc]; exact hcell 2 _ rfl,by rw [Nat.add_assoc]; exact hcell 3 _ rfl⟩
theorem zso (u v:Value) (xs:List Cl) (w:World) (hu:zas 4 zdw w u xs) (hv:zas 4 zdw w v xs) :
  Calls Tryz.prog 50 #[u,v] w fun e w'=>e=.returned (.bool true)/\Ext w w':=by
 obtain ⟨ua,uc,rfl,u1,u2,u3⟩:=ziT hu;obtain ⟨va,vc,rfl,v1,v2,v3⟩:=ziT hv;unfold maxLen at u2 v2;have U3:=zhd u3;have V3:=zhd v3;clear u3 v3 hu hv;have hst:Tryz.prog.stoodInHeld 34=false:=by kernel_rfl
 have hgd:Tryz.prog.eqGuardType Tryz.prog.depth 34=false:=by kernel_rfl
 go_enter Tryz.func50,Tryz.ntmps50
 go_wp2
 go_loopw [13] (fun i wr=>∃ k:Nat,k<=xs.length/\i=I k/\Ext w wr) (fun i _=>xs.length - (intOf i).toNat)
 case atStart=>exact ⟨0,by omega,rfl,Ext.refl _⟩
 case round =>
  obtain ⟨k,hk,rfl,he⟩:=hrel;by_cases hlt:k < xs.length
  ·obtain ⟨x,hx⟩:∃ x,xs[k]?=some x:=⟨xs[k],List.getElem?_eq_getElem hlt⟩;obtain ⟨b,off,rfl,c0,c1,c2,c3⟩:=U3.o k x hx;obtain ⟨b',off',rfl,d0,d1,d2,d3⟩:=V3.o k x hx;clear hx;obtain ⟨xk,xa,xo,xn⟩:=x;replace c0:=he.cell c0;replace d0:=he.cell d0;replace c1:=he.cell c1;replace d1:=he.cell d1;replace c2:=he.cell c2;replace d2:=he.cell d2;replace c3:=he.cell c3;replace d3:=he.cell d3;go_wp2_with fail
   refine zbe [none,none,none,none,none,none,none,none,none] (by kernel_rfl) (by kernel_rfl) ?_ ?_
   ·exact ⟨trivial,trivial,trivial,trivial,trivial,trivial,trivial,trivial,trivial,trivial⟩
   iterate 3 (refine zap (fun K hK=>?_); go_simp; first | refine hK _ ?_ | refine ⟨(fun h=>by cases h),hK _ ?_⟩; clear hK K)
   refine zay (.agg #[I xk,I xa,I xo,I xn]) rfl (fun w' hw'=>by have q0:=hw'.cell c0; have q1:=hw'.cell c1; have q2:=hw'.cell c2; have q3:=hw'.cell c3; go_simp) ?_;refine zai fun K h=>?_; go_simp; refine h _ ?_; clear h K;iterate 3 (refine zap (fun K hK=>?_); go_simp; first | refine hK _ ?_ | refine ⟨(fun h=>by cases h),hK _ ?_⟩; clear hK K)
   refine zay (.agg #[I xk,I xa,I xo,I xn]) rfl (fun w' hw'=>by have q0:=hw'.cell d0; have q1:=hw'.cell d1; have q2:=hw'.cell d2; have q3:=hw'.cell d3; go_simp) ?_;refine zai fun K h=>?_; go_simp; refine h _ ?_; clear h K;(refine zap (fun K hK=>?_); go_simp; first | refine hK _ ?_ | refine ⟨(fun h=>by cases h),hK _ ?_⟩; clear hK K)
   refine zaP ?_;intro wn hen _;clear c0 c1 c2 c3 d0 d1 d2 d3;go_wp2
   go_roundw
   case rel=>exact ⟨k+1,by omega,by go_num,he.trans hen⟩
   case measure=>simp [intOf]; omega
  ·go_wp2
   go_ret
   exact ⟨rfl,he⟩

theorem zkN (c:Cn) (x1 x2 x3 y1 y2 y3:Value) (w:World) (hx:zcC w [x1,I c.at_,.bool c.sent,I c.gen,x2,x3] c) (hy:zcC w [y1,I c.at_,.bool c.sent,I c.gen,y2,y3] c) :
  Calls Tryz.prog 27 #[.agg #[x1,I c.at_,.bool c.sent,I c.gen,x2,x3],.agg #[y1,I c.at_,.bool c.sent,I c.gen,y2,y3]] w fun e w'=>e=.returned (.bool true)/\Ext w w':=by
 have HX:=zhd (zgo.1 hx);have HY:=zhd (zgo.1 hy);clear hx hy;obtain ⟨cl,at_,sent,gen,bl,gl⟩:=c;have EW:=zhd (Ext.refl w);go_enter Tryz.func27,Tryz.ntmps27
 go_wp2_with (with_reducible refine zT ?_)
 refine zaj rfl 55 (.tmp 0) rfl #[x1,I at_,.bool sent,I gen,x2,x3] rfl (fun b0 w1_ M1=>?_);have zab:=zmb M1;go_wp2_with (with_reducible refine zT ?_)
 refine zaj rfl 55 (.tmp 1) rfl #[y1,I at_,.bool sent,I gen,y2,y3] rfl (fun b1 w2_ M2=>?_);have zad:=zmb M2;replace zab:=zmo M2 zab;have c0:=zaa (i:=0) zab.o rfl;have d0:=zaa (i:=0) zad.o rfl;have c1:=zaa (i:=1) zab.o rfl;have d1:=zaa (i:=1) zad.o rfl;have c2:=zaa (i:=2) zab.o rfl;have d2:=zaa (i:=2) zad.o rfl;have c3:=zaa (i:=3) zab.o rfl;have d3:=zaa (i:=3) zad.o rfl;have c4:=zaa (i:=4) zab.o rfl;have d4:=zaa (i:=4) zad.o rfl;have c5:=zaa (i:=5) zab.o rfl;have d5:=zaa (i:=5) zad.o rfl;go_wp2_with fail
 clear c0 c1 c2 c3 c4 c5 d0 d1 d2 d3 d4 d5;replace EW:=zet (zet EW M1) M2;refine Calls.exts (zso _ _ cl w2_ (HX.o.1.ext zdK EW.o) (HY.o.1.ext zdK EW.o)) (fun wa ea=>?_);replace zab:=zbx zab ea;have c0:=zaa (i:=0) zab.o rfl;replace zad:=zbx zad ea;have d0:=zaa (i:=0) zad.o rfl;have c1:=zaa (i:=1) zab.o rfl;have d1:=zaa (i:=1) zad.o rfl;have c2:=zaa (i:=2) zab.o rfl;have d2:=zaa (i:=2) zad.o rfl;have c3:=zaa (i:=3) zab.o rfl;have d3:=zaa (i:=3) zad.o rfl;have c4:=zaa (i:=4) zab.o rfl;have d4:=zaa (i:=4) zad.o rfl;have c5:=zaa (i:=5) zab.o rfl;have d5:=zaa (i:=5) zad.o rfl;go_wp2_with fail
 clear c0 c1 c2 c3 c4 c5 d0 d1 d2 d3 d4 d5;replace EW:=zhd (EW.o.trans ea);refine Calls.exts (zh6 _ _ bl wa (HX.o.2.1.ext zdf EW.o) (HY.o.2.1.ext zdf EW.o)) (fun wb eb=>?_);replace zab:=zbx zab eb;have c0:=zaa (i:=0) zab.o rfl;replace zad:=zbx zad eb;have d0:=zaa (i:=0) zad.o rfl;have c1:=zaa (i:=1) zab.o rfl;have d1:=zaa (i:=1) zad.o rfl;have c2:=zaa (i:=2) zab.o rfl;have d2:=zaa (i:=2) zad.o rfl;have c3:=zaa (i:=3) zab.o rfl;have d3:=zaa (i:=3) zad.o rfl;have c4:=zaa (i:=4) zab.o rfl;have d4:=zaa (i:=4) zad.o rfl;have c5:=zaa (i:=5) zab.o rfl;have d5:=zaa (i:=5) zad.o rfl;go_wp2_with fail
 clear c0 c1 c2 c3 c4 c5 d0 d1 d2 d3 d4 d5;replace EW:=zhd (EW.o.trans eb);refine Calls.exts (zqU _ _ gl wb (HX.o.2.2.ext ze5 EW.o) (HY.o.2.2.ext ze5 EW.o)) (fun wc ec=>?_);replace zab:=zbx zab ec;have c0:=zaa (i:=0) zab.o rfl;replace zad:=zbx zad ec;have d0:=zaa (i:=0) zad.o rfl;have c1:=zaa (i:=1) zab.o rfl;have d1:=zaa (i:=1) zad.o rfl;have c2:=zaa (i:=2) zab.o rfl;have d2:=zaa (i:=2) zad.o rfl;have c3:=zaa (i:=3) zab.o rfl;have d3:=zaa (i:=3) zad.o rfl;have c4:=zaa (i:=4) zab.o rfl;have d4:=zaa (i:=4) zad.o rfl;have c5:=zaa (i:=5) zab.o rfl;have d5:=zaa (i:=5) zad.o rfl;go_wp2
 go_ret
 replace EW:=zhd (EW.o.trans ec);exact ⟨rfl,EW.o⟩

theorem zio {w:World} {v:Value} {l:List Cn} (h:zas 6 zcC w v l):∃ ao cap,v=.slice ao l.length cap/\l.length<=cap/\cap<=maxLen /\
  ∀ k x,l[k]?=some x->∃ b off x1 x2 x3,ao=some ⟨b,off,none⟩/\w.cell? ⟨b,off+k * 6,none⟩=some x1/\w.cell? ⟨b,off+k * 6+1,none⟩=some (I x.at_)/\w.cell? ⟨b,off+k * 6+2,none⟩=some (.bool x.sent)/\w.cell? ⟨b,off+k * 6+3,none⟩=some (I x.gen) /\
   w.cell? ⟨b,off+k * 6+4,none⟩=some x2/\w.cell? ⟨b,off+k * 6+5,none⟩=some x3/\zcC w [x1,I x.at_,.bool x.sent,I x.gen,x2,x3] x:=by
 obtain ⟨ao,cap,h1,h2,h3,-,h5⟩:=h.form (by decide)
 refine ⟨ao,cap,h1,h2,h3,fun k x hx=>?_⟩
 obtain ⟨b,off,c,e,-,hc,hcell⟩:=h5 k x hx
 obtain ⟨x1,x2,x3,rfl,hc'⟩:=hc
 exact ⟨b,off,x1,x2,x3,e,hcell 0 _ rfl,by rw [Nat.add_assoc]; exact hcell 1 _ rfl,by rw [Nat.add_assoc]; exact hcell 2 _ rfl,by rw [Nat.add_assoc]; exact hcell 3 _ rfl,by rw [Nat.add_assoc]; exact hcell 4 _ rfl,by rw [Nat.add_assoc]; exact hcell 5 _ rfl,x1,x2,x3,rfl,hc'⟩

theorem zed (m:Mc) (c u a p box plan cl c' u' a' p' box' plan' cl':Value) (w:World) {A A':Nat->Prop} (hx:RdM A w m c u a p box plan cl) (hy:RdM A' w m c' u' a' p' box' plan' cl') :
  Calls Tryz.prog 13 #[.agg (zaH m c u a p box plan cl).toArray,.agg (zaH m c' u' a' p' box' plan' cl').toArray] w fun e w'=>e=.returned (.bool true)/\Ext w w':=by
 obtain ⟨ka,kc,rfl,k1,k2,k3⟩:=zio hx.clients.o;obtain ⟨ja,jc,rfl,j1,j2,j3⟩:=zio hy.clients.o;unfold maxLen at k2 j2;have S1:=zhd (zcK.2 ⟨hx.cells.o,hx.undo.o,hx.answers.o,hx.past.o⟩);have S2:=zhd (zcK.2 ⟨hy.cells.o,hy.undo.o,hy.answers.o,hy.past.o⟩);have V1:=zhd (And.intro hx.box.o hx.plan.o);have V2:=zhd (And.intro hy.box.o hy.plan.o);have K3:=zhd k3;have J3:=zhd j3;clear hx hy k3 j3;obtain ⟨⟨sc,su,sa,sp⟩,⟨gen,bl,busy,⟨nc,nt,⟨nk,na,no,nn⟩⟩,pl,⟨se,sn⟩⟩,up,pause,falls,cls⟩:=m;have EW:=zhd (Ext.refl w);go_enter Tryz.func13,Tryz.ntmps13
 go_wp2_with (with_reducible refine zT ?_)
 refine zaj rfl 44 (.tmp 0) rfl #[c,u,a,p,I gen,box,.bool busy,I nc,I nt,I nk,I na,I no,I nn,plan,I se,I sn,.bool up,I pause,I falls,.slice ka cls.length kc] rfl (fun b0 w1_ M1=>?_);have zab:=zmb M1;go_wp2_with (with_reducible refine zT ?_)
 refine zaj rfl 44 (.tmp 1) rfl #[c',u',a',p',I gen,box',.bool busy,I nc,I nt,I nk,I na,I no,I nn,plan',I se,I sn,.bool up,I pause,I falls,.slice ja cls.length jc] rfl (fun b1 w2_ M2=>?_);have zad:=zmb M2;replace zab:=zmo M2 zab;have c0:=zaa (i:=0) zab.o rfl;have d0:=zaa (i:=0) zad.o rfl;have c1:=zaa (i:=1) zab.o rfl;have d1:=zaa (i:=1) zad.o rfl;have c2:=zaa (i:=2) zab.o rfl;have d2:=zaa (i:=2) zad.o rfl;have c3:=zaa (i:=3) zab.o rfl;have d3:=zaa (i:=3) zad.o rfl;have c4:=zaa (i:=4) zab.o rfl;have d4:=zaa (i:=4) zad.o rfl;have c5:=zaa (i:=5) zab.o rfl;have d5:=zaa (i:=5) zad.o rfl;have c6:=zaa (i:=6) zab.o rfl;have d6:=zaa (i:=6) zad.o rfl;have c7:=zaa (i:=7) zab.o rfl;have d7:=zaa (i:=7) zad.o rfl;have c8:=zaa (i:=8) zab.o rfl;have d8:=zaa (i:=8) zad.o rfl;have c9:=zaa (i:=9) zab.o rfl;have d9:=zaa (i:=9) zad.o rfl;have c10:=zaa (i:=10) zab.o rfl;have d10:=zaa (i:=10) zad.o rfl;have c11:=zaa (i:=11) zab.o rfl;have d11:=zaa (i:=11) zad.o rfl;have c12:=zaa (i:=12) zab.o rfl;have d12:=zaa (i:=12) zad.o rfl;have c13:=zaa (i:=13) zab.o rfl;have d13:=zaa (i:=13) zad.o rfl;have c14:=zaa (i:=14) zab.o rfl;have d14:=zaa (i:=14) zad.o rfl;have c15:=zaa (i:=15) zab.o rfl;have d15:=zaa (i:=15) zad.o rfl;have c16:=zaa (i:=16) zab.o rfl;have d16:=zaa (i:=16) zad.o rfl;have c17:=zaa (i:=17) zab.o rfl;have d17:=zaa (i:=17) zad.o rfl;have c18:=zaa (i:=18) zab.o rfl;have d18:=zaa (i:=18) zad.o rfl;have c19:=zaa (i:=19) zab.o rfl;have d19:=zaa (i:=19) zad.o rfl;go_wp2_with fail
 clear c0 c1 c2 c3 c4 c5 c6 c7 c8 c9 c10 c11 c12 c13 c14 c15 c16 c17 c18 c19 d0 d1 d2 d3 d4 d5 d6 d7 d8 d9 d10 d11 d12 d13 d14 d15 d16 d17 d18 d19;replace EW:=zet (zet EW M1) M2;refine Calls.exts (zl6 _ _ _ _ _ _ _ _ ⟨sc,su,sa,sp⟩ w2_ (zf2 _ _ _ _ EW.o S1.o) (zf2 _ _ _ _ EW.o S2.o)) (fun wa ea=>?_);replace zab:=zbx zab ea;have c0:=zaa (i:=0) zab.o rfl;replace zad:=zbx zad ea;have d0:=zaa (i:=0) zad.o rfl;have c1:=zaa (i:=1) zab.o rfl;have d1:=zaa (i:=1) zad.o rfl;have c2:=zaa (i:=2) zab.o rfl;have d2:=zaa (i:=2) zad.o rfl;have c3:=zaa (i:=3) zab.o rfl;have d3:=zaa (i:=3) zad.o rfl;have c4:=zaa (i:=4) zab.o rfl;have d4:=zaa (i:=4) zad.o rfl;have c5:=zaa (i:=5) zab.o rfl;have d5:=zaa (i:=5) zad.o rfl;have c6:=zaa (i:=6) zab.o rfl;have d6:=zaa (i:=6) zad.o rfl;have c7:=zaa (i:=7) zab.o rfl;have d7:=zaa (i:=7) zad.o rfl;have c8:=zaa (i:=8) zab.o rfl;have d8:=zaa (i:=8) zad.o rfl;have c9:=zaa (i:=9) zab.o rfl;have d9:=zaa (i:=9) zad.o rfl;have c10:=zaa (i:=10) zab.o rfl;have d10:=zaa (i:=10) zad.o rfl;have c11:=zaa (i:=11) zab.o rfl;have d11:=zaa (i:=11) zad.o rfl;have c12:=zaa (i:=12) zab.o rfl;have d12:=zaa (i:=12) zad.o rfl;have c13:=zaa (i:=13) zab.o rfl;have d13:=zaa (i:=13) zad.o rfl;have c14:=zaa (i:=14) zab.o rfl;have d14:=zaa (i:=14) zad.o rfl;have c15:=zaa (i:=15) zab.o rfl;have d15:=zaa (i:=15) zad.o rfl;have c16:=zaa (i:=16) zab.o rfl;have d16:=zaa (i:=16) zad.o rfl;have c17:=zaa (i:=17) zab.o rfl;have d17:=zaa (i:=17) zad.o rfl;have c18:=zaa (i:=18) zab.o rfl;have d18:=zaa (i:=18) zad.o rfl;have c19:=zaa (i:=19) zab.o rfl;have d19:=zaa (i:=19) zad.o rfl;go_wp2_with fail
 clear c0 c1 c2 c3 c4 c5 c6 c7 c8 c9 c10 c11 c12 c13 c14 c15 c16 c17 c18 c19 d0 d1 d2 d3 d4 d5 d6 d7 d8 d9 d10 d11 d12 d13 d14 d15 d16 d17 d18 d19;replace EW:=zhd (EW.o.trans ea);refine Calls.exts (zkD ⟨gen,bl,busy,⟨nc,nt,⟨nk,na,no,nn⟩⟩,pl,⟨se,sn⟩⟩ _ _ _ _ wa ⟨V1.o.1.ext zdf EW.o,V1.o.2.ext EW.o⟩ ⟨V2.o.1.ext zdf EW.o,V2.o.2.ext EW.o⟩) (fun wb eb=>?_);replace zab:=zbx zab eb;have c0:=zaa (i:=0) zab.o rfl;replace zad:=zbx zad eb;have d0:=zaa (i:=0) zad.o rfl;have c1:=zaa (i:=1) zab.o rfl;have d1:=zaa (i:=1) zad.o rfl;have c2:=zaa (i:=2) zab.o rfl;have d2:=zaa (i:=2) zad.o rfl;have c3:=zaa (i:=3) zab.o rfl;have d3:=zaa (i:=3) zad.o rfl;have c4:=zaa (i:=4) zab.o rfl;have d4:=zaa (i:=4) zad.o rfl;have c5:=zaa (i:=5) zab.o rfl;have d5:=zaa (i:=5) zad.o rfl;have c6:=zaa (i:=6) zab.o rfl;have d6:=zaa (i:=6) zad.o rfl;have c7:=zaa (i:=7) zab.o rfl;have d7:=zaa (i:=7) zad.o rfl;have c8:=zaa (i:=8) zab.o rfl;have d8:=zaa (i:=8) zad.o rfl;have c9:=zaa (i:=9) zab.o rfl;have d9:=zaa (i:=9) zad.o rfl;have c10:=zaa (i:=10) zab.o rfl;have d10:=zaa (i:=10) zad.o rfl;have c11:=zaa (i:=11) zab.o rfl;have d11:=zaa (i:=11) zad.o rfl;have c12:=zaa (i:=12) zab.o rfl;have d12:=zaa (i:=12) zad.o rfl;have c13:=zaa (i:=13) zab.o rfl;have d13:=zaa (i:=13) zad.o rfl;have c14:=zaa (i:=14) zab.o rfl;have d14:=zaa (i:=14) zad.o rfl;have c15:=zaa (i:=15) zab.o rfl;have d15:=zaa (i:=15) zad.o rfl;have c16:=zaa (i:=16) zab.o rfl;have d16:=zaa (i:=16) zad.o rfl;have c17:=zaa (i:=17) zab.o rfl;have d17:=zaa (i:=17) zad.o rfl;have c18:=zaa (i:=18) zab.o rfl;have d18:=zaa (i:=18) zad.o rfl;have c19:=zaa (i:=19) zab.o rfl;have d19:=zaa (i:=19) zad.o rfl;go_wp2
 clear c0 c1 c2 c3 c4 c5 c6 c7 c8 c9 c10 c11 c12 c13 c14 c15 c16 c17 c18 c19 d0 d1 d2 d3 d4 d5 d6 d7 d8 d9 d10 d11 d12 d13 d14 d15 d16 d17 d18 d19;replace EW:=zhd (EW.o.trans eb);go_loopw [53] (fun i wr=>∃ k:Nat,k<=cls.length/\i=I k/\Ext wb wr) (fun i _=>cls.length - (intOf i).toNat)
 case atStart=>exact ⟨0,by omega,rfl,Ext.refl _⟩
 case round =>
  obtain ⟨k,hk,rfl,he⟩:=hrel;by_cases hlt:k < cls.length
  ·obtain ⟨x,hx⟩:∃ x,cls[k]?=some x:=⟨cls[k],List.getElem?_eq_getElem hlt⟩;obtain ⟨b,off,x1,x2,x3,rfl,c0,c1,c2,c3,c4,c5,g1⟩:=K3.o k x hx;obtain ⟨b',off',y1,y2,y3,rfl,d0,d1,d2,d3,d4,d5,g2⟩:=J3.o k x hx;clear hx;have mr:Ext w wr:=EW.o.trans he;replace g1:=zkq _ _ _ _ mr g1;replace g2:=zkq _ _ _ _ mr g2;have f0:=zaa (i:=19) (zbW zab.o he) rfl;have f1:=zaa (i:=19) (zbW zad.o he) rfl;replace c0:=mr.cell c0;replace d0:=mr.cell d0;replace c1:=mr.cell c1;replace d1:=mr.cell d1;replace c2:=mr.cell c2;replace d2:=mr.cell d2;replace c3:=mr.cell c3;replace d3:=mr.cell d3;replace c4:=mr.cell c4;replace d4:=mr.cell d4;replace c5:=mr.cell c5;replace d5:=mr.cell d5;go_wp2_with fail
   refine zbe [none,none,none,none,none,none,none,none,none,none,some (.inl (.bool true)),none] (by kernel_rfl) (by kernel_rfl) ?_ ?_
   ·exact ⟨trivial,trivial,trivial,trivial,trivial,trivial,trivial,trivial,trivial,trivial,trivial,trivial,trivial⟩
   (refine zap (fun K hK=>?_); go_simp; first | refine hK _ ?_ | refine ⟨(fun h=>by cases h),hK _ ?_⟩; clear hK K)
   refine zay (.slice (some ⟨b,off,none⟩) cls.length kc) rfl (fun w' hw'=>by have q0:=hw'.cell f0; go_simp) ?_;refine zai fun K h=>?_; go_simp; refine h _ ?_; clear h K;iterate 2 (refine zap (fun K hK=>?_); go_simp; first | refine hK _ ?_ | refine ⟨(fun h=>by cases h),hK _ ?_⟩; clear hK K)
   refine zay (.agg #[x1,I x.at_,.bool x.sent,I x.gen,x2,x3]) rfl (fun w' hw'=>by have q0:=hw'.cell c0; have q1:=hw'.cell c1; have q2:=hw'.cell c2; have q3:=hw'.cell c3; have q4:=hw'.cell c4; have q5:=hw'.cell c5; go_simp) ?_;refine zai fun K h=>?_; go_simp; refine h _ ?_; clear h K;(refine zap (fun K hK=>?_); go_simp; first | refine hK _ ?_ | refine ⟨(fun h=>by cases h),hK _ ?_⟩; clear hK K)
   refine zay ((.slice (some ⟨b',off',none⟩) cls.length jc)) rfl (fun w' hw'=>by have q0:=hw'.cell f1; go_simp) ?_;refine zai fun K h=>?_; go_simp; refine h _ ?_; clear h K;iterate 2 (refine zap (fun K hK=>?_); go_simp; first | refine hK _ ?_ | refine ⟨(fun h=>by cases h),hK _ ?_⟩; clear hK K)
   refine zay (.agg #[y1,I x.at_,.bool x.sent,I x.gen,y2,y3]) rfl (fun w' hw'=>by have q0:=hw'.cell d0; have q1:=hw'.cell d1; have q2:=hw'.cell d2; have q3:=hw'.cell d3; have q4:=hw'.cell d4; have q5:=hw'.cell d5; go_simp) ?_;refine zai fun K h=>?_; go_simp; refine h _ ?_; clear h K;refine zdp _ rfl (fun w' hw' hk=>?_) ?_
   ·have hcs:=(zkN x x1 x2 x3 y1 y2 y3 w' (zkq _ _ _ _ hw' g1) (zkq _ _ _ _ hw' g2)).mono (R':=fun e w''=>∃ v,e=.returned v/\Ext w' w''/\v=.bool true) (fun e w'' h=>⟨_,h.1,h.2,rfl⟩);clear hk;unfold zaQ;go_simp
    exact ⟨Ext.refl _,hcs⟩
   refine zai fun K h=>?_; go_simp; refine h _ ?_; clear h K;(refine zap (fun K hK=>?_); go_simp; first | refine hK _ ?_ | refine ⟨(fun h=>by cases h),hK _ ?_⟩; clear hK K)
   refine zaP ?_;intro wn hen _;clear c0 c1 c2 c3 c4 c5 d0 d1 d2 d3 d4 d5 f0 f1 g1 g2 mr;go_wp2
   go_roundw
   case rel=>exact ⟨k+1,by omega,by go_num,he.trans hen⟩
   case measure=>simp [intOf]; omega
  ·have mr:Ext w wr:=EW.o.trans he;go_wp2
   go_ret
   exact ⟨rfl,mr⟩

open Go.RowKit Go.Mk

theorem zlm {l:List (List Cl)} (hl:za8 l) {m:Mc} {ks:List Nat} {bz:Option Nat} (h:MInv l m ks bz) {k:Nat} (hs:SizeM m k) (hk:k<=1000):zhF m:=by
 have h1:=h.cells
 have h2:=hs.undo
 have h3:=hs.answers
 have h4:=hs.past
 have h5:=hs.box
 refine ⟨⟨by omega,by omega,by omega,by omega⟩,⟨by omega,fun b hb=>?_,?_⟩,by rw [h.nc]; have:=hl.1; omega,fun c hc=>?_⟩
 ·rw [h.box] at hb
  obtain ⟨k,_,rfl⟩:=List.mem_map.1 hb
  exact Nat.le_trans (Nat.le_of_eq rfl) (by decide:(10:Nat)<=140737488355328)
 ·cases hz:bz with
  | none=>rw [h.idle hz]; exact Nat.zero_le _
  | some i=>have:=(h.work i hz).2.2.2.2; omega
 ·obtain ⟨i,hi⟩:=List.mem_iff_getElem?.1 hc
  have hci:=h.clients i c hi
  have h6:=hs.each c hc
  refine ⟨?_,by omega,fun b hb=>?_,by omega⟩
  ·rw [hci.calls,List.getD_eq_getElem?_getD]
   cases e:l[i]? with
   | none=>simp
   | some x=>have:=(hl.2 x (List.mem_of_getElem? e)).1; simp; omega
  ·cases hci.phase with
   | rest _ _ _ e _=>rw [e] at hb; cases hb
   | wait _ _ _ _ e _=>rw [e] at hb; cases hb
   | work _ _ _ _ e _ _=>rw [e] at hb; cases hb
   | lost _ _ _ e _ _=>rw [e] at hb; cases hb
   | hear _ _ _ _ e =>
    rw [e] at hb
    rw [List.mem_singleton.1 hb]
    exact Nat.le_trans (Nat.le_of_eq rfl) (by decide:(8:Nat)<=140737488355328)

structure Gd (l:List (List Cl)) (m:Mc) (k:Nat):Prop where
 right:za8 l
 inv:∃ ks bz,MInv l m ks bz
 size:SizeM m k
theorem zrw {l:List (List Cl)} (hl:za8 l) (steps:List (Int×Int)):Gd l (zcu (za1 l) (steps.take 400)) 400 :=
 ⟨hl,zje hl _,(zkT (zjk l) (steps.take 400)).mono (by rw [List.length_take]; omega)⟩
section
variable {l:List (List Cl)} {m:Mc} {k:Nat}
theorem Gd.small (h:Gd l m k) (hk:k<=1000):zhF m:=by
 obtain ⟨h1,⟨ks,bz,h2⟩,h3⟩:=h
 exact zlm h1 h2 h3 hk
theorem Gd.falls (h:Gd l m k):0<=m.falls/\m.falls<=6:=by
 obtain ⟨_,⟨ks,bz,h2⟩,_⟩:=h
 exact h2.falls
theorem Gd.cells (h:Gd l m k):m.store.cells.length * 8<=140737488355328:=by
 obtain ⟨_,⟨ks,bz,h2⟩,_⟩:=h
 have:=h2.cells
 omega
theorem Gd.down (h:Gd l m k) (hu:m.up=false):1<=m.pause/\m.pause<=1000000:=by
 obtain ⟨_,⟨ks,bz,h2⟩,_⟩:=h
 have:=h2.down hu
 omega
theorem Gd.pause (h:Gd l m k):0<=m.pause/\m.pause<=1000000:=by
 obtain ⟨_,⟨ks,bz,h2⟩,_⟩:=h
 cases hu:m.up with
 | true=>have:=h2.upp hu; omega
 | false=>have:=h2.down hu; omega
theorem Gd.gen (h:Gd l m k):0<=m.server.gen/\m.server.gen<=1000000:=by
 obtain ⟨_,⟨ks,bz,h2⟩,_⟩:=h
 obtain ⟨g1,g2,g3⟩:=h2.gens
 have hf:=h2.falls
 cases hu:m.up with
 | true=>have:=g2 hu; omega
 | false=>have:=g3 hu; omega
end

def zof (m:Mc) (r:Value) (w:World):Prop:=∃ c u a p box plan cl,r=.agg (zaH m c u a p box plan cl).toArray/\RdM (fun _=>True) w m c u a p box plan cl
theorem zof.ext {m:Mc} {r:Value} {w w':World} (h:zof m r w) (he:Ext w w'):zof m r w':=by
 obtain ⟨c,u,a,p,box,plan,cl,e,h⟩:=h
 exact ⟨c,u,a,p,box,plan,cl,e,h.ext he⟩
theorem zoD {P:Program} {f:FuncId} {args:Array Value} {w:World} {A:Nat->Prop} {m:Mc} (h:zaK P f args w A (fun r w'=>Agg zc1 m r w')):zaT P f args w (zof m):=Calls.mono h fun _ w' ⟨r,he,hx,ht⟩=>⟨r,he,hx,by
 obtain ⟨cs,rfl,hcs⟩:=zbS ht
 obtain ⟨c,u,a,p,box,plan,cl,rfl,hM⟩:=zbX hcs
 exact ⟨c,u,a,p,box,plan,cl,rfl,hM.widen fun _ _ _=>trivial⟩⟩
def zs3 (s:St) (r:Value) (w:World):Prop:=∃ c u a p,r=.agg #[c,u,a,p]/\zcn w [c,u,a,p] s
theorem zs3.ext {s:St} {r:Value} {w w':World} (h:zs3 s r w) (he:Ext w w'):zs3 s r w':=by
 obtain ⟨c,u,a,p,e,h⟩:=h
 exact ⟨c,u,a,p,e,zf2 _ _ _ _ he h⟩
theorem zcl {P:Program} {ops:Array Oper} {rest:List Oper} {o:Oper} {a:Act} {w:World} {Q:Exit->Act->World->Prop} (hw:Region.wanted o (yielded ops a.tmps)=true) (ty:TypeId) (x:Operand) (ho:o.op=.load ty x) (b off:Nat) (hx:a.eval x=.pointer (some ⟨b,off,none⟩)) {cs:Array Value} {t:TypeId} (hg:Hid (w.heap[b]?=some (.cells cs t (0,0))))
  (vs:List Value) (hsub:(cs.toList.drop off).take vs.length=vs) {fs:Array Field} (hu:P.underlying ty=some (.struct fs)) (hi:(P.info? ty).map (·.size)=some vs.length)
  (h:∀ v,Hid (v=.agg vs.toArray)->wpList P ops Q rest (a.put o.dst v) w):wpList P ops Q (o::rest) a w:=by
 refine wpList_step fun K hK=>?_
 rw [if_pos hw]
 unfold Oper.wp
 rw [zbP ty x ho b off hx hg.o vs hsub hu hi,Oper.upon_value]
 exact hK _ _ (h _ rfl)

theorem ziy {w:World} {B C:Nat->Prop} {b:Nat} {x:Obj} (h:Hid (∀ k,C k↔(B k∨w.heap.size<=k))) (n:Hid (¬ B b)) (hb:Hid (w.heap[b]?=some x)):Hid (¬ C b):=fun q=>by
 rcases (h.o _).1 q with q | q
 ·exact n.o q
 ·have:=(Array.getElem?_eq_some_iff.1 hb.o).1
  omega

open Go.RowKit Go.Mk

theorem znH (m:Mc) (c u a p box plan cl:Value) (kind:Int) (n:Int) (w:World) (A:Nat->Prop) (h:RdM A w m c u a p box plan cl) (h1:kind≠1) (h2:kind≠2) (h3:kind≠3) (h4:kind≠4) :
  zaK Tryz.prog 20 #[.agg (zaH m c u a p box plan cl).toArray,.agg #[I kind,I n]] w A (fun r w'=>zgz zc1 (doM m kind n).1 (doM m kind n).2 r w'):=by
 unfold zaK;obtain ⟨ca,cc,ua,uc,aa,ac,pa,pc,xa,xc,la,lc,ka,kc,rfl,rfl,rfl,rfl,rfl,rfl,rfl⟩:=h.slices;obtain ⟨⟨sc,su,sa,sp⟩,⟨gen,bl,busy,⟨nc,nt,⟨nk,na,no,nn⟩⟩,pl,⟨se,sn⟩⟩,up,pause,falls,cls⟩:=m;simp only [zaH] at *;have EW:=zhd (Ext.refl w);obtain ⟨B,hB⟩:=zdF A w.heap.size 3;have HK:=zhd hB;clear hB;have H:=zhd (h.widen HK.o.1);clear h
 have hX:doM ⟨⟨sc,su,sa,sp⟩,⟨gen,bl,busy,⟨nc,nt,⟨nk,na,no,nn⟩⟩,pl,⟨se,sn⟩⟩,up,pause,falls,cls⟩ kind n=(⟨⟨sc,su,sa,sp⟩,⟨gen,bl,busy,⟨nc,nt,⟨nk,na,no,nn⟩⟩,pl,⟨se,sn⟩⟩,up,pause,falls,cls⟩,1):=by
  unfold doM;rw [if_neg h1,if_neg h2,if_neg h3,if_neg h4]
 rw [hX];have e1:(kind == 1)=false:=by simpa using h1
 have e2:(kind == 2)=false:=by simpa using h2
 have e3:(kind == 3)=false:=by simpa using h3
 have e4:(kind == 4)=false:=by simpa using h4
 clear hX h1 h2 h3 h4;go_enter Tryz.func20,Tryz.ntmps20
 go_wp2_with (with_reducible refine zT ?_)
 refine zaj rfl 44 (.tmp 0) rfl #[.slice ca sc.length cc,.slice ua su.length uc,.slice aa sa.length ac,.slice pa sp.length pc,I gen,.slice xa bl.length xc,.bool busy,I nc,I nt,I nk,I na,I no,I nn,.slice la pl.length lc,I se,I sn,.bool up,I pause,I falls,.slice ka cls.length kc] rfl (fun b0 w1_ M1=>?_);have zab:=zmb M1;go_wp2_with (with_reducible refine zT ?_)
 refine zaj rfl 49 (.tmp 1) rfl #[I kind,I n] rfl (fun b1 w2_ M2=>?_);have zad:=zmb M2;go_wp2_with (with_reducible refine zT ?_)
 refine zae rfl 44 zM (by kernel_rfl) (fun b2 w3_ M3=>?_);replace zab:=zmo M2 zab;have zak:=zmb M3;have za0:=zA0 M1;have za2:=zA1 za0 M1 M2;have zcd:=zA1 za2 M2 M3;have zaO:=znb HK zcd (by decide);have zbp:=zob zcd;replace zad:=zmo M3 zad;have k0:=zaa (i:=0) zad.o rfl;go_wp2_with (with_reducible refine zT ?_)
 clear k0;replace zab:=zmo M3 zab;refine zah rfl 44 (.tmp 2) rfl b0 rfl zab zaS zaG (fun v132 H_v132=>?_);go_wp2_with (with_reducible refine zT ?_)
 refine zac rfl 44 (.tmp 4) (.tmp 132) rfl b2 rfl _ (zcv H_v132) zak rfl zaG rfl (fun w4_ M4=>?_);replace zak:=zwb M4;go_wp2
 have z0:=zaq (P:=Tryz.prog) 44 zak.o zaS (by kernel_rfl);refine bodyPost_ret (by simp [results,Tryz.results20,asAddr,z0]; rfl) rfl ?_;replace H:=zHw M4 (zhd ((zhd ((zhd (H.o.ext M1.o.ext)).o.ext M2.o.ext)).o.ext M3.o.ext)) zaO;replace EW:=zwe M4 (zet (zet (zet EW M1) M2) M3) zbp;exact ⟨_,rfl,EW.o,Rd.widen (A:=B) (zbT (RdM.mc (m:=⟨⟨sc,su,sa,sp⟩,⟨gen,bl,busy,⟨nc,nt,⟨nk,na,no,nn⟩⟩,pl,⟨se,sn⟩⟩,up,pause,falls,cls⟩) H.o)) (fun k _ h=>HK.o.2.2.2 k h)⟩

theorem zoe (m:Mc) (c u a p box plan cl:Value) (n:Int) (w:World) (A:Nat->Prop) (h:RdM A w m c u a p box plan cl) (hf:0<=m.falls) :
  zaK Tryz.prog 20 #[.agg (zaH m c u a p box plan cl).toArray,.agg #[I 3,I n]] w A (fun r w'=>zgz zc1 (doM m 3 n).1 (doM m 3 n).2 r w'):=by
 unfold zaK;obtain ⟨ca,cc,ua,uc,aa,ac,pa,pc,xa,xc,la,lc,ka,kc,rfl,rfl,rfl,rfl,rfl,rfl,rfl⟩:=h.slices;obtain ⟨⟨sc,su,sa,sp⟩,⟨gen,bl,busy,⟨nc,nt,⟨nk,na,no,nn⟩⟩,pl,⟨se,sn⟩⟩,up,pause,falls,cls⟩:=m;simp only [zaH] at *;have EW:=zhd (Ext.refl w);obtain ⟨B,hB⟩:=zdF A w.heap.size 3;have HK:=zhd hB;clear hB;have H:=zhd (h.widen HK.o.1);clear h;obtain ⟨FX,FE,hFM⟩:∃ x y,zd5 ⟨⟨sc,su,sa,sp⟩,⟨gen,bl,busy,⟨nc,nt,⟨nk,na,no,nn⟩⟩,pl,⟨se,sn⟩⟩,up,pause,falls,cls⟩=(x,y):=⟨_,_,rfl⟩;have hX:doM ⟨⟨sc,su,sa,sp⟩,⟨gen,bl,busy,⟨nc,nt,⟨nk,na,no,nn⟩⟩,pl,⟨se,sn⟩⟩,up,pause,falls,cls⟩ 3 n=zd5 ⟨⟨sc,su,sa,sp⟩,⟨gen,bl,busy,⟨nc,nt,⟨nk,na,no,nn⟩⟩,pl,⟨se,sn⟩⟩,up,pause,falls,cls⟩:=rfl;rw [hX,hFM];have HFM:=zhd hFM;clear hX hFM;go_enter Tryz.func20,Tryz.ntmps20
 go_wp2_with (with_reducible refine zT ?_)
 refine zaj rfl 44 (.tmp 0) rfl #[.slice ca sc.length cc,.slice ua su.length uc,.slice aa sa.length ac,.slice pa sp.length pc,I gen,.slice xa bl.length xc,.bool busy,I nc,I nt,I nk,I na,I no,I nn,.slice la pl.length lc,I se,I sn,.bool up,I pause,I falls,.slice ka cls.length kc] rfl (fun b0 w1_ M1=>?_);have zab:=zmb M1;go_wp2_with (with_reducible refine zT ?_)
 refine zaj rfl 49 (.tmp 1) rfl #[I 3,I n] rfl (fun b1 w2_ M2=>?_);have zad:=zmb M2;go_wp2_with (with_reducible refine zT ?_)
 refine zae rfl 44 zM (by kernel_rfl) (fun b2 w3_ M3=>?_);replace zab:=zmo M2 zab;have zak:=zmb M3;have za0:=zA0 M1;have za2:=zA1 za0 M1 M2;have zcd:=zA1 za2 M2 M3;have zaO:=znb HK zcd (by decide);have zbp:=zob zcd;replace zad:=zmo M3 zad;have k0:=zaa (i:=0) zad.o rfl;go_wp2_with (with_reducible refine zT ?_)
 clear k0;replace zab:=zmo M3 zab;refine zah rfl 44 (.tmp 2) rfl b0 rfl zab zaS zaG (fun v124 H_v124=>?_);go_wp2_with fail
 rw [show _=Value.agg #[.slice ca sc.length cc,.slice ua su.length uc,.slice aa sa.length ac,.slice pa sp.length pc,I gen,.slice xa bl.length xc,.bool busy,I nc,I nt,I nk,I na,I no,I nn,.slice la pl.length lc,I se,I sn,.bool up,I pause,I falls,.slice ka cls.length kc] from H_v124.o];replace H:=zhd ((zhd ((zhd (H.o.ext M1.o.ext)).o.ext M2.o.ext)).o.ext M3.o.ext);refine (zkC ⟨⟨sc,su,sa,sp⟩,⟨gen,bl,busy,⟨nc,nt,⟨nk,na,no,nn⟩⟩,pl,⟨se,sn⟩⟩,up,pause,falls,cls⟩ _ _ _ _ _ _ _ w3_ B H.o hf).to fun r w9 e9 hr=>?_;rw [HFM.o] at hr;obtain ⟨cs,rfl,hcs⟩:=zdC hr;obtain ⟨c',u',a',p',box',plan',cl',rfl,hm⟩:=zbX hcs;obtain ⟨ca',cc',ua',uc',aa',ac',pa',pc',xa',xc',la',lc',ka',kc',rfl,rfl,rfl,rfl,rfl,rfl,rfl⟩:=hm.slices;have hsz:w.heap.size+3<=w3_.heap.size:=by have q:=(zlt zak); have q2:=zcd.o; omega
 have HM:=zhd (hm.widen (B:=B) (fun k _ h=>by
  rcases h with h | h
  ·exact h
  ·exact HK.o.2.1 k (by omega)))
 clear hr hcs hm hsz;go_wp2_with (with_reducible refine zT ?_)
 replace zak:=zbx zak e9;refine zac rfl 44 (.tmp 4) (.tmp 126) rfl b2 rfl [.slice ca' (FX).store.cells.length cc',.slice ua' (FX).store.undo.length uc',.slice aa' (FX).store.answers.length ac',.slice pa' (FX).store.past.length pc',I (FX).server.gen,.slice xa' (FX).server.box.length xc',.bool (FX).server.busy,I (FX).server.now.client,I (FX).server.now.token,I (FX).server.now.call.kind,I (FX).server.now.call.name,I (FX).server.now.call.other,I (FX).server.now.call.n,.slice la' (FX).server.plan.length lc',I (FX).server.says.err,I (FX).server.says.n,.bool (FX).up,I (FX).pause,I (FX).falls,.slice ka' (FX).clients.length kc'] (rfl) zak rfl zaG rfl (fun w4_ M4=>?_);replace zak:=zwb M4;go_wp2
 have z0:=zaq (P:=Tryz.prog) 44 zak.o zaS (by kernel_rfl);refine bodyPost_ret (by simp [results,Tryz.results20,asAddr,z0]; rfl) rfl ?_;replace EW:=zwe M4 (zhd ((zet (zet (zet EW M1) M2) M3).o.trans e9)) zbp;replace HM:=zHw M4 HM zaO;exact ⟨_,rfl,EW.o,Rd.widen (A:=B) (zbT (RdM.mc (m:=FX) HM.o)) (fun k _ h=>HK.o.2.2.2 k h)⟩

theorem zog (m:Mc) (c u a p box plan cl:Value) (n:Int) (w:World) (A:Nat->Prop) (h:RdM A w m c u a p box plan cl) (hr:m.store.cells.length * 8<=140737488355328) (hg:0<=m.server.gen/\m.server.gen<=1000000) (hpz:0<=m.pause/\m.pause<=1000000) :
  zaK Tryz.prog 20 #[.agg (zaH m c u a p box plan cl).toArray,.agg #[I 4,I n]] w A (fun r w'=>zgz zc1 (doM m 4 n).1 (doM m 4 n).2 r w'):=by
 unfold zaK;obtain ⟨ca,cc,ua,uc,aa,ac,pa,pc,xa,xc,la,lc,ka,kc,rfl,rfl,rfl,rfl,rfl,rfl,rfl⟩:=h.slices;obtain ⟨⟨sc,su,sa,sp⟩,⟨gen,bl,busy,⟨nc,nt,⟨nk,na,no,nn⟩⟩,pl,⟨se,sn⟩⟩,up,pause,falls,cls⟩:=m;simp only [zaH] at *;have EW:=zhd (Ext.refl w);obtain ⟨B,hB⟩:=zdF A w.heap.size 3;have HK:=zhd hB;clear hB;have H:=zhd (h.widen HK.o.1);clear h;obtain ⟨FX,hFM⟩:∃ x,za6 ⟨⟨sc,su,sa,sp⟩,⟨gen,bl,busy,⟨nc,nt,⟨nk,na,no,nn⟩⟩,pl,⟨se,sn⟩⟩,up,pause,falls,cls⟩=x:=⟨_,rfl⟩;have hX:doM ⟨⟨sc,su,sa,sp⟩,⟨gen,bl,busy,⟨nc,nt,⟨nk,na,no,nn⟩⟩,pl,⟨se,sn⟩⟩,up,pause,falls,cls⟩ 4 n=(za6 ⟨⟨sc,su,sa,sp⟩,⟨gen,bl,busy,⟨nc,nt,⟨nk,na,no,nn⟩⟩,pl,⟨se,sn⟩⟩,up,pause,falls,cls⟩,0):=rfl;rw [hX,hFM];have HFM:=zhd hFM;clear hX hFM;go_enter Tryz.func20,Tryz.ntmps20
 go_wp2_with (with_reducible refine zT ?_)
 refine zaj rfl 44 (.tmp 0) rfl #[.slice ca sc.length cc,.slice ua su.length uc,.slice aa sa.length ac,.slice pa sp.length pc,I gen,.slice xa bl.length xc,.bool busy,I nc,I nt,I nk,I na,I no,I nn,.slice la pl.length lc,I se,I sn,.bool up,I pause,I falls,.slice ka cls.length kc] rfl (fun b0 w1_ M1=>?_);have zab:=zmb M1;go_wp2_with (with_reducible refine zT ?_)
 refine zaj rfl 49 (.tmp 1) rfl #[I 4,I n] rfl (fun b1 w2_ M2=>?_);have zad:=zmb M2;go_wp2_with (with_reducible refine zT ?_)
 refine zae rfl 44 zM (by kernel_rfl) (fun b2 w3_ M3=>?_);replace zab:=zmo M2 zab;have zak:=zmb M3;have za0:=zA0 M1;have za2:=zA1 za0 M1 M2;have zcd:=zA1 za2 M2 M3;have zaO:=znb HK zcd (by decide);have zbp:=zob zcd;replace zad:=zmo M3 zad;have k0:=zaa (i:=0) zad.o rfl;go_wp2_with (with_reducible refine zT ?_)
 clear k0;replace zab:=zmo M3 zab;refine zah rfl 44 (.tmp 2) rfl b0 rfl zab zaS zaG (fun v130 H_v130=>?_);go_wp2_with fail
 rw [show _=Value.agg #[.slice ca sc.length cc,.slice ua su.length uc,.slice aa sa.length ac,.slice pa sp.length pc,I gen,.slice xa bl.length xc,.bool busy,I nc,I nt,I nk,I na,I no,I nn,.slice la pl.length lc,I se,I sn,.bool up,I pause,I falls,.slice ka cls.length kc] from H_v130.o];replace H:=zhd ((zhd ((zhd (H.o.ext M1.o.ext)).o.ext M2.o.ext)).o.ext M3.o.ext);refine (zhw ⟨⟨sc,su,sa,sp⟩,⟨gen,bl,busy,⟨nc,nt,⟨nk,na,no,nn⟩⟩,pl,⟨se,sn⟩⟩,up,pause,falls,cls⟩ _ _ _ _ _ _ _ w3_ B H.o hr hg hpz).to fun r w9 e9 hr=>?_;rw [HFM.o] at hr;obtain ⟨cs,rfl,hcs⟩:=zbS hr;obtain ⟨c',u',a',p',box',plan',cl',rfl,hm⟩:=zbX hcs;obtain ⟨ca',cc',ua',uc',aa',ac',pa',pc',xa',xc',la',lc',ka',kc',rfl,rfl,rfl,rfl,rfl,rfl,rfl⟩:=hm.slices;have hsz:w.heap.size+3<=w3_.heap.size:=by have q:=(zlt zak); have q2:=zcd.o; omega
 have HM:=zhd (hm.widen (B:=B) (fun k _ h=>by
  rcases h with h | h
  ·exact h
  ·exact HK.o.2.1 k (by omega)))
 clear hr hcs hm hsz;go_wp2_with (with_reducible refine zT ?_)
 replace zak:=zbx zak e9;refine zac rfl 44 (.tmp 4) (.tmp 131) rfl b2 rfl [.slice ca' (FX).store.cells.length cc',.slice ua' (FX).store.undo.length uc',.slice aa' (FX).store.answers.length ac',.slice pa' (FX).store.past.length pc',I (FX).server.gen,.slice xa' (FX).server.box.length xc',.bool (FX).server.busy,I (FX).server.now.client,I (FX).server.now.token,I (FX).server.now.call.kind,I (FX).server.now.call.name,I (FX).server.now.call.other,I (FX).server.now.call.n,.slice la' (FX).server.plan.length lc',I (FX).server.says.err,I (FX).server.says.n,.bool (FX).up,I (FX).pause,I (FX).falls,.slice ka' (FX).clients.length kc'] (rfl) zak rfl zaG rfl (fun w4_ M4=>?_);replace zak:=zwb M4;go_wp2
 have z0:=zaq (P:=Tryz.prog) 44 zak.o zaS (by kernel_rfl);refine bodyPost_ret (by simp [results,Tryz.results20,asAddr,z0]; rfl) rfl ?_;replace EW:=zwe M4 (zhd ((zet (zet (zet EW M1) M2) M3).o.trans e9)) zbp;replace HM:=zHw M4 HM zaO;exact ⟨_,rfl,EW.o,Rd.widen (A:=B) (zbT (RdM.mc (m:=FX) HM.o)) (fun k _ h=>HK.o.2.2.2 k h)⟩

end Go.Proofs.YtdmipnnfoolelafGreat

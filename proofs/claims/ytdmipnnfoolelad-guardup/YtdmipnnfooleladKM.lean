/- Texts of the proof, merged: S5 N18 G4 N10. -/
import Derived.Test.YtdmipnnfooleladKF
import Derived.Test.YtdmipnnfooleladKE
import Derived.Test.YtdmipnnfooleladKL
import Derived.Test.YtdmipnnfooleladKC
import Derived.Test.YtdmipnnfooleladKK

namespace Go.Proofs.Ytdmipnnfoolelad
open Go.RowKit Go.Mk

/-- Requests, place by place. -/
theorem rqs_form {w : World} {v : Value} {l : List Rq} (h : RowOf 6 elRq w v l) : ∃ ao cap,v = .slice ao l.length cap ∧ l.length ≤ cap ∧ cap ≤ maxLen ∧
  ∀ k r,l[k]? = some r → ∃ b off,ao = some ⟨b,off,none⟩ ∧ w.cell? ⟨b,off + k * 6,none⟩ = some (I r.client) ∧ w.cell? ⟨b,off + k * 6 + 1,none⟩ = some (I r.token) ∧ w.cell? ⟨b,off + k * 6 + 2,none⟩ = some (I r.call.kind) ∧
   w.cell? ⟨b,off + k * 6 + 3,none⟩ = some (I r.call.name) ∧ w.cell? ⟨b,off + k * 6 + 4,none⟩ = some (I r.call.other) ∧ w.cell? ⟨b,off + k * 6 + 5,none⟩ = some (I r.call.n):=(rowOf_reqs.1 h).form

set_option maxRecDepth 100000 in
set_option maxHeartbeats 1000000 in
theorem sameStore_eq (c u a p c' u' a' p' : Value) (s : St) (w : World) (h : elSt w [c,u,a,p] s) (h' : elSt w [c',u',a',p'] s) :
  Calls Try.prog 17 #[.agg #[c,u,a,p],.agg #[c',u',a',p']] w fun e w'=>e = .returned (.bool true) ∧ Ext w w':=by
 obtain ⟨h1,h2,h3,h4⟩:=st_iff.1 h
 obtain ⟨k1,k2,k3,k4⟩:=st_iff.1 h'
 clear h h'
 obtain ⟨aa,ac,rfl,g1,g2,g3⟩:=ans_form h3
 obtain ⟨ba,bc,rfl,_,f2,f3⟩:=ans_form k3
 obtain ⟨pa,pc,rfl,_,m2,m3⟩:=rqs_form h4
 obtain ⟨qa,qc,rfl,_,n2,n3⟩:=rqs_form k4
 unfold maxLen at g2 f2 m2 n2
 clear h3 k3 h4 k4
 have e0 : Ext w ((w.alloc (.cells #[c,u,.slice aa s.answers.length ac,.slice pa s.past.length pc] 30)).alloc (.cells #[c',u',.slice ba s.answers.length bc,.slice qa s.past.length qc] 30)):=((Ext.refl w).alloc _).alloc _
 have HB:=Lib.hid (fun wx (h : Ext ((w.alloc (.cells #[c,u,.slice aa s.answers.length ac,.slice pa s.past.length pc] 30)).alloc (.cells #[c',u',.slice ba s.answers.length bc,.slice qa s.past.length qc] 30)) wx)=>And.intro (first_block h) (second_block h))
 have hst : Try.prog.stoodInHeld 77 = false:=by kernel_rfl
 have hgd : Try.prog.eqGuardType Try.prog.depth 77 = false:=by kernel_rfl
 have hst2 : Try.prog.stoodInHeld 35 = false:=by kernel_rfl
 have hgd2 : Try.prog.eqGuardType Try.prog.depth 35 = false:=by kernel_rfl
 have G3:=Lib.hid g3
 have F3:=Lib.hid f3
 have M3:=Lib.hid m3
 have N3:=Lib.hid n3
 clear g3 f3 m3 n3
 generalize s.answers = al at *
 generalize s.past = pl at *
 go_enter Try.func17,Try.ntmps17
 go_wp2_with fail
 generalize hw0 : (w.alloc (.cells #[c,u,.slice aa al.length ac,.slice pa pl.length pc] 30)).alloc (.cells #[c',u',.slice ba al.length bc,.slice qa pl.length qc] 30) = w0 at *
 clear hw0
 refine (sameInts_eq rfl (h1.ext e0) (k1.ext e0)).to fun r w1 e1 hr=>?_
 subst hr
 obtain ⟨b0,b1⟩:=HB.out w1 e1
 obtain ⟨x0,x1,x2,x3,-⟩:=box4 b0
 obtain ⟨y0,y1,y2,y3,-⟩:=box4 b1
 go_wp2_with fail
 clear x0 x1 x2 x3 y0 y1 y2 y3 b0 b1
 refine (sameWrites_eq rfl (h2.ext (e0.trans e1)) (k2.ext (e0.trans e1))).to fun r w2 e2 hr=>?_
 subst hr
 replace e2:=e1.trans e2
 clear e1 h1 h2 k1 k2
 obtain ⟨b0,b1⟩:=HB.out w2 e2
 obtain ⟨x0,x1,x2,x3,-⟩:=box4 b0
 obtain ⟨y0,y1,y2,y3,-⟩:=box4 b1
 go_wp2
 clear x0 x1 x2 x3 y0 y1 y2 y3 b0 b1
 go_loopw [42] (fun i wr=>∃ k : Nat,k ≤ al.length ∧ i = I k ∧ Ext w0 wr) (fun i _=>al.length - (intOf i).toNat)
 case atStart=>exact ⟨0,by omega,rfl,e2⟩
 case round =>
  obtain ⟨k,hk,rfl,he⟩:=hrel
  by_cases hlt : k < al.length
  ·obtain ⟨x,hx⟩ : ∃ x,al[k]? = some x:=⟨al[k],List.getElem?_eq_getElem hlt⟩
   obtain ⟨b,off,rfl,c0,c1,c2,c3⟩:=G3.out k x hx
   obtain ⟨b',off',rfl,d0,d1,d2,d3⟩:=F3.out k x hx
   clear hx
   have mr : Ext w wr:=e0.trans he
   replace c0:=mr.cell c0
   replace c1:=mr.cell c1
   replace c2:=mr.cell c2
   replace c3:=mr.cell c3
   replace d0:=mr.cell d0
   replace d1:=mr.cell d1
   replace d2:=mr.cell d2
   replace d3:=mr.cell d3
   obtain ⟨b0,b1⟩:=HB.out wr he
   obtain ⟨x0,x1,x2,x3,-⟩:=box4 b0
   obtain ⟨y0,y1,y2,y3,-⟩:=box4 b1
   obtain ⟨xc,xt,⟨xe,xn⟩⟩:=x
   go_wp2_with fail
   refine wp_region_mono [none,none,none,none,none,none,none,none,none,none,none] (by kernel_rfl) (by kernel_rfl) ?_ ?_
   ·exact ⟨trivial,trivial,trivial,trivial,trivial,trivial,trivial,trivial,trivial,trivial,trivial,trivial⟩
   iterate 1 (refine wpM_p (fun K hK=>?_); go_simp; first | refine hK _ ?_ | refine ⟨(fun h=>by cases h),hK _ ?_⟩; clear hK K)
   refine wpM_q (.slice (some ⟨b,off,none⟩) al.length ac) rfl (fun w' hw'=>by have q0:=hw'.cell x2; go_simp) ?_
   refine wpM_norm (fun K hK=>?_); go_simp; refine hK _ ?_; clear hK K
   iterate 2 (refine wpM_p (fun K hK=>?_); go_simp; first | refine hK _ ?_ | refine ⟨(fun h=>by cases h),hK _ ?_⟩; clear hK K)
   refine wpM_q (.agg #[I xc,I xt,I xe,I xn]) rfl (fun w' hw'=>by have q0:=hw'.cell c0; have q1:=hw'.cell c1; have q2:=hw'.cell c2; have q3:=hw'.cell c3; go_simp) ?_
   refine wpM_norm (fun K hK=>?_); go_simp; refine hK _ ?_; clear hK K
   iterate 1 (refine wpM_p (fun K hK=>?_); go_simp; first | refine hK _ ?_ | refine ⟨(fun h=>by cases h),hK _ ?_⟩; clear hK K)
   refine wpM_q (.slice (some ⟨b',off',none⟩) al.length bc) rfl (fun w' hw'=>by have q0:=hw'.cell y2; go_simp) ?_
   refine wpM_norm (fun K hK=>?_); go_simp; refine hK _ ?_; clear hK K
   iterate 2 (refine wpM_p (fun K hK=>?_); go_simp; first | refine hK _ ?_ | refine ⟨(fun h=>by cases h),hK _ ?_⟩; clear hK K)
   refine wpM_q (.agg #[I xc,I xt,I xe,I xn]) rfl (fun w' hw'=>by have q0:=hw'.cell d0; have q1:=hw'.cell d1; have q2:=hw'.cell d2; have q3:=hw'.cell d3; go_simp) ?_
   refine wpM_norm (fun K hK=>?_); go_simp; refine hK _ ?_; clear hK K
   iterate 1 (refine wpM_p (fun K hK=>?_); go_simp; first | refine hK _ ?_ | refine ⟨(fun h=>by cases h),hK _ ?_⟩; clear hK K)
   refine wpM_nil ?_
   intro wn hen _
   clear c0 c1 c2 c3 d0 d1 d2 d3 x0 x1 x2 x3 y0 y1 y2 y3 b0 b1
   go_wp2
   go_roundw
   case rel=>exact ⟨k + 1,by omega,by go_num,he.trans hen⟩
   case measure=>simp [intOf]; omega
  ·have mr : Ext w wr:=e0.trans he
   obtain ⟨b0,b1⟩:=HB.out wr he
   obtain ⟨x0,x1,x2,x3,-⟩:=box4 b0
   clear b0 b1
   go_wp2
   clear x0 x1 x2 x3
   go_loopw [60] (fun i wr=>∃ k : Nat,k ≤ pl.length ∧ i = I k ∧ Ext w0 wr) (fun i _=>pl.length - (intOf i).toNat)
   case atStart=>exact ⟨0,by omega,rfl,he⟩
   case round =>
    clear he mr
    obtain ⟨k,hk,rfl,he⟩:=hrel
    by_cases hlt : k < pl.length
    ·obtain ⟨x,hx⟩ : ∃ x,pl[k]? = some x:=⟨pl[k],List.getElem?_eq_getElem hlt⟩
     obtain ⟨b,off,rfl,c0,c1,c2,c3,c4,c5⟩:=M3.out k x hx
     obtain ⟨b',off',rfl,d0,d1,d2,d3,d4,d5⟩:=N3.out k x hx
     clear hx
     have mr : Ext w wr:=e0.trans he
     replace c0:=mr.cell c0
     replace c1:=mr.cell c1
     replace c2:=mr.cell c2
     replace c3:=mr.cell c3
     replace c4:=mr.cell c4
     replace c5:=mr.cell c5
     replace d0:=mr.cell d0
     replace d1:=mr.cell d1
     replace d2:=mr.cell d2
     replace d3:=mr.cell d3
     replace d4:=mr.cell d4
     replace d5:=mr.cell d5
     obtain ⟨b0,b1⟩:=HB.out wr he
     obtain ⟨x0,x1,x2,x3,-⟩:=box4 b0
     obtain ⟨y0,y1,y2,y3,-⟩:=box4 b1
     obtain ⟨xc,xt,⟨xk,xa,xo,xn⟩⟩:=x
     go_wp2_with fail
     refine wp_region_mono [none,none,none,none,none,none,none,none,none,none,none] (by kernel_rfl) (by kernel_rfl) ?_ ?_
     ·exact ⟨trivial,trivial,trivial,trivial,trivial,trivial,trivial,trivial,trivial,trivial,trivial,trivial⟩
     iterate 1 (refine wpM_p (fun K hK=>?_); go_simp; first | refine hK _ ?_ | refine ⟨(fun h=>by cases h),hK _ ?_⟩; clear hK K)
     refine wpM_q (.slice (some ⟨b,off,none⟩) pl.length pc) rfl (fun w' hw'=>by have q0:=hw'.cell x3; go_simp) ?_
     refine wpM_norm (fun K hK=>?_); go_simp; refine hK _ ?_; clear hK K
     iterate 2 (refine wpM_p (fun K hK=>?_); go_simp; first | refine hK _ ?_ | refine ⟨(fun h=>by cases h),hK _ ?_⟩; clear hK K)
     refine wpM_q (.agg #[I xc,I xt,I xk,I xa,I xo,I xn]) rfl (fun w' hw'=>by have q0:=hw'.cell c0; have q1:=hw'.cell c1; have q2:=hw'.cell c2; have q3:=hw'.cell c3; have q4:=hw'.cell c4; have q5:=hw'.cell c5; go_simp) ?_
     refine wpM_norm (fun K hK=>?_); go_simp; refine hK _ ?_; clear hK K
     iterate 1 (refine wpM_p (fun K hK=>?_); go_simp; first | refine hK _ ?_ | refine ⟨(fun h=>by cases h),hK _ ?_⟩; clear hK K)
     refine wpM_q (.slice (some ⟨b',off',none⟩) pl.length qc) rfl (fun w' hw'=>by have q0:=hw'.cell y3; go_simp) ?_
     refine wpM_norm (fun K hK=>?_); go_simp; refine hK _ ?_; clear hK K
     iterate 2 (refine wpM_p (fun K hK=>?_); go_simp; first | refine hK _ ?_ | refine ⟨(fun h=>by cases h),hK _ ?_⟩; clear hK K)
     refine wpM_q (.agg #[I xc,I xt,I xk,I xa,I xo,I xn]) rfl (fun w' hw'=>by have q0:=hw'.cell d0; have q1:=hw'.cell d1; have q2:=hw'.cell d2; have q3:=hw'.cell d3; have q4:=hw'.cell d4; have q5:=hw'.cell d5; go_simp) ?_
     refine wpM_norm (fun K hK=>?_); go_simp; refine hK _ ?_; clear hK K
     iterate 1 (refine wpM_p (fun K hK=>?_); go_simp; first | refine hK _ ?_ | refine ⟨(fun h=>by cases h),hK _ ?_⟩; clear hK K)
     refine wpM_nil ?_
     intro wn hen _
     clear c0 c1 c2 c3 c4 c5 d0 d1 d2 d3 d4 d5 x0 x1 x2 x3 y0 y1 y2 y3 b0 b1
     go_wp2
     go_roundw
     case rel=>exact ⟨k + 1,by omega,by go_num,he.trans hen⟩
     case measure=>simp [intOf]; omega
    ·go_wp2
     go_ret
     exact ⟨rfl,e0.trans he⟩

end Go.Proofs.Ytdmipnnfoolelad

namespace Go.Proofs.Ytdmipnnfoolelad
open Go.RowKit Go.Mk

theorem form_sameRp {w : World} {v : Value} {l : List Rp} (h : RowOf 2 elRp w v l) : ∃ ao cap,v = .slice ao l.length cap ∧ l.length ≤ cap ∧ cap ≤ maxLen ∧
  ∀ k x,l[k]? = some x → ∃ b off,ao = some ⟨b,off,none⟩ ∧ w.cell? ⟨b,off + k * 2,none⟩ = some (I x.err) ∧ w.cell? ⟨b,off + k * 2 + 1,none⟩ = some (I x.n):=by
 obtain ⟨ao,cap,h1,h2,h3,-,h5⟩:=h.form (by decide)
 refine ⟨ao,cap,h1,h2,h3,fun k x hx=>?_⟩
 obtain ⟨b,off,c,e,-,hc,hcell⟩:=h5 k x hx
 have hc : c = [I x.err,I x.n]:=hc
 subst hc
 exact ⟨b,off,e,hcell 0 _ rfl,by rw [Nat.add_assoc]; exact hcell 1 _ rfl⟩
set_option maxRecDepth 100000 in
set_option maxHeartbeats 1000000 in
theorem sameRp (u v : Value) (xs : List Rp) (w : World) (hu : RowOf 2 elRp w u xs) (hv : RowOf 2 elRp w v xs) :
  Calls Try.prog 39 #[u,v] w fun e w'=>e = .returned (.bool true) ∧ Ext w w':=by
 obtain ⟨ua,uc,rfl,u1,u2,u3⟩:=form_sameRp hu
 obtain ⟨va,vc,rfl,v1,v2,v3⟩:=form_sameRp hv
 unfold maxLen at u2 v2
 have U3:=Lib.hid u3
 have V3:=Lib.hid v3
 clear u3 v3 hu hv
 have hst : Try.prog.stoodInHeld 38 = false:=by kernel_rfl
 have hgd : Try.prog.eqGuardType Try.prog.depth 38 = false:=by kernel_rfl
 go_enter Try.func39,Try.ntmps39
 go_wp2
 go_loopw [13] (fun i wr=>∃ k : Nat,k ≤ xs.length ∧ i = I k ∧ Ext w wr) (fun i _=>xs.length - (intOf i).toNat)
 case atStart=>exact ⟨0,by omega,rfl,Ext.refl _⟩
 case round =>
  obtain ⟨k,hk,rfl,he⟩:=hrel
  by_cases hlt : k < xs.length
  ·obtain ⟨x,hx⟩ : ∃ x,xs[k]? = some x:=⟨xs[k],List.getElem?_eq_getElem hlt⟩
   obtain ⟨b,off,rfl,c0,c1⟩:=U3.out k x hx
   obtain ⟨b',off',rfl,d0,d1⟩:=V3.out k x hx
   clear hx
   obtain ⟨xe,xn⟩:=x
   replace c0:=he.cell c0
   replace d0:=he.cell d0
   replace c1:=he.cell c1
   replace d1:=he.cell d1
   go_wp2_with fail
   refine wp_region_mono [none,none,none,none,none,none,none,none,none] (by kernel_rfl) (by kernel_rfl) ?_ ?_
   ·exact ⟨trivial,trivial,trivial,trivial,trivial,trivial,trivial,trivial,trivial,trivial⟩
   iterate 3 (refine wpM_p (fun K hK=>?_); go_simp; first | refine hK _ ?_ | refine ⟨(fun h=>by cases h),hK _ ?_⟩; clear hK K)
   refine wpM_q (.agg #[I xe,I xn]) rfl (fun w' hw'=>by have q0:=hw'.cell c0; have q1:=hw'.cell c1; go_simp) ?_
   refine wpM_norm (fun K hK=>?_); go_simp; refine hK _ ?_; clear hK K
   iterate 3 (refine wpM_p (fun K hK=>?_); go_simp; first | refine hK _ ?_ | refine ⟨(fun h=>by cases h),hK _ ?_⟩; clear hK K)
   refine wpM_q (.agg #[I xe,I xn]) rfl (fun w' hw'=>by have q0:=hw'.cell d0; have q1:=hw'.cell d1; go_simp) ?_
   refine wpM_norm (fun K hK=>?_); go_simp; refine hK _ ?_; clear hK K
   iterate 1 (refine wpM_p (fun K hK=>?_); go_simp; first | refine hK _ ?_ | refine ⟨(fun h=>by cases h),hK _ ?_⟩; clear hK K)
   refine wpM_nil ?_
   intro wn hen _
   clear c0 c1 d0 d1
   go_wp2
   go_roundw
   case rel=>exact ⟨k + 1,by omega,by go_num,he.trans hen⟩
   case measure=>simp [intOf]; omega
  ·go_wp2
   go_ret
   exact ⟨rfl,he⟩

theorem form_sameCl {w : World} {v : Value} {l : List Cl} (h : RowOf 4 elCl w v l) : ∃ ao cap,v = .slice ao l.length cap ∧ l.length ≤ cap ∧ cap ≤ maxLen ∧
  ∀ k x,l[k]? = some x → ∃ b off,ao = some ⟨b,off,none⟩ ∧ w.cell? ⟨b,off + k * 4,none⟩ = some (I x.kind) ∧ w.cell? ⟨b,off + k * 4 + 1,none⟩ = some (I x.name) ∧ w.cell? ⟨b,off + k * 4 + 2,none⟩ = some (I x.other) ∧ w.cell? ⟨b,off + k * 4 + 3,none⟩ = some (I x.n):=by
 obtain ⟨ao,cap,h1,h2,h3,-,h5⟩:=h.form (by decide)
 refine ⟨ao,cap,h1,h2,h3,fun k x hx=>?_⟩
 obtain ⟨b,off,c,e,-,hc,hcell⟩:=h5 k x hx
 have hc : c = [I x.kind,I x.name,I x.other,I x.n]:=hc
 subst hc
 exact ⟨b,off,e,hcell 0 _ rfl,by rw [Nat.add_assoc]; exact hcell 1 _ rfl,by rw [Nat.add_assoc]; exact hcell 2 _ rfl,by rw [Nat.add_assoc]; exact hcell 3 _ rfl⟩
set_option maxRecDepth 100000 in
set_option maxHeartbeats 1000000 in
theorem sameCl (u v : Value) (xs : List Cl) (w : World) (hu : RowOf 4 elCl w u xs) (hv : RowOf 4 elCl w v xs) :
  Calls Try.prog 38 #[u,v] w fun e w'=>e = .returned (.bool true) ∧ Ext w w':=by
 obtain ⟨ua,uc,rfl,u1,u2,u3⟩:=form_sameCl hu
 obtain ⟨va,vc,rfl,v1,v2,v3⟩:=form_sameCl hv
 unfold maxLen at u2 v2
 have U3:=Lib.hid u3
 have V3:=Lib.hid v3
 clear u3 v3 hu hv
 have hst : Try.prog.stoodInHeld 33 = false:=by kernel_rfl
 have hgd : Try.prog.eqGuardType Try.prog.depth 33 = false:=by kernel_rfl
 go_enter Try.func38,Try.ntmps38
 go_wp2
 go_loopw [13] (fun i wr=>∃ k : Nat,k ≤ xs.length ∧ i = I k ∧ Ext w wr) (fun i _=>xs.length - (intOf i).toNat)
 case atStart=>exact ⟨0,by omega,rfl,Ext.refl _⟩
 case round =>
  obtain ⟨k,hk,rfl,he⟩:=hrel
  by_cases hlt : k < xs.length
  ·obtain ⟨x,hx⟩ : ∃ x,xs[k]? = some x:=⟨xs[k],List.getElem?_eq_getElem hlt⟩
   obtain ⟨b,off,rfl,c0,c1,c2,c3⟩:=U3.out k x hx
   obtain ⟨b',off',rfl,d0,d1,d2,d3⟩:=V3.out k x hx
   clear hx
   obtain ⟨xk,xa,xo,xn⟩:=x
   replace c0:=he.cell c0
   replace d0:=he.cell d0
   replace c1:=he.cell c1
   replace d1:=he.cell d1
   replace c2:=he.cell c2
   replace d2:=he.cell d2
   replace c3:=he.cell c3
   replace d3:=he.cell d3
   go_wp2_with fail
   refine wp_region_mono [none,none,none,none,none,none,none,none,none] (by kernel_rfl) (by kernel_rfl) ?_ ?_
   ·exact ⟨trivial,trivial,trivial,trivial,trivial,trivial,trivial,trivial,trivial,trivial⟩
   iterate 3 (refine wpM_p (fun K hK=>?_); go_simp; first | refine hK _ ?_ | refine ⟨(fun h=>by cases h),hK _ ?_⟩; clear hK K)
   refine wpM_q (.agg #[I xk,I xa,I xo,I xn]) rfl (fun w' hw'=>by have q0:=hw'.cell c0; have q1:=hw'.cell c1; have q2:=hw'.cell c2; have q3:=hw'.cell c3; go_simp) ?_
   refine wpM_norm (fun K hK=>?_); go_simp; refine hK _ ?_; clear hK K
   iterate 3 (refine wpM_p (fun K hK=>?_); go_simp; first | refine hK _ ?_ | refine ⟨(fun h=>by cases h),hK _ ?_⟩; clear hK K)
   refine wpM_q (.agg #[I xk,I xa,I xo,I xn]) rfl (fun w' hw'=>by have q0:=hw'.cell d0; have q1:=hw'.cell d1; have q2:=hw'.cell d2; have q3:=hw'.cell d3; go_simp) ?_
   refine wpM_norm (fun K hK=>?_); go_simp; refine hK _ ?_; clear hK K
   iterate 1 (refine wpM_p (fun K hK=>?_); go_simp; first | refine hK _ ?_ | refine ⟨(fun h=>by cases h),hK _ ?_⟩; clear hK K)
   refine wpM_nil ?_
   intro wn hen _
   clear c0 c1 c2 c3 d0 d1 d2 d3
   go_wp2
   go_roundw
   case rel=>exact ⟨k + 1,by omega,by go_num,he.trans hen⟩
   case measure=>simp [intOf]; omega
  ·go_wp2
   go_ret
   exact ⟨rfl,he⟩

set_option maxRecDepth 100000 in
set_option maxHeartbeats 2000000 in
theorem sameClient_eq (c : Cn) (x1 x2 x3 y1 y2 y3 : Value) (w : World) (hx : elCn w [x1,I c.at_,.bool c.sent,I c.gen,x2,x3] c) (hy : elCn w [y1,I c.at_,.bool c.sent,I c.gen,y2,y3] c) :
  Calls Try.prog 22 #[.agg #[x1,I c.at_,.bool c.sent,I c.gen,x2,x3],.agg #[y1,I c.at_,.bool c.sent,I c.gen,y2,y3]] w fun e w'=>e = .returned (.bool true) ∧ Ext w w':=by
 have HX:=Lib.hid (cn_iff.1 hx)
 have HY:=Lib.hid (cn_iff.1 hy)
 clear hx hy
 obtain ⟨cl,at_,sent,gen,bl,gl⟩:=c
 have EW:=Lib.hid (Ext.refl w)
 go_enter Try.func22,Try.ntmps22
 go_wp2_with ((with_reducible refine zst (L:=[43,40,30,67]) ?_ ?_); exact rfl)
 unfold Hid
 refine wpList_boxB rfl 67 (.tmp 0) rfl #[x1,I at_,.bool sent,I gen,x2,x3] rfl (fun b0 w1_ M1=>?_)
 have B_b0:=zmb M1
 replace EW:=zet EW M1
 go_wp2_with ((with_reducible refine zst (L:=[43,40,30,67]) ?_ ?_); exact rfl)
 unfold Hid
 refine wpList_boxB rfl 67 (.tmp 1) rfl #[y1,I at_,.bool sent,I gen,y2,y3] rfl (fun b1 w2_ M2=>?_)
 have D_b0_b1:=zld B_b0 M2
 replace B_b0:=zmo M2 B_b0
 have B_b1:=zmb M2
 replace EW:=zet EW M2
 have c0:=cell_of (i:=0) B_b0.out rfl
 have d0:=cell_of (i:=0) B_b1.out rfl
 have c1:=cell_of (i:=1) B_b0.out rfl
 have d1:=cell_of (i:=1) B_b1.out rfl
 have c2:=cell_of (i:=2) B_b0.out rfl
 have d2:=cell_of (i:=2) B_b1.out rfl
 have c3:=cell_of (i:=3) B_b0.out rfl
 have d3:=cell_of (i:=3) B_b1.out rfl
 have c4:=cell_of (i:=4) B_b0.out rfl
 have d4:=cell_of (i:=4) B_b1.out rfl
 have c5:=cell_of (i:=5) B_b0.out rfl
 have d5:=cell_of (i:=5) B_b1.out rfl
 go_wp2_with fail
 clear c0 c1 c2 c3 c4 c5 d0 d1 d2 d3 d4 d5
 refine Calls.exts (sameCl _ _ cl w2_ (HX.out.1.ext monoCl EW.out) (HY.out.1.ext monoCl EW.out)) (fun wa ea=>?_)
 replace B_b0:=zbx B_b0 ea
 replace B_b1:=zbx B_b1 ea
 replace EW:=Lib.hid (EW.out.trans ea)
 have c0:=cell_of (i:=0) B_b0.out rfl
 have d0:=cell_of (i:=0) B_b1.out rfl
 have c1:=cell_of (i:=1) B_b0.out rfl
 have d1:=cell_of (i:=1) B_b1.out rfl
 have c2:=cell_of (i:=2) B_b0.out rfl
 have d2:=cell_of (i:=2) B_b1.out rfl
 have c3:=cell_of (i:=3) B_b0.out rfl
 have d3:=cell_of (i:=3) B_b1.out rfl
 have c4:=cell_of (i:=4) B_b0.out rfl
 have d4:=cell_of (i:=4) B_b1.out rfl
 have c5:=cell_of (i:=5) B_b0.out rfl
 have d5:=cell_of (i:=5) B_b1.out rfl
 go_wp2_with fail
 clear c0 c1 c2 c3 c4 c5 d0 d1 d2 d3 d4 d5
 refine Calls.exts (sameBytes_eq _ _ bl wa (HX.out.2.1.ext monoBs EW.out) (HY.out.2.1.ext monoBs EW.out)) (fun wb eb=>?_)
 replace B_b0:=zbx B_b0 eb
 replace B_b1:=zbx B_b1 eb
 replace EW:=Lib.hid (EW.out.trans eb)
 have c0:=cell_of (i:=0) B_b0.out rfl
 have d0:=cell_of (i:=0) B_b1.out rfl
 have c1:=cell_of (i:=1) B_b0.out rfl
 have d1:=cell_of (i:=1) B_b1.out rfl
 have c2:=cell_of (i:=2) B_b0.out rfl
 have d2:=cell_of (i:=2) B_b1.out rfl
 have c3:=cell_of (i:=3) B_b0.out rfl
 have d3:=cell_of (i:=3) B_b1.out rfl
 have c4:=cell_of (i:=4) B_b0.out rfl
 have d4:=cell_of (i:=4) B_b1.out rfl
 have c5:=cell_of (i:=5) B_b0.out rfl
 have d5:=cell_of (i:=5) B_b1.out rfl
 go_wp2_with fail
 clear c0 c1 c2 c3 c4 c5 d0 d1 d2 d3 d4 d5
 refine Calls.exts (sameRp _ _ gl wb (HX.out.2.2.ext monoRp EW.out) (HY.out.2.2.ext monoRp EW.out)) (fun wc ec=>?_)
 replace B_b0:=zbx B_b0 ec
 replace B_b1:=zbx B_b1 ec
 replace EW:=Lib.hid (EW.out.trans ec)
 have c0:=cell_of (i:=0) B_b0.out rfl
 have d0:=cell_of (i:=0) B_b1.out rfl
 have c1:=cell_of (i:=1) B_b0.out rfl
 have d1:=cell_of (i:=1) B_b1.out rfl
 have c2:=cell_of (i:=2) B_b0.out rfl
 have d2:=cell_of (i:=2) B_b1.out rfl
 have c3:=cell_of (i:=3) B_b0.out rfl
 have d3:=cell_of (i:=3) B_b1.out rfl
 have c4:=cell_of (i:=4) B_b0.out rfl
 have d4:=cell_of (i:=4) B_b1.out rfl
 have c5:=cell_of (i:=5) B_b0.out rfl
 have d5:=cell_of (i:=5) B_b1.out rfl
 go_wp2
 go_ret
 exact ⟨rfl,EW.out⟩

/-- Clients, place by place. -/
theorem cns_form {w : World} {v : Value} {l : List Cn} (h : RowOf 6 elCn w v l) : ∃ ao cap,v = .slice ao l.length cap ∧ l.length ≤ cap ∧ cap ≤ maxLen ∧
  ∀ k x,l[k]? = some x → ∃ b off x1 x2 x3,ao = some ⟨b,off,none⟩ ∧ w.cell? ⟨b,off + k * 6,none⟩ = some x1 ∧ w.cell? ⟨b,off + k * 6 + 1,none⟩ = some (I x.at_) ∧ w.cell? ⟨b,off + k * 6 + 2,none⟩ = some (.bool x.sent) ∧ w.cell? ⟨b,off + k * 6 + 3,none⟩ = some (I x.gen) ∧
   w.cell? ⟨b,off + k * 6 + 4,none⟩ = some x2 ∧ w.cell? ⟨b,off + k * 6 + 5,none⟩ = some x3 ∧ elCn w [x1,I x.at_,.bool x.sent,I x.gen,x2,x3] x:=by
 obtain ⟨ao,cap,h1,h2,h3,-,h5⟩:=h.form (by decide)
 refine ⟨ao,cap,h1,h2,h3,fun k x hx=>?_⟩
 obtain ⟨b,off,c,e,-,hc,hcell⟩:=h5 k x hx
 obtain ⟨x1,x2,x3,rfl,hc'⟩:=hc
 exact ⟨b,off,x1,x2,x3,e,hcell 0 _ rfl,by rw [Nat.add_assoc]; exact hcell 1 _ rfl,by rw [Nat.add_assoc]; exact hcell 2 _ rfl,by rw [Nat.add_assoc]; exact hcell 3 _ rfl,by rw [Nat.add_assoc]; exact hcell 4 _ rfl,by rw [Nat.add_assoc]; exact hcell 5 _ rfl,x1,x2,x3,rfl,hc'⟩

set_option maxRecDepth 100000 in
set_option maxHeartbeats 8000000 in
theorem sameMachine_eq (m : Mc) (c u a p box plan cl c' u' a' p' box' plan' cl' : Value) (w : World) {A A' : Nat → Prop} (hx : RdM A w m c u a p box plan cl) (hy : RdM A' w m c' u' a' p' box' plan' cl') :
  Calls Try.prog 10 #[.agg (cells20 m c u a p box plan cl).toArray,.agg (cells20 m c' u' a' p' box' plan' cl').toArray] w fun e w'=>e = .returned (.bool true) ∧ Ext w w':=by
 obtain ⟨ka,kc,rfl,k1,k2,k3⟩:=cns_form hx.clients.out
 obtain ⟨ja,jc,rfl,j1,j2,j3⟩:=cns_form hy.clients.out
 unfold maxLen at k2 j2
 have S1:=Lib.hid (st_iff.2 ⟨hx.cells.out,hx.undo.out,hx.answers.out,hx.past.out⟩)
 have S2:=Lib.hid (st_iff.2 ⟨hy.cells.out,hy.undo.out,hy.answers.out,hy.past.out⟩)
 have V1:=Lib.hid (And.intro hx.box.out hx.plan.out)
 have V2:=Lib.hid (And.intro hy.box.out hy.plan.out)
 have K3:=Lib.hid k3
 have J3:=Lib.hid j3
 clear hx hy k3 j3
 obtain ⟨⟨sc,su,sa,sp⟩,⟨gen,bl,busy,⟨nc,nt,⟨nk,na,no,nn⟩⟩,pl,⟨se,sn⟩⟩,up,pause,falls,cls⟩:=m
 have EW:=Lib.hid (Ext.refl w)
 go_enter Try.func10,Try.ntmps10
 go_wp2_with ((with_reducible refine zst (L:=[43,40,30,67]) ?_ ?_); exact rfl)
 unfold Hid
 refine wpList_boxB rfl 43 (.tmp 0) rfl #[c,u,a,p,I gen,box,.bool busy,I nc,I nt,I nk,I na,I no,I nn,plan,I se,I sn,.bool up,I pause,I falls,.slice ka cls.length kc] rfl (fun b0 w1_ M1=>?_)
 have B_b0:=zmb M1
 replace EW:=zet EW M1
 go_wp2_with ((with_reducible refine zst (L:=[43,40,30,67]) ?_ ?_); exact rfl)
 unfold Hid
 refine wpList_boxB rfl 43 (.tmp 1) rfl #[c',u',a',p',I gen,box',.bool busy,I nc,I nt,I nk,I na,I no,I nn,plan',I se,I sn,.bool up,I pause,I falls,.slice ja cls.length jc] rfl (fun b1 w2_ M2=>?_)
 have D_b0_b1:=zld B_b0 M2
 replace B_b0:=zmo M2 B_b0
 have B_b1:=zmb M2
 replace EW:=zet EW M2
 have c0:=cell_of (i:=0) B_b0.out rfl
 have d0:=cell_of (i:=0) B_b1.out rfl
 have c1:=cell_of (i:=1) B_b0.out rfl
 have d1:=cell_of (i:=1) B_b1.out rfl
 have c2:=cell_of (i:=2) B_b0.out rfl
 have d2:=cell_of (i:=2) B_b1.out rfl
 have c3:=cell_of (i:=3) B_b0.out rfl
 have d3:=cell_of (i:=3) B_b1.out rfl
 have c4:=cell_of (i:=4) B_b0.out rfl
 have d4:=cell_of (i:=4) B_b1.out rfl
 have c5:=cell_of (i:=5) B_b0.out rfl
 have d5:=cell_of (i:=5) B_b1.out rfl
 have c6:=cell_of (i:=6) B_b0.out rfl
 have d6:=cell_of (i:=6) B_b1.out rfl
 have c7:=cell_of (i:=7) B_b0.out rfl
 have d7:=cell_of (i:=7) B_b1.out rfl
 have c8:=cell_of (i:=8) B_b0.out rfl
 have d8:=cell_of (i:=8) B_b1.out rfl
 have c9:=cell_of (i:=9) B_b0.out rfl
 have d9:=cell_of (i:=9) B_b1.out rfl
 have c10:=cell_of (i:=10) B_b0.out rfl
 have d10:=cell_of (i:=10) B_b1.out rfl
 have c11:=cell_of (i:=11) B_b0.out rfl
 have d11:=cell_of (i:=11) B_b1.out rfl
 have c12:=cell_of (i:=12) B_b0.out rfl
 have d12:=cell_of (i:=12) B_b1.out rfl
 have c13:=cell_of (i:=13) B_b0.out rfl
 have d13:=cell_of (i:=13) B_b1.out rfl
 have c14:=cell_of (i:=14) B_b0.out rfl
 have d14:=cell_of (i:=14) B_b1.out rfl
 have c15:=cell_of (i:=15) B_b0.out rfl
 have d15:=cell_of (i:=15) B_b1.out rfl
 have c16:=cell_of (i:=16) B_b0.out rfl
 have d16:=cell_of (i:=16) B_b1.out rfl
 have c17:=cell_of (i:=17) B_b0.out rfl
 have d17:=cell_of (i:=17) B_b1.out rfl
 have c18:=cell_of (i:=18) B_b0.out rfl
 have d18:=cell_of (i:=18) B_b1.out rfl
 have c19:=cell_of (i:=19) B_b0.out rfl
 have d19:=cell_of (i:=19) B_b1.out rfl
 go_wp2_with fail
 clear c0 c1 c2 c3 c4 c5 c6 c7 c8 c9 c10 c11 c12 c13 c14 c15 c16 c17 c18 c19 d0 d1 d2 d3 d4 d5 d6 d7 d8 d9 d10 d11 d12 d13 d14 d15 d16 d17 d18 d19
 refine Calls.exts (sameStore_eq _ _ _ _ _ _ _ _ ⟨sc,su,sa,sp⟩ w2_ (monoSt _ _ _ _ EW.out S1.out) (monoSt _ _ _ _ EW.out S2.out)) (fun wa ea=>?_)
 replace B_b0:=zbx B_b0 ea
 replace B_b1:=zbx B_b1 ea
 replace EW:=Lib.hid (EW.out.trans ea)
 have c0:=cell_of (i:=0) B_b0.out rfl
 have d0:=cell_of (i:=0) B_b1.out rfl
 have c1:=cell_of (i:=1) B_b0.out rfl
 have d1:=cell_of (i:=1) B_b1.out rfl
 have c2:=cell_of (i:=2) B_b0.out rfl
 have d2:=cell_of (i:=2) B_b1.out rfl
 have c3:=cell_of (i:=3) B_b0.out rfl
 have d3:=cell_of (i:=3) B_b1.out rfl
 have c4:=cell_of (i:=4) B_b0.out rfl
 have d4:=cell_of (i:=4) B_b1.out rfl
 have c5:=cell_of (i:=5) B_b0.out rfl
 have d5:=cell_of (i:=5) B_b1.out rfl
 have c6:=cell_of (i:=6) B_b0.out rfl
 have d6:=cell_of (i:=6) B_b1.out rfl
 have c7:=cell_of (i:=7) B_b0.out rfl
 have d7:=cell_of (i:=7) B_b1.out rfl
 have c8:=cell_of (i:=8) B_b0.out rfl
 have d8:=cell_of (i:=8) B_b1.out rfl
 have c9:=cell_of (i:=9) B_b0.out rfl
 have d9:=cell_of (i:=9) B_b1.out rfl
 have c10:=cell_of (i:=10) B_b0.out rfl
 have d10:=cell_of (i:=10) B_b1.out rfl
 have c11:=cell_of (i:=11) B_b0.out rfl
 have d11:=cell_of (i:=11) B_b1.out rfl
 have c12:=cell_of (i:=12) B_b0.out rfl
 have d12:=cell_of (i:=12) B_b1.out rfl
 have c13:=cell_of (i:=13) B_b0.out rfl
 have d13:=cell_of (i:=13) B_b1.out rfl
 have c14:=cell_of (i:=14) B_b0.out rfl
 have d14:=cell_of (i:=14) B_b1.out rfl
 have c15:=cell_of (i:=15) B_b0.out rfl
 have d15:=cell_of (i:=15) B_b1.out rfl
 have c16:=cell_of (i:=16) B_b0.out rfl
 have d16:=cell_of (i:=16) B_b1.out rfl
 have c17:=cell_of (i:=17) B_b0.out rfl
 have d17:=cell_of (i:=17) B_b1.out rfl
 have c18:=cell_of (i:=18) B_b0.out rfl
 have d18:=cell_of (i:=18) B_b1.out rfl
 have c19:=cell_of (i:=19) B_b0.out rfl
 have d19:=cell_of (i:=19) B_b1.out rfl
 go_wp2_with fail
 clear c0 c1 c2 c3 c4 c5 c6 c7 c8 c9 c10 c11 c12 c13 c14 c15 c16 c17 c18 c19 d0 d1 d2 d3 d4 d5 d6 d7 d8 d9 d10 d11 d12 d13 d14 d15 d16 d17 d18 d19
 refine Calls.exts (sameServer_eq ⟨gen,bl,busy,⟨nc,nt,⟨nk,na,no,nn⟩⟩,pl,⟨se,sn⟩⟩ _ _ _ _ wa ⟨V1.out.1.ext monoBs EW.out,V1.out.2.ext EW.out⟩ ⟨V2.out.1.ext monoBs EW.out,V2.out.2.ext EW.out⟩) (fun wb eb=>?_)
 replace B_b0:=zbx B_b0 eb
 replace B_b1:=zbx B_b1 eb
 replace EW:=Lib.hid (EW.out.trans eb)
 have c0:=cell_of (i:=0) B_b0.out rfl
 have d0:=cell_of (i:=0) B_b1.out rfl
 have c1:=cell_of (i:=1) B_b0.out rfl
 have d1:=cell_of (i:=1) B_b1.out rfl
 have c2:=cell_of (i:=2) B_b0.out rfl
 have d2:=cell_of (i:=2) B_b1.out rfl
 have c3:=cell_of (i:=3) B_b0.out rfl
 have d3:=cell_of (i:=3) B_b1.out rfl
 have c4:=cell_of (i:=4) B_b0.out rfl
 have d4:=cell_of (i:=4) B_b1.out rfl
 have c5:=cell_of (i:=5) B_b0.out rfl
 have d5:=cell_of (i:=5) B_b1.out rfl
 have c6:=cell_of (i:=6) B_b0.out rfl
 have d6:=cell_of (i:=6) B_b1.out rfl
 have c7:=cell_of (i:=7) B_b0.out rfl
 have d7:=cell_of (i:=7) B_b1.out rfl
 have c8:=cell_of (i:=8) B_b0.out rfl
 have d8:=cell_of (i:=8) B_b1.out rfl
 have c9:=cell_of (i:=9) B_b0.out rfl
 have d9:=cell_of (i:=9) B_b1.out rfl
 have c10:=cell_of (i:=10) B_b0.out rfl
 have d10:=cell_of (i:=10) B_b1.out rfl
 have c11:=cell_of (i:=11) B_b0.out rfl
 have d11:=cell_of (i:=11) B_b1.out rfl
 have c12:=cell_of (i:=12) B_b0.out rfl
 have d12:=cell_of (i:=12) B_b1.out rfl
 have c13:=cell_of (i:=13) B_b0.out rfl
 have d13:=cell_of (i:=13) B_b1.out rfl
 have c14:=cell_of (i:=14) B_b0.out rfl
 have d14:=cell_of (i:=14) B_b1.out rfl
 have c15:=cell_of (i:=15) B_b0.out rfl
 have d15:=cell_of (i:=15) B_b1.out rfl
 have c16:=cell_of (i:=16) B_b0.out rfl
 have d16:=cell_of (i:=16) B_b1.out rfl
 have c17:=cell_of (i:=17) B_b0.out rfl
 have d17:=cell_of (i:=17) B_b1.out rfl
 have c18:=cell_of (i:=18) B_b0.out rfl
 have d18:=cell_of (i:=18) B_b1.out rfl
 have c19:=cell_of (i:=19) B_b0.out rfl
 have d19:=cell_of (i:=19) B_b1.out rfl
 go_wp2
 clear c0 c1 c2 c3 c4 c5 c6 c7 c8 c9 c10 c11 c12 c13 c14 c15 c16 c17 c18 c19 d0 d1 d2 d3 d4 d5 d6 d7 d8 d9 d10 d11 d12 d13 d14 d15 d16 d17 d18 d19
 go_loopw [53] (fun i wr=>∃ k : Nat,k ≤ cls.length ∧ i = I k ∧ Ext wb wr) (fun i _=>cls.length - (intOf i).toNat)
 case atStart=>exact ⟨0,by omega,rfl,Ext.refl _⟩
 case round =>
  obtain ⟨k,hk,rfl,he⟩:=hrel
  by_cases hlt : k < cls.length
  ·obtain ⟨x,hx⟩ : ∃ x,cls[k]? = some x:=⟨cls[k],List.getElem?_eq_getElem hlt⟩
   obtain ⟨b,off,x1,x2,x3,rfl,c0,c1,c2,c3,c4,c5,g1⟩:=K3.out k x hx
   obtain ⟨b',off',y1,y2,y3,rfl,d0,d1,d2,d3,d4,d5,g2⟩:=J3.out k x hx
   clear hx
   have mr : Ext w wr:=EW.out.trans he
   replace g1:=monoCn _ _ _ _ mr g1
   replace g2:=monoCn _ _ _ _ mr g2
   have f0:=cell_of (i:=19) (blk_ext B_b0.out he) rfl
   have f1:=cell_of (i:=19) (blk_ext B_b1.out he) rfl
   replace c0:=mr.cell c0
   replace d0:=mr.cell d0
   replace c1:=mr.cell c1
   replace d1:=mr.cell d1
   replace c2:=mr.cell c2
   replace d2:=mr.cell d2
   replace c3:=mr.cell c3
   replace d3:=mr.cell d3
   replace c4:=mr.cell c4
   replace d4:=mr.cell d4
   replace c5:=mr.cell c5
   replace d5:=mr.cell d5
   go_wp2_with fail
   refine wp_region_mono [none,none,none,none,none,none,none,none,none,none,some (.inl (.bool true)),none] (by kernel_rfl) (by kernel_rfl) ?_ ?_
   ·exact ⟨trivial,trivial,trivial,trivial,trivial,trivial,trivial,trivial,trivial,trivial,trivial,trivial,trivial⟩
   iterate 1 (refine wpM_p (fun K hK=>?_); go_simp; first | refine hK _ ?_ | refine ⟨(fun h=>by cases h),hK _ ?_⟩; clear hK K)
   refine wpM_q (.slice (some ⟨b,off,none⟩) cls.length kc) rfl (fun w' hw'=>by have q0:=hw'.cell f0; go_simp) ?_
   refine wpM_norm (fun K hK=>?_); go_simp; refine hK _ ?_; clear hK K
   iterate 2 (refine wpM_p (fun K hK=>?_); go_simp; first | refine hK _ ?_ | refine ⟨(fun h=>by cases h),hK _ ?_⟩; clear hK K)
   refine wpM_q (.agg #[x1,I x.at_,.bool x.sent,I x.gen,x2,x3]) rfl (fun w' hw'=>by have q0:=hw'.cell c0; have q1:=hw'.cell c1; have q2:=hw'.cell c2; have q3:=hw'.cell c3; have q4:=hw'.cell c4; have q5:=hw'.cell c5; go_simp) ?_
   refine wpM_norm (fun K hK=>?_); go_simp; refine hK _ ?_; clear hK K
   iterate 1 (refine wpM_p (fun K hK=>?_); go_simp; first | refine hK _ ?_ | refine ⟨(fun h=>by cases h),hK _ ?_⟩; clear hK K)
   refine wpM_q ((.slice (some ⟨b',off',none⟩) cls.length jc)) rfl (fun w' hw'=>by have q0:=hw'.cell f1; go_simp) ?_
   refine wpM_norm (fun K hK=>?_); go_simp; refine hK _ ?_; clear hK K
   iterate 2 (refine wpM_p (fun K hK=>?_); go_simp; first | refine hK _ ?_ | refine ⟨(fun h=>by cases h),hK _ ?_⟩; clear hK K)
   refine wpM_q (.agg #[y1,I x.at_,.bool x.sent,I x.gen,y2,y3]) rfl (fun w' hw'=>by have q0:=hw'.cell d0; have q1:=hw'.cell d1; have q2:=hw'.cell d2; have q3:=hw'.cell d3; have q4:=hw'.cell d4; have q5:=hw'.cell d5; go_simp) ?_
   refine wpM_norm (fun K hK=>?_); go_simp; refine hK _ ?_; clear hK K
   refine wpM_x _ rfl (fun w' hw' hk=>?_) ?_
   ·have hcs:=(sameClient_eq x x1 x2 x3 y1 y2 y3 w' (monoCn _ _ _ _ hw' g1) (monoCn _ _ _ _ hw' g2)).mono (R':=fun e w''=>∃ v,e = .returned v ∧ Ext w' w'' ∧ v = .bool true) (fun e w'' h=>⟨_,h.1,h.2,rfl⟩)
    clear hk
    unfold makes
    go_simp
    exact ⟨Ext.refl _,hcs⟩
   refine wpM_norm (fun K hK=>?_); go_simp; refine hK _ ?_; clear hK K
   iterate 1 (refine wpM_p (fun K hK=>?_); go_simp; first | refine hK _ ?_ | refine ⟨(fun h=>by cases h),hK _ ?_⟩; clear hK K)
   refine wpM_nil ?_
   intro wn hen _
   clear c0 c1 c2 c3 c4 c5 d0 d1 d2 d3 d4 d5 f0 f1 g1 g2 mr
   go_wp2
   go_roundw
   case rel=>exact ⟨k + 1,by omega,by go_num,he.trans hen⟩
   case measure=>simp [intOf]; omega
  ·have mr : Ext w wr:=EW.out.trans he
   go_wp2
   go_ret
   exact ⟨rfl,mr⟩

end Go.Proofs.Ytdmipnnfoolelad

namespace Go.Proofs.Ytdmipnnfoolelad
open Go.RowKit Go.Mk

theorem small_inv {l : List (List Cl)} (hl : rightL l) {m : Mc} {ks : List Nat} {bz : Option Nat} (h : MInv l m ks bz) {k : Nat} (hs : SizeM m k) (hk : k ≤ 1000) : SmallM m:=by
 have h1:=h.cells
 have h2:=hs.undo
 have h3:=hs.answers
 have h4:=hs.past
 have h5:=hs.box
 refine ⟨⟨by omega,by omega,by omega,by omega⟩,⟨by omega,fun b hb=>?_,?_⟩,by rw [h.nc]; have:=hl.1; omega,fun c hc=>?_⟩
 ·rw [h.box] at hb
  obtain ⟨k,_,rfl⟩:=List.mem_map.1 hb
  exact Nat.le_trans (Nat.le_of_eq rfl) (by decide : (10 : Nat) ≤ 140737488355328)
 ·cases hz : bz with
  | none=>rw [h.idle hz]; exact Nat.zero_le _
  | some i=>have:=(h.work i hz).2.2.2.2; omega
 ·obtain ⟨i,hi⟩:=List.mem_iff_getElem?.1 hc
  have hci:=h.clients i c hi
  have h6:=hs.each c hc
  refine ⟨?_,by omega,fun b hb=>?_,by omega⟩
  ·rw [hci.calls,List.getD_eq_getElem?_getD]
   cases e : l[i]? with
   | none=>simp
   | some x=>have:=(hl.2 x (List.mem_of_getElem? e)).1; simp; omega
  ·cases hci.phase with
   | rest _ _ _ e _=>rw [e] at hb; cases hb
   | wait _ _ _ _ e _=>rw [e] at hb; cases hb
   | work _ _ _ _ e _ _=>rw [e] at hb; cases hb
   | lost _ _ _ e _ _=>rw [e] at hb; cases hb
   | hear _ _ _ _ e =>
    rw [e] at hb
    rw [List.mem_singleton.1 hb]
    exact Nat.le_trans (Nat.le_of_eq rfl) (by decide : (8 : Nat) ≤ 140737488355328)

/-- What is known of a machine: it came of steps of right clients, so many. -/
structure Gd (l : List (List Cl)) (m : Mc) (k : Nat) : Prop where
 right : rightL l
 inv : ∃ ks bz,MInv l m ks bz
 size : SizeM m k
theorem gd_play {l : List (List Cl)} (hl : rightL l) (steps : List (Int × Int)) : Gd l (playM (newMc l) (steps.take 400)) 400 :=
 ⟨hl,inv_all hl _,(size_play (size_new l) (steps.take 400)).mono (by rw [List.length_take]; omega)⟩
theorem gd_fall {l : List (List Cl)} {m : Mc} {k : Nat} (h : Gd l m k) : Gd l (fallM m).1 (k + 1):=by
 obtain ⟨h1,⟨ks,bz,h2⟩,h3⟩:=h
 exact ⟨h1,inv_fall h2,size_do h3 3 0⟩
theorem gd_tick {l : List (List Cl)} {m : Mc} {k : Nat} (h : Gd l m k) : Gd l (tickM m) (k + 1):=by
 obtain ⟨h1,⟨ks,bz,h2⟩,h3⟩:=h
 exact ⟨h1,inv_tick h2,size_do h3 4 0⟩
section
variable {l : List (List Cl)} {m : Mc} {k : Nat}
theorem Gd.small (h : Gd l m k) (hk : k ≤ 1000) : SmallM m:=by
 obtain ⟨h1,⟨ks,bz,h2⟩,h3⟩:=h
 exact small_inv h1 h2 h3 hk
theorem Gd.falls (h : Gd l m k) : 0 ≤ m.falls ∧ m.falls ≤ 6:=by
 obtain ⟨_,⟨ks,bz,h2⟩,_⟩:=h
 exact h2.falls
theorem Gd.cells (h : Gd l m k) : m.store.cells.length * 8 ≤ 140737488355328:=by
 obtain ⟨_,⟨ks,bz,h2⟩,_⟩:=h
 have:=h2.cells
 omega
theorem Gd.down (h : Gd l m k) (hu : m.up = false) : 1 ≤ m.pause ∧ m.pause ≤ 1000000:=by
 obtain ⟨_,⟨ks,bz,h2⟩,_⟩:=h
 have:=h2.down hu
 omega
theorem Gd.pause (h : Gd l m k) : 0 ≤ m.pause ∧ m.pause ≤ 1000000:=by
 obtain ⟨_,⟨ks,bz,h2⟩,_⟩:=h
 cases hu : m.up with
 | true=>have:=h2.upp hu; omega
 | false=>have:=h2.down hu; omega
theorem Gd.gen (h : Gd l m k) : 0 ≤ m.server.gen ∧ m.server.gen ≤ 1000000:=by
 obtain ⟨_,⟨ks,bz,h2⟩,_⟩:=h
 obtain ⟨g1,g2,g3⟩:=h2.gens
 have hf:=h2.falls
 cases hu : m.up with
 | true=>have:=g2 hu; omega
 | false=>have:=g3 hu; omega
end

/-- A machine's value. -/
def McAt (m : Mc) (r : Value) (w : World) : Prop:=∃ c u a p box plan cl,r = .agg (cells20 m c u a p box plan cl).toArray ∧ RdM (fun _=>True) w m c u a p box plan cl
theorem McAt.ext {m : Mc} {r : Value} {w w' : World} (h : McAt m r w) (he : Ext w w') : McAt m r w':=by
 obtain ⟨c,u,a,p,box,plan,cl,e,h⟩:=h
 exact ⟨c,u,a,p,box,plan,cl,e,h.ext he⟩
theorem mcAt_of {P : Program} {f : FuncId} {args : Array Value} {w : World} {A : Nat → Prop} {m : Mc} (h : Keeps P f args w A (fun r w'=>Agg elMc m r w')) : Gives P f args w (McAt m):=Calls.mono h fun _ w' ⟨r,he,hx,ht⟩=>⟨r,he,hx,by
 obtain ⟨cs,rfl,hcs⟩:=rd_agg ht
 obtain ⟨c,u,a,p,box,plan,cl,rfl,hM⟩:=rd_mc hcs
 exact ⟨c,u,a,p,box,plan,cl,rfl,hM.widen fun _ _ _=>trivial⟩⟩
/-- A store's value. -/
def StAt (s : St) (r : Value) (w : World) : Prop:=∃ c u a p,r = .agg #[c,u,a,p] ∧ elSt w [c,u,a,p] s
theorem StAt.ext {s : St} {r : Value} {w w' : World} (h : StAt s r w) (he : Ext w w') : StAt s r w':=by
 obtain ⟨c,u,a,p,e,h⟩:=h
 exact ⟨c,u,a,p,e,monoSt _ _ _ _ he h⟩
theorem stAt_of {P : Program} {f : FuncId} {args : Array Value} {w : World} {A : Nat → Prop} {s : St} (h : Keeps P f args w A (fun r w'=>Agg elSt s r w')) : Gives P f args w (StAt s):=Calls.mono h fun _ w' ⟨r,he,hx,ht⟩=>⟨r,he,hx,by
 obtain ⟨cs,rfl,hcs⟩:=rd_agg ht
 obtain ⟨c,u,a,p,rfl,_⟩:=rd_st hcs
 exact ⟨c,u,a,p,rfl,hcs.out⟩⟩

/-- A guarded load of a struct. -/
theorem wpList_loadG {P : Program} {ops : Array Oper} {rest : List Oper} {o : Oper} {a : Act} {w : World} {Q : Exit → Act → World → Prop} (hw : Region.wanted o (yielded ops a.tmps) = true) (ty : TypeId) (x : Operand) (ho : o.op = .load ty x) (b off : Nat) (hx : a.eval x = .pointer (some ⟨b,off,none⟩)) {cs : Array Value} {t : TypeId} (hg : Hid (w.heap[b]? = some (.cells cs t (0,0))))
  (vs : List Value) (hsub : (cs.toList.drop off).take vs.length = vs) {fs : Array Field} (hu : P.underlying ty = some (.struct fs)) (hi : (P.info? ty).map (·.size) = some vs.length)
  (h : ∀ v,Hid (v = .agg vs.toArray) → wpList P ops Q rest (a.put o.dst v) w) : wpList P ops Q (o :: rest) a w:=by
 refine wpList_step fun K hK=>?_
 rw [if_pos hw]
 unfold Oper.wp
 rw [run_loadM ty x ho b off hx hg.out vs hsub hu hi,Oper.upon_value]
 exact hK _ _ (h _ rfl)

theorem zgrG {w : World} {B C : Nat → Prop} {b : Nat} {x : Obj} (h : Hid (∀ k,C k ↔ (B k ∨ w.heap.size ≤ k))) (n : Hid (¬ B b)) (hb : Hid (w.heap[b]? = some x)) : Hid (¬ C b):=fun q=>by
 rcases (h.out _).1 q with q | q
 ·exact n.out q
 ·have:=(Array.getElem?_eq_some_iff.1 hb.out).1
  omega

end Go.Proofs.Ytdmipnnfoolelad

namespace Go.Proofs.Ytdmipnnfoolelad
open Go.RowKit Go.Mk

set_option maxRecDepth 100000 in
set_option maxHeartbeats 2000000 in
theorem refDo_none (m : Mc) (c u a p box plan cl : Value) (kind : Int) (n : Int) (w : World) (A : Nat → Prop) (h : RdM A w m c u a p box plan cl) (h1 : kind ≠ 1) (h2 : kind ≠ 2) (h3 : kind ≠ 3) (h4 : kind ≠ 4) :
  Keeps Try.prog 20 #[.agg (cells20 m c u a p box plan cl).toArray,.agg #[I kind,I n]] w A (fun r w'=>TupE elMc (doM m kind n).1 (doM m kind n).2 r w'):=by
 unfold Keeps
 obtain ⟨ca,cc,ua,uc,aa,ac,pa,pc,xa,xc,la,lc,ka,kc,rfl,rfl,rfl,rfl,rfl,rfl,rfl⟩:=h.slices
 obtain ⟨⟨sc,su,sa,sp⟩,⟨gen,bl,busy,⟨nc,nt,⟨nk,na,no,nn⟩⟩,pl,⟨se,sn⟩⟩,up,pause,falls,cls⟩:=m
 simp only [cells20] at *
 have EW:=Lib.hid (Ext.refl w)
 obtain ⟨B,hB⟩:=away A w.heap.size 3
 have HK:=Lib.hid hB
 clear hB
 have H:=Lib.hid (h.widen HK.out.1)
 clear h
 have hX : doM ⟨⟨sc,su,sa,sp⟩,⟨gen,bl,busy,⟨nc,nt,⟨nk,na,no,nn⟩⟩,pl,⟨se,sn⟩⟩,up,pause,falls,cls⟩ kind n = (⟨⟨sc,su,sa,sp⟩,⟨gen,bl,busy,⟨nc,nt,⟨nk,na,no,nn⟩⟩,pl,⟨se,sn⟩⟩,up,pause,falls,cls⟩,1):=by
  unfold doM
  rw [if_neg h1,if_neg h2,if_neg h3,if_neg h4]
 rw [hX]
 have e1 : (kind == 1) = false:=by simpa using h1
 have e2 : (kind == 2) = false:=by simpa using h2
 have e3 : (kind == 3) = false:=by simpa using h3
 have e4 : (kind == 4) = false:=by simpa using h4
 clear hX h1 h2 h3 h4
 go_enter Try.func20,Try.ntmps20
 go_wp2_with ((with_reducible refine zst (L:=[43,40,30,67]) ?_ ?_); exact rfl)
 unfold Hid
 refine wpList_boxB rfl 43 (.tmp 0) rfl #[.slice ca sc.length cc,.slice ua su.length uc,.slice aa sa.length ac,.slice pa sp.length pc,I gen,.slice xa bl.length xc,.bool busy,I nc,I nt,I nk,I na,I no,I nn,.slice la pl.length lc,I se,I sn,.bool up,I pause,I falls,.slice ka cls.length kc] rfl (fun b0 w1_ M1=>?_)
 have B_b0:=zmb M1
 replace H:=Lib.hid (H.out.ext M1.out.ext)
 replace EW:=zet EW M1
 go_wp2_with ((with_reducible refine zst (L:=[43,40,30,67]) ?_ ?_); exact rfl)
 unfold Hid
 refine wpList_boxB rfl 60 (.tmp 1) rfl #[I kind,I n] rfl (fun b1 w2_ M2=>?_)
 have D_b0_b1:=zld B_b0 M2
 replace B_b0:=zmo M2 B_b0
 have B_b1:=zmb M2
 replace H:=Lib.hid (H.out.ext M2.out.ext)
 replace EW:=zet EW M2
 go_wp2_with ((with_reducible refine zst (L:=[43,40,30,67]) ?_ ?_); exact rfl)
 unfold Hid
 refine wpList_allocB rfl 43 #[.slice none 0 0,.slice none 0 0,.slice none 0 0,.slice none 0 0,I 0,.slice none 0 0,.bool false,I 0,I 0,I 0,I 0,I 0,I 0,.slice none 0 0,I 0,I 0,.bool false,I 0,I 0,.slice none 0 0] (by kernel_rfl) (fun b2 w3_ M3=>?_)
 have D_b0_b2:=zld B_b0 M3
 have D_b1_b2:=zld B_b1 M3
 replace B_b0:=zmo M3 B_b0
 replace B_b1:=zmo M3 B_b1
 have B_b2:=zmb M3
 replace H:=Lib.hid (H.out.ext M3.out.ext)
 replace EW:=zet EW M3
 have A_b0 : Hid (b0 = w.heap.size + 0):=by unfold Hid; have q0:=M1.out.at_; have r0:=M1.out.size; omega
 have N_b0:=znb HK A_b0 (by decide)
 have O_b0:=zob A_b0
 have A_b1 : Hid (b1 = w.heap.size + 1):=by unfold Hid; have q0:=M1.out.at_; have r0:=M1.out.size; have q1:=M2.out.at_; have r1:=M2.out.size; omega
 have N_b1:=znb HK A_b1 (by decide)
 have O_b1:=zob A_b1
 have A_b2 : Hid (b2 = w.heap.size + 2):=by unfold Hid; have q0:=M1.out.at_; have r0:=M1.out.size; have q1:=M2.out.at_; have r1:=M2.out.size; have q2:=M3.out.at_; have r2:=M3.out.size; omega
 have N_b2:=znb HK A_b2 (by decide)
 have O_b2:=zob A_b2
 have k0:=cell_of (i:=0) B_b1.out rfl
 go_wp2_with ((with_reducible refine zst (L:=[43,40,30,67]) ?_ ?_); exact rfl)
 unfold Hid
 clear k0
 refine wpList_loadW rfl 43 (.tmp 2) rfl b0 rfl B_b0 Try.underlying43 (by kernel_rfl) (fun v132 H_v132=>?_)
 go_wp2_with ((with_reducible refine zst (L:=[43,40,30,67]) ?_ ?_); exact rfl)
 unfold Hid
 refine wpList_storeW rfl 43 (.tmp 4) (.tmp 132) rfl b2 rfl _ (zcv H_v132) B_b2 rfl (by kernel_rfl) rfl (fun w4_ M4=>?_)
 replace B_b0:=zwl M4 B_b0 D_b0_b2
 replace B_b1:=zwl M4 B_b1 D_b1_b2
 replace B_b2:=zwb M4
 replace H:=Lib.hid (M4.out.rdM H.out N_b2.out)
 replace EW:=zwe M4 EW O_b2
 go_wp2
 have z0:=run_box (P:=Try.prog) 43 B_b2.out Try.underlying43 (by kernel_rfl)
 refine bodyPost_ret (by simp [results,Try.results20,asAddr,z0]; rfl) rfl ?_
 exact ⟨_,rfl,EW.out,Rd.widen (A:=B) (tupE_rd (RdM.mc (m:=⟨⟨sc,su,sa,sp⟩,⟨gen,bl,busy,⟨nc,nt,⟨nk,na,no,nn⟩⟩,pl,⟨se,sn⟩⟩,up,pause,falls,cls⟩) H.out)) (fun k _ h=>HK.out.2.2.2 k h)⟩

set_option maxRecDepth 100000 in
set_option maxHeartbeats 2000000 in
theorem refDo_fall (m : Mc) (c u a p box plan cl : Value) (n : Int) (w : World) (A : Nat → Prop) (h : RdM A w m c u a p box plan cl) (hf : 0 ≤ m.falls) :
  Keeps Try.prog 20 #[.agg (cells20 m c u a p box plan cl).toArray,.agg #[I 3,I n]] w A (fun r w'=>TupE elMc (doM m 3 n).1 (doM m 3 n).2 r w'):=by
 unfold Keeps
 obtain ⟨ca,cc,ua,uc,aa,ac,pa,pc,xa,xc,la,lc,ka,kc,rfl,rfl,rfl,rfl,rfl,rfl,rfl⟩:=h.slices
 obtain ⟨⟨sc,su,sa,sp⟩,⟨gen,bl,busy,⟨nc,nt,⟨nk,na,no,nn⟩⟩,pl,⟨se,sn⟩⟩,up,pause,falls,cls⟩:=m
 simp only [cells20] at *
 have EW:=Lib.hid (Ext.refl w)
 obtain ⟨B,hB⟩:=away A w.heap.size 3
 have HK:=Lib.hid hB
 clear hB
 have H:=Lib.hid (h.widen HK.out.1)
 clear h
 obtain ⟨FX,FE,hFM⟩ : ∃ x y,fallM ⟨⟨sc,su,sa,sp⟩,⟨gen,bl,busy,⟨nc,nt,⟨nk,na,no,nn⟩⟩,pl,⟨se,sn⟩⟩,up,pause,falls,cls⟩ = (x,y):=⟨_,_,rfl⟩
 have hX : doM ⟨⟨sc,su,sa,sp⟩,⟨gen,bl,busy,⟨nc,nt,⟨nk,na,no,nn⟩⟩,pl,⟨se,sn⟩⟩,up,pause,falls,cls⟩ 3 n = fallM ⟨⟨sc,su,sa,sp⟩,⟨gen,bl,busy,⟨nc,nt,⟨nk,na,no,nn⟩⟩,pl,⟨se,sn⟩⟩,up,pause,falls,cls⟩:=rfl
 rw [hX,hFM]
 have HFM:=Lib.hid hFM
 clear hX hFM
 go_enter Try.func20,Try.ntmps20
 go_wp2_with ((with_reducible refine zst (L:=[43,40,30,67]) ?_ ?_); exact rfl)
 unfold Hid
 refine wpList_boxB rfl 43 (.tmp 0) rfl #[.slice ca sc.length cc,.slice ua su.length uc,.slice aa sa.length ac,.slice pa sp.length pc,I gen,.slice xa bl.length xc,.bool busy,I nc,I nt,I nk,I na,I no,I nn,.slice la pl.length lc,I se,I sn,.bool up,I pause,I falls,.slice ka cls.length kc] rfl (fun b0 w1_ M1=>?_)
 have B_b0:=zmb M1
 replace H:=Lib.hid (H.out.ext M1.out.ext)
 replace EW:=zet EW M1
 go_wp2_with ((with_reducible refine zst (L:=[43,40,30,67]) ?_ ?_); exact rfl)
 unfold Hid
 refine wpList_boxB rfl 60 (.tmp 1) rfl #[I 3,I n] rfl (fun b1 w2_ M2=>?_)
 have D_b0_b1:=zld B_b0 M2
 replace B_b0:=zmo M2 B_b0
 have B_b1:=zmb M2
 replace H:=Lib.hid (H.out.ext M2.out.ext)
 replace EW:=zet EW M2
 go_wp2_with ((with_reducible refine zst (L:=[43,40,30,67]) ?_ ?_); exact rfl)
 unfold Hid
 refine wpList_allocB rfl 43 #[.slice none 0 0,.slice none 0 0,.slice none 0 0,.slice none 0 0,I 0,.slice none 0 0,.bool false,I 0,I 0,I 0,I 0,I 0,I 0,.slice none 0 0,I 0,I 0,.bool false,I 0,I 0,.slice none 0 0] (by kernel_rfl) (fun b2 w3_ M3=>?_)
 have D_b0_b2:=zld B_b0 M3
 have D_b1_b2:=zld B_b1 M3
 replace B_b0:=zmo M3 B_b0
 replace B_b1:=zmo M3 B_b1
 have B_b2:=zmb M3
 replace H:=Lib.hid (H.out.ext M3.out.ext)
 replace EW:=zet EW M3
 have A_b0 : Hid (b0 = w.heap.size + 0):=by unfold Hid; have q0:=M1.out.at_; have r0:=M1.out.size; omega
 have N_b0:=znb HK A_b0 (by decide)
 have O_b0:=zob A_b0
 have A_b1 : Hid (b1 = w.heap.size + 1):=by unfold Hid; have q0:=M1.out.at_; have r0:=M1.out.size; have q1:=M2.out.at_; have r1:=M2.out.size; omega
 have N_b1:=znb HK A_b1 (by decide)
 have O_b1:=zob A_b1
 have A_b2 : Hid (b2 = w.heap.size + 2):=by unfold Hid; have q0:=M1.out.at_; have r0:=M1.out.size; have q1:=M2.out.at_; have r1:=M2.out.size; have q2:=M3.out.at_; have r2:=M3.out.size; omega
 have N_b2:=znb HK A_b2 (by decide)
 have O_b2:=zob A_b2
 have k0:=cell_of (i:=0) B_b1.out rfl
 go_wp2_with ((with_reducible refine zst (L:=[43,40,30,67]) ?_ ?_); exact rfl)
 unfold Hid
 clear k0
 refine wpList_loadW rfl 43 (.tmp 2) rfl b0 rfl B_b0 Try.underlying43 (by kernel_rfl) (fun v124 H_v124=>?_)
 go_wp2_with fail
 rw [show _ = Value.agg #[.slice ca sc.length cc,.slice ua su.length uc,.slice aa sa.length ac,.slice pa sp.length pc,I gen,.slice xa bl.length xc,.bool busy,I nc,I nt,I nk,I na,I no,I nn,.slice la pl.length lc,I se,I sn,.bool up,I pause,I falls,.slice ka cls.length kc] from H_v124.out]
 refine (refFall_keeps ⟨⟨sc,su,sa,sp⟩,⟨gen,bl,busy,⟨nc,nt,⟨nk,na,no,nn⟩⟩,pl,⟨se,sn⟩⟩,up,pause,falls,cls⟩ _ _ _ _ _ _ _ w3_ B H.out hf).to fun r w9 e9 hr=>?_
 rw [HFM.out] at hr
 obtain ⟨cs,rfl,hcs⟩:=rd_tupE hr
 obtain ⟨c',u',a',p',box',plan',cl',rfl,hm⟩:=rd_mc hcs
 obtain ⟨ca',cc',ua',uc',aa',ac',pa',pc',xa',xc',la',lc',ka',kc',rfl,rfl,rfl,rfl,rfl,rfl,rfl⟩:=hm.slices
 have hsz : w.heap.size + 3 ≤ w3_.heap.size:=by have q:=(Array.getElem?_eq_some_iff.1 B_b2.out).1; have q2:=A_b2.out; omega
 have HM:=Lib.hid (hm.widen (B:=B) (fun k _ h=>by
  rcases h with h | h
  ·exact h
  ·exact HK.out.2.1 k (by omega)))
 clear hr hcs hm hsz
 replace B_b0:=zbx B_b0 e9
 replace B_b1:=zbx B_b1 e9
 replace B_b2:=zbx B_b2 e9
 replace H:=Lib.hid (H.out.ext e9)
 replace EW:=Lib.hid (EW.out.trans e9)
 go_wp2_with ((with_reducible refine zst (L:=[43,40,30,67]) ?_ ?_); exact rfl)
 unfold Hid
 refine wpList_storeW rfl 43 (.tmp 4) (.tmp 126) rfl b2 rfl [.slice ca' (FX).store.cells.length cc',.slice ua' (FX).store.undo.length uc',.slice aa' (FX).store.answers.length ac',.slice pa' (FX).store.past.length pc',I (FX).server.gen,.slice xa' (FX).server.box.length xc',.bool (FX).server.busy,I (FX).server.now.client,I (FX).server.now.token,I (FX).server.now.call.kind,I (FX).server.now.call.name,I (FX).server.now.call.other,I (FX).server.now.call.n,.slice la' (FX).server.plan.length lc',I (FX).server.says.err,I (FX).server.says.n,.bool (FX).up,I (FX).pause,I (FX).falls,.slice ka' (FX).clients.length kc'] (rfl) B_b2 rfl (by kernel_rfl) rfl (fun w4_ M4=>?_)
 replace B_b0:=zwl M4 B_b0 D_b0_b2
 replace B_b1:=zwl M4 B_b1 D_b1_b2
 replace B_b2:=zwb M4
 replace H:=Lib.hid (M4.out.rdM H.out N_b2.out)
 replace HM:=Lib.hid (M4.out.rdM HM.out N_b2.out)
 replace EW:=zwe M4 EW O_b2
 go_wp2
 have z0:=run_box (P:=Try.prog) 43 B_b2.out Try.underlying43 (by kernel_rfl)
 refine bodyPost_ret (by simp [results,Try.results20,asAddr,z0]; rfl) rfl ?_
 exact ⟨_,rfl,EW.out,Rd.widen (A:=B) (tupE_rd (RdM.mc (m:=FX) HM.out)) (fun k _ h=>HK.out.2.2.2 k h)⟩

set_option maxRecDepth 100000 in
set_option maxHeartbeats 2000000 in
theorem refDo_tick (m : Mc) (c u a p box plan cl : Value) (n : Int) (w : World) (A : Nat → Prop) (h : RdM A w m c u a p box plan cl) (hr : m.store.cells.length * 8 ≤ 140737488355328) (hg : 0 ≤ m.server.gen ∧ m.server.gen ≤ 1000000) (hpz : 0 ≤ m.pause ∧ m.pause ≤ 1000000) :
  Keeps Try.prog 20 #[.agg (cells20 m c u a p box plan cl).toArray,.agg #[I 4,I n]] w A (fun r w'=>TupE elMc (doM m 4 n).1 (doM m 4 n).2 r w'):=by
 unfold Keeps
 obtain ⟨ca,cc,ua,uc,aa,ac,pa,pc,xa,xc,la,lc,ka,kc,rfl,rfl,rfl,rfl,rfl,rfl,rfl⟩:=h.slices
 obtain ⟨⟨sc,su,sa,sp⟩,⟨gen,bl,busy,⟨nc,nt,⟨nk,na,no,nn⟩⟩,pl,⟨se,sn⟩⟩,up,pause,falls,cls⟩:=m
 simp only [cells20] at *
 have EW:=Lib.hid (Ext.refl w)
 obtain ⟨B,hB⟩:=away A w.heap.size 3
 have HK:=Lib.hid hB
 clear hB
 have H:=Lib.hid (h.widen HK.out.1)
 clear h
 obtain ⟨FX,hFM⟩ : ∃ x,tickM ⟨⟨sc,su,sa,sp⟩,⟨gen,bl,busy,⟨nc,nt,⟨nk,na,no,nn⟩⟩,pl,⟨se,sn⟩⟩,up,pause,falls,cls⟩ = x:=⟨_,rfl⟩
 have hX : doM ⟨⟨sc,su,sa,sp⟩,⟨gen,bl,busy,⟨nc,nt,⟨nk,na,no,nn⟩⟩,pl,⟨se,sn⟩⟩,up,pause,falls,cls⟩ 4 n = (tickM ⟨⟨sc,su,sa,sp⟩,⟨gen,bl,busy,⟨nc,nt,⟨nk,na,no,nn⟩⟩,pl,⟨se,sn⟩⟩,up,pause,falls,cls⟩,0):=rfl
 rw [hX,hFM]
 have HFM:=Lib.hid hFM
 clear hX hFM
 go_enter Try.func20,Try.ntmps20
 go_wp2_with ((with_reducible refine zst (L:=[43,40,30,67]) ?_ ?_); exact rfl)
 unfold Hid
 refine wpList_boxB rfl 43 (.tmp 0) rfl #[.slice ca sc.length cc,.slice ua su.length uc,.slice aa sa.length ac,.slice pa sp.length pc,I gen,.slice xa bl.length xc,.bool busy,I nc,I nt,I nk,I na,I no,I nn,.slice la pl.length lc,I se,I sn,.bool up,I pause,I falls,.slice ka cls.length kc] rfl (fun b0 w1_ M1=>?_)
 have B_b0:=zmb M1
 replace H:=Lib.hid (H.out.ext M1.out.ext)
 replace EW:=zet EW M1
 go_wp2_with ((with_reducible refine zst (L:=[43,40,30,67]) ?_ ?_); exact rfl)
 unfold Hid
 refine wpList_boxB rfl 60 (.tmp 1) rfl #[I 4,I n] rfl (fun b1 w2_ M2=>?_)
 have D_b0_b1:=zld B_b0 M2
 replace B_b0:=zmo M2 B_b0
 have B_b1:=zmb M2
 replace H:=Lib.hid (H.out.ext M2.out.ext)
 replace EW:=zet EW M2
 go_wp2_with ((with_reducible refine zst (L:=[43,40,30,67]) ?_ ?_); exact rfl)
 unfold Hid
 refine wpList_allocB rfl 43 #[.slice none 0 0,.slice none 0 0,.slice none 0 0,.slice none 0 0,I 0,.slice none 0 0,.bool false,I 0,I 0,I 0,I 0,I 0,I 0,.slice none 0 0,I 0,I 0,.bool false,I 0,I 0,.slice none 0 0] (by kernel_rfl) (fun b2 w3_ M3=>?_)
 have D_b0_b2:=zld B_b0 M3
 have D_b1_b2:=zld B_b1 M3
 replace B_b0:=zmo M3 B_b0
 replace B_b1:=zmo M3 B_b1
 have B_b2:=zmb M3
 replace H:=Lib.hid (H.out.ext M3.out.ext)
 replace EW:=zet EW M3
 have A_b0 : Hid (b0 = w.heap.size + 0):=by unfold Hid; have q0:=M1.out.at_; have r0:=M1.out.size; omega
 have N_b0:=znb HK A_b0 (by decide)
 have O_b0:=zob A_b0
 have A_b1 : Hid (b1 = w.heap.size + 1):=by unfold Hid; have q0:=M1.out.at_; have r0:=M1.out.size; have q1:=M2.out.at_; have r1:=M2.out.size; omega
 have N_b1:=znb HK A_b1 (by decide)
 have O_b1:=zob A_b1
 have A_b2 : Hid (b2 = w.heap.size + 2):=by unfold Hid; have q0:=M1.out.at_; have r0:=M1.out.size; have q1:=M2.out.at_; have r1:=M2.out.size; have q2:=M3.out.at_; have r2:=M3.out.size; omega
 have N_b2:=znb HK A_b2 (by decide)
 have O_b2:=zob A_b2
 have k0:=cell_of (i:=0) B_b1.out rfl
 go_wp2_with ((with_reducible refine zst (L:=[43,40,30,67]) ?_ ?_); exact rfl)
 unfold Hid
 clear k0
 refine wpList_loadW rfl 43 (.tmp 2) rfl b0 rfl B_b0 Try.underlying43 (by kernel_rfl) (fun v130 H_v130=>?_)
 go_wp2_with fail
 rw [show _ = Value.agg #[.slice ca sc.length cc,.slice ua su.length uc,.slice aa sa.length ac,.slice pa sp.length pc,I gen,.slice xa bl.length xc,.bool busy,I nc,I nt,I nk,I na,I no,I nn,.slice la pl.length lc,I se,I sn,.bool up,I pause,I falls,.slice ka cls.length kc] from H_v130.out]
 refine (refTick_keeps ⟨⟨sc,su,sa,sp⟩,⟨gen,bl,busy,⟨nc,nt,⟨nk,na,no,nn⟩⟩,pl,⟨se,sn⟩⟩,up,pause,falls,cls⟩ _ _ _ _ _ _ _ w3_ B H.out hr hg hpz).to fun r w9 e9 hr=>?_
 rw [HFM.out] at hr
 obtain ⟨cs,rfl,hcs⟩:=rd_agg hr
 obtain ⟨c',u',a',p',box',plan',cl',rfl,hm⟩:=rd_mc hcs
 obtain ⟨ca',cc',ua',uc',aa',ac',pa',pc',xa',xc',la',lc',ka',kc',rfl,rfl,rfl,rfl,rfl,rfl,rfl⟩:=hm.slices
 have hsz : w.heap.size + 3 ≤ w3_.heap.size:=by have q:=(Array.getElem?_eq_some_iff.1 B_b2.out).1; have q2:=A_b2.out; omega
 have HM:=Lib.hid (hm.widen (B:=B) (fun k _ h=>by
  rcases h with h | h
  ·exact h
  ·exact HK.out.2.1 k (by omega)))
 clear hr hcs hm hsz
 replace B_b0:=zbx B_b0 e9
 replace B_b1:=zbx B_b1 e9
 replace B_b2:=zbx B_b2 e9
 replace H:=Lib.hid (H.out.ext e9)
 replace EW:=Lib.hid (EW.out.trans e9)
 go_wp2_with ((with_reducible refine zst (L:=[43,40,30,67]) ?_ ?_); exact rfl)
 unfold Hid
 refine wpList_storeW rfl 43 (.tmp 4) (.tmp 131) rfl b2 rfl [.slice ca' (FX).store.cells.length cc',.slice ua' (FX).store.undo.length uc',.slice aa' (FX).store.answers.length ac',.slice pa' (FX).store.past.length pc',I (FX).server.gen,.slice xa' (FX).server.box.length xc',.bool (FX).server.busy,I (FX).server.now.client,I (FX).server.now.token,I (FX).server.now.call.kind,I (FX).server.now.call.name,I (FX).server.now.call.other,I (FX).server.now.call.n,.slice la' (FX).server.plan.length lc',I (FX).server.says.err,I (FX).server.says.n,.bool (FX).up,I (FX).pause,I (FX).falls,.slice ka' (FX).clients.length kc'] (rfl) B_b2 rfl (by kernel_rfl) rfl (fun w4_ M4=>?_)
 replace B_b0:=zwl M4 B_b0 D_b0_b2
 replace B_b1:=zwl M4 B_b1 D_b1_b2
 replace B_b2:=zwb M4
 replace H:=Lib.hid (M4.out.rdM H.out N_b2.out)
 replace HM:=Lib.hid (M4.out.rdM HM.out N_b2.out)
 replace EW:=zwe M4 EW O_b2
 go_wp2
 have z0:=run_box (P:=Try.prog) 43 B_b2.out Try.underlying43 (by kernel_rfl)
 refine bodyPost_ret (by simp [results,Try.results20,asAddr,z0]; rfl) rfl ?_
 exact ⟨_,rfl,EW.out,Rd.widen (A:=B) (tupE_rd (RdM.mc (m:=FX) HM.out)) (fun k _ h=>HK.out.2.2.2 k h)⟩

end Go.Proofs.Ytdmipnnfoolelad

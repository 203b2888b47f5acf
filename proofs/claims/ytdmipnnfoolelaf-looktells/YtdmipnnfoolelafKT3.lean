/- Texts of the proof, merged: QD QE QF. -/
import Derived.Test.YtdmipnnfoolelafKTA
import Derived.Test.YtdmipnnfoolelafKT2
import Derived.Test.YtdmipnnfoolelafKT1
import Derived.Test.YtdmipnnfoolelafKT0
set_option maxHeartbeats 4000000
set_option maxRecDepth 100000

namespace Go.Proofs.Ytdmipnnfoolelaf
open Go.RowKit Go.Mk

def znS (c:Cn) (l:List Rq):Prop:=((l.length:Int)=c.at_∨(l.length:Int) - 1=c.at_)/\l.length<=c.calls.length/\∀ k,k < l.length->(l.getD k zeroRq).token=(k:Int)/\(l.getD k zeroRq).call=c.calls.getD k ze5
def zmF (c:Cn) (l:List Rp):Prop:=(c.got.length:Int)=c.at_/\c.got.length<=l.length/\c.got=l.take c.got.length
theorem zgz (p:List Rq) (i:Nat) (c:Cn):WholeC p i c↔znS c (za6 p i)/\zmF c (zbX p i):=by
 constructor
 ·rintro ⟨h1,h2,h3,h4⟩
  refine ⟨⟨?_,?_,fun k hk=>(h3 k hk).2⟩,h1,?_,h4⟩
  ·rcases h2 with h | h
   ·exact .inl (by omega)
   ·exact .inr (by omega)
  ·cases hn:(za6 p i).length with
   | zero=>exact Nat.zero_le _
   | succ n =>
    have:=(h3 n (by omega)).1
    omega
  ·rw [ze4]
   rcases h2 with h | h <;> omega
 ·rintro ⟨⟨h1,h2,h3⟩,h4,h5,h6⟩
  refine ⟨h4,?_,fun k hk=>⟨by omega,h3 k hk⟩,h6⟩
  rcases h1 with h | h
  ·exact .inl (by omega)
  ·exact .inr (by omega)

def zhx (w:World) (P:Prop) (e:Ending) (w':World):Prop:=∃ x:Bool,e=.returned (.bool x)/\Ext w w'/\(x=true↔P)
theorem zk3 {w w':World} {P:Prop} {e:Ending} (x:Bool) (he:e=.returned (.bool x)) (hx:Ext w w') (hp:x=true↔P):zhx w P e w':=⟨x,he,hx,hp⟩
theorem zca {w w':World} {P:Prop} {e:Ending} (he:e=.returned (.bool false)) (hx:Ext w w') (hp:¬ P):zhx w P e w':=⟨false,he,hx,⟨fun h=>(by cases h),fun h=>absurd h hp⟩⟩

theorem zhi {k1 a1 o1 n1 k2 a2 o2 n2:Int} {D:Bool} {w:World} (h:D=true↔(k1=k2/\a1=a2/\o1=o2/\n1=n2)):zdI Try.prog w (fun v _=>v=Value.bool (!D)) (if k1=k2 then if a1=a2 then if o1=o2 then if n1=n2 then Result.ok (Next.value (Value.bool false)) w else Result.ok (Next.value (Value.bool true)) w else Result.ok (Next.value (Value.bool true)) w else Result.ok (Next.value (Value.bool true)) w else Result.ok (Next.value (Value.bool true)) w):=by
 repeat' split
 all_goals refine ⟨Ext.refl _,congrArg Value.bool ?_⟩
 all_goals cases D <;> simp_all

theorem zkS (c:Cn) (a b d v:Value) (l:List Rq) (w:World) (hc:zdw w [a,I c.at_,.bool c.sent,I c.gen,b,d] c) (hv:zaq 6 zes w v l) (hr:l.length<=1000000) :
  Calls Try.prog 30 #[.agg #[a,I c.at_,.bool c.sent,I c.gen,b,d],v] w (zhx w (znS c l)):=by
 obtain ⟨va,vc,rfl,v1,v2,v3⟩:=zf2 hv;obtain ⟨ca,cc,rfl,c1,c2,c3⟩:=zjH (zdk.1 hc).1;unfold maxLen at v2 c2;have V3:=zhd v3;have C3:=zhd c3;clear v3 c3 hv hc;obtain ⟨xl,xt,xs,xg,xb,xo⟩:=c;simp only [] at c1 C3 ⊢;have EW:=zhd (Ext.refl w);go_enter Try.func30,Try.ntmps30
 go_wp2_with (with_reducible refine zT ?_)
 refine zal rfl 61 (.tmp 0) rfl #[.slice ca xl.length cc,I xt,.bool xs,I xg,b,d] rfl (fun b0 w1_ M1=>?_);have zab:=zmb M1;have c0:=zaa (i:=0) zab.o rfl;have c1x:=zaa (i:=1) zab.o rfl;replace EW:=zet EW M1;by_cases hC:l.length<=xl.length
 case neg =>
  by_cases hA:(l.length:Int)=xt
  case pos =>
   subst hA;go_wp2
   go_ret
   refine zca rfl EW.o (fun h=>?_);exact hC h.2.1
  case neg =>
   have hb:((l.length:Int) != xt)=true:=by simpa using hA
   by_cases hB:(l.length:Int) - 1=xt
   case pos =>
    subst hB;go_wp2
    go_ret
    refine zca rfl EW.o (fun h=>?_);exact hC h.2.1
   case neg =>
    have hb2:((l.length:Int) - 1 != xt)=true:=by simpa using hB
    go_wp2
    go_ret
    refine zca rfl EW.o (fun h=>?_);exact hC h.2.1
 case pos =>
  by_cases hA:(l.length:Int)=xt
  case pos =>
   subst hA;go_wp2
   go_loopw [30] (fun i wr=>∃ k:Nat,k<=l.length/\i=I k/\(∀ j,j < k->(l.getD j zeroRq).token=(j:Int)/\(l.getD j zeroRq).call=xl.getD j ze5)/\Ext w1_ wr) (fun i _=>l.length - (intOf i).toNat)
   case atStart=>exact ⟨0,Nat.zero_le _,rfl,fun j hj=>by omega,Ext.refl _⟩
   case round =>
    obtain ⟨k,hk,rfl,hP,he⟩:=hrel;have HP:=zhd hP;clear hP;by_cases hlt:k < l.length
    ·obtain ⟨rq,hrq⟩:∃ r,l[k]?=some r:=⟨l[k],List.getElem?_eq_getElem hlt⟩;obtain ⟨cq,hcq⟩:∃ r,xl[k]?=some r:=⟨xl[k]'(by omega),List.getElem?_eq_getElem _⟩;obtain ⟨pb,po,rfl,d0,d1,d2,d3,d4,d5⟩:=V3.o k rq hrq;obtain ⟨yb,yo,rfl,f0,f1,f2,f3⟩:=C3.o k cq hcq;have HG:Hid (l.getD k zeroRq=rq/\xl.getD k ze5=cq):=⟨by rw [List.getD_eq_getElem?_getD,hrq]; rfl,by rw [List.getD_eq_getElem?_getD,hcq]; rfl⟩;clear hrq hcq;obtain ⟨rc,tk,⟨kd,nm,ot,nn⟩⟩:=rq;obtain ⟨yk,ym,yx,yn⟩:=cq;simp only [] at d0 d1 d2 d3 d4 d5 f0 f1 f2 f3;have mr:Ext w wr:=EW.o.trans he;replace d0:=mr.cell d0;replace d1:=mr.cell d1;replace d2:=mr.cell d2;replace d3:=mr.cell d3;replace d4:=mr.cell d4;replace d5:=mr.cell d5;replace f0:=mr.cell f0;replace f1:=mr.cell f1;replace f2:=mr.cell f2;replace f3:=mr.cell f3;replace c0:=he.cell c0;have F0:=zhd f0;have F1:=zhd f1;have F2:=zhd f2;have F3:=zhd f3;have C0:=zhd c0;clear f0 f1 f2 f3 c0;go_wp2_with fail
     clear d0 d1 d2 d3 d4 d5;have M1:=zhd (zhE wr (.cells #[I rc,I tk,I kd,I nm,I ot,I nn] 35));obtain ⟨bb,HBB⟩:∃ bb,Hid (wr.heap.size=bb):=⟨_,rfl⟩;obtain ⟨w2,HW2⟩:∃ x,Hid (wr.alloc (.cells #[I rc,I tk,I kd,I nm,I ot,I nn] 35)=x):=⟨_,rfl⟩;rw [show wr.alloc (.cells #[I rc,I tk,I kd,I nm,I ot,I nn] 35)=w2 from HW2.o] at M1;rw [show wr.heap.size=bb from HBB.o] at M1;simp only [show wr.alloc (.cells #[I rc,I tk,I kd,I nm,I ot,I nn] 35)=w2 from HW2.o,show wr.heap.size=bb from HBB.o];have e1:=zaa (i:=1) M1.o.block rfl;have e2:=zaa (i:=2) M1.o.block rfl;have e3:=zaa (i:=3) M1.o.block rfl;have e4:=zaa (i:=4) M1.o.block rfl;have e5:=zaa (i:=5) M1.o.block rfl;have f0:=M1.o.ext.cell F0.o;have f1:=M1.o.ext.cell F1.o;have f2:=M1.o.ext.cell F2.o;have f3:=M1.o.ext.cell F3.o;have c0:=M1.o.ext.cell C0.o;have he2:Ext w1_ w2:=he.trans M1.o.ext;have mr2:Ext w w2:=mr.trans M1.o.ext;clear M1 HW2 HBB F0 F1 F2 F3 C0 mr he;have b1:(0:Int)<=(k:Int):=by omega
     have b2:(k:Int) < (xl.length:Int):=by omega
     have hst:Try.prog.stoodInHeld 33=false:=by kernel_rfl
     have hgd:Try.prog.eqGuardType Try.prog.depth 33=false:=by kernel_rfl
     by_cases ht:tk=(k:Int)
     ·subst ht;obtain ⟨D,hD⟩:∃ D:Bool,D=true↔(kd=yk/\nm=ym/\ot=yx/\nn=yn):=⟨decide (kd=yk/\nm=ym/\ot=yx/\nn=yn),by simp⟩;have HD:=zhd hD;clear hD;refine zaR [none,none,none,none,none,none,none,none,none,none,none,none,some (.inl (.bool (!D))),none] (by kernel_rfl) (by kernel_rfl) ?_ ?_
      ·exact ⟨trivial,trivial,trivial,trivial,trivial,trivial,trivial,trivial,trivial,trivial,trivial,trivial,trivial,trivial,trivial⟩
      (refine zaj (fun K hK=>?_); go_simp; first | refine hK _ ?_ | refine ⟨(fun h=>by cases h),hK _ ?_⟩; clear hK K)
      refine zax (I k) rfl (fun w' hw'=>by have q0:=hw'.cell e1; go_simp) ?_;refine zae fun K h=>?_; go_simp; refine h _ ?_; clear h K;iterate 4 (refine zaj (fun K hK=>?_); go_simp; first | refine hK _ ?_ | refine ⟨(fun h=>by cases h),hK _ ?_⟩; clear hK K)
      refine zax (.agg #[I kd,I nm,I ot,I nn]) rfl (fun w' hw'=>by have q0:=hw'.cell e2; have q1:=hw'.cell e3; have q2:=hw'.cell e4; have q3:=hw'.cell e5; go_simp) ?_;refine zae fun K h=>?_; go_simp; refine h _ ?_; clear h K;(refine zaj (fun K hK=>?_); go_simp; first | refine hK _ ?_ | refine ⟨(fun h=>by cases h),hK _ ?_⟩; clear hK K)
      refine zax (.slice (some ⟨yb,yo,none⟩) xl.length cc) rfl (fun w' hw'=>by have q0:=hw'.cell c0; go_simp) ?_;refine zae fun K h=>?_; go_simp; refine h _ ?_; clear h K;iterate 2 (refine zaj (fun K hK=>?_); go_simp; first | refine hK _ ?_ | refine ⟨(fun h=>by cases h),hK _ ?_⟩; clear hK K)
      refine zax (.agg #[I yk,I ym,I yx,I yn]) rfl (fun w' hw'=>by have q0:=hw'.cell f0; have q1:=hw'.cell f1; have q2:=hw'.cell f2; have q3:=hw'.cell f3; go_simp) ?_;refine zae fun K h=>?_; go_simp; refine h _ ?_; clear h K;refine zdd _ rfl (fun w' hw' hk=>?_) ?_
      ·clear hk;unfold zaI;go_simp
       exact zhi HD.o
      refine zae fun K h=>?_; go_simp; refine h _ ?_; clear h K;(refine zaj (fun K hK=>?_); go_simp; first | refine hK _ ?_ | refine ⟨(fun h=>by cases h),hK _ ?_⟩; clear hK K)
      refine zaL ?_;intro w3 e6 _;clear e1 e2 e3 e4 e5 f0 f1 f2 f3 c0 hst hgd;cases D
      case false =>
       go_wp2
       go_ret
       refine zca rfl (mr2.trans e6) (fun h=>?_);have q:=(h.2.2 k hlt).2;rw [HG.o.1] at q;have q2:=q.trans HG.o.2;simp only [Cl.mk.injEq] at q2;exact absurd (HD.o.2 q2) (by simp)
      case true =>
       go_wp2
       go_roundw
       case rel =>
        refine ⟨_,_,_,_,⟨k+1,by omega,by go_num,fun j hj=>?_,he2.trans e6⟩,rfl,rfl,rfl,rfl⟩;by_cases hjk:j=k
        ·rw [hjk];obtain ⟨z1,z2,z3,z4⟩:=HD.o.1 (by first | rfl | trivial);exact ⟨congrArg Rq.token HG.o.1,(congrArg Rq.call HG.o.1).trans ((show (⟨kd,nm,ot,nn⟩:Cl)=⟨yk,ym,yx,yn⟩ by rw [z1,z2,z3,z4]).trans HG.o.2.symm)⟩
        ·exact HP.o j (by omega)
       case measure=>simp [intOf]; omega
     ·have hb1:(tk == (k:Int))=false:=by simpa using ht
      have hb2:(tk != (k:Int))=true:=by simpa using ht
      have HTK:=zhd ht;clear ht;refine zaR [none,none,none,none,none,none,none,none,none,none,none,none,none,none] (by kernel_rfl) (by kernel_rfl) ?_ ?_
      ·exact ⟨trivial,trivial,trivial,trivial,trivial,trivial,trivial,trivial,trivial,trivial,trivial,trivial,trivial,trivial,trivial⟩
      (refine zaj (fun K hK=>?_); go_simp; first | refine hK _ ?_ | refine ⟨(fun h=>by cases h),hK _ ?_⟩; clear hK K)
      refine zax (I tk) rfl (fun w' hw'=>by have q0:=hw'.cell e1; go_simp) ?_;refine zae fun K h=>?_; go_simp; refine h _ ?_; clear h K;iterate 3 (refine zaj (fun K hK=>?_); go_simp; first | refine hK _ ?_ | refine ⟨(fun h=>by cases h),hK _ ?_⟩; clear hK K)
      iterate 8 (refine zff rfl ?_; refine zae fun K h=>?_; go_simp; refine h _ ?_; clear h K)
      (refine zaj (fun K hK=>?_); go_simp; first | refine hK _ ?_ | refine ⟨(fun h=>by cases h),hK _ ?_⟩; clear hK K)
      refine zaL ?_;intro w3 e6 _;clear e1 e2 e3 e4 e5 f0 f1 f2 f3 c0 hst hgd;go_wp2
      go_ret
      refine zca rfl (mr2.trans e6) (fun h=>?_);have q:=(h.2.2 k hlt).1;rw [HG.o.1] at q;exact absurd q HTK.o
    ·go_wp2
     go_ret
     exact zk3 true rfl (EW.o.trans he) ⟨fun _=>⟨.inl rfl,hC,fun j hj=>HP.o j (by omega)⟩,fun _=>rfl⟩
  case neg =>
   have hb:((l.length:Int) != xt)=true:=by simpa using hA
   by_cases hB:(l.length:Int) - 1=xt
   case pos =>
    subst hB;go_wp2
    go_loopw [30] (fun i wr=>∃ k:Nat,k<=l.length/\i=I k/\(∀ j,j < k->(l.getD j zeroRq).token=(j:Int)/\(l.getD j zeroRq).call=xl.getD j ze5)/\Ext w1_ wr) (fun i _=>l.length - (intOf i).toNat)
    case atStart=>exact ⟨0,Nat.zero_le _,rfl,fun j hj=>by omega,Ext.refl _⟩
    case round =>
     obtain ⟨k,hk,rfl,hP,he⟩:=hrel;have HP:=zhd hP;clear hP;by_cases hlt:k < l.length
     ·obtain ⟨rq,hrq⟩:∃ r,l[k]?=some r:=⟨l[k],List.getElem?_eq_getElem hlt⟩;obtain ⟨cq,hcq⟩:∃ r,xl[k]?=some r:=⟨xl[k]'(by omega),List.getElem?_eq_getElem _⟩;obtain ⟨pb,po,rfl,d0,d1,d2,d3,d4,d5⟩:=V3.o k rq hrq;obtain ⟨yb,yo,rfl,f0,f1,f2,f3⟩:=C3.o k cq hcq;have HG:Hid (l.getD k zeroRq=rq/\xl.getD k ze5=cq):=⟨by rw [List.getD_eq_getElem?_getD,hrq]; rfl,by rw [List.getD_eq_getElem?_getD,hcq]; rfl⟩;clear hrq hcq;obtain ⟨rc,tk,⟨kd,nm,ot,nn⟩⟩:=rq;obtain ⟨yk,ym,yx,yn⟩:=cq;simp only [] at d0 d1 d2 d3 d4 d5 f0 f1 f2 f3;have mr:Ext w wr:=EW.o.trans he;replace d0:=mr.cell d0;replace d1:=mr.cell d1;replace d2:=mr.cell d2;replace d3:=mr.cell d3;replace d4:=mr.cell d4;replace d5:=mr.cell d5;replace f0:=mr.cell f0;replace f1:=mr.cell f1;replace f2:=mr.cell f2;replace f3:=mr.cell f3;replace c0:=he.cell c0;have F0:=zhd f0;have F1:=zhd f1;have F2:=zhd f2;have F3:=zhd f3;have C0:=zhd c0;clear f0 f1 f2 f3 c0;go_wp2_with fail
      clear d0 d1 d2 d3 d4 d5;have M1:=zhd (zhE wr (.cells #[I rc,I tk,I kd,I nm,I ot,I nn] 35));obtain ⟨bb,HBB⟩:∃ bb,Hid (wr.heap.size=bb):=⟨_,rfl⟩;obtain ⟨w2,HW2⟩:∃ x,Hid (wr.alloc (.cells #[I rc,I tk,I kd,I nm,I ot,I nn] 35)=x):=⟨_,rfl⟩;rw [show wr.alloc (.cells #[I rc,I tk,I kd,I nm,I ot,I nn] 35)=w2 from HW2.o] at M1;rw [show wr.heap.size=bb from HBB.o] at M1;simp only [show wr.alloc (.cells #[I rc,I tk,I kd,I nm,I ot,I nn] 35)=w2 from HW2.o,show wr.heap.size=bb from HBB.o];have e1:=zaa (i:=1) M1.o.block rfl;have e2:=zaa (i:=2) M1.o.block rfl;have e3:=zaa (i:=3) M1.o.block rfl;have e4:=zaa (i:=4) M1.o.block rfl;have e5:=zaa (i:=5) M1.o.block rfl;have f0:=M1.o.ext.cell F0.o;have f1:=M1.o.ext.cell F1.o;have f2:=M1.o.ext.cell F2.o;have f3:=M1.o.ext.cell F3.o;have c0:=M1.o.ext.cell C0.o;have he2:Ext w1_ w2:=he.trans M1.o.ext;have mr2:Ext w w2:=mr.trans M1.o.ext;clear M1 HW2 HBB F0 F1 F2 F3 C0 mr he;have b1:(0:Int)<=(k:Int):=by omega
      have b2:(k:Int) < (xl.length:Int):=by omega
      have hst:Try.prog.stoodInHeld 33=false:=by kernel_rfl
      have hgd:Try.prog.eqGuardType Try.prog.depth 33=false:=by kernel_rfl
      by_cases ht:tk=(k:Int)
      ·subst ht;obtain ⟨D,hD⟩:∃ D:Bool,D=true↔(kd=yk/\nm=ym/\ot=yx/\nn=yn):=⟨decide (kd=yk/\nm=ym/\ot=yx/\nn=yn),by simp⟩;have HD:=zhd hD;clear hD;refine zaR [none,none,none,none,none,none,none,none,none,none,none,none,some (.inl (.bool (!D))),none] (by kernel_rfl) (by kernel_rfl) ?_ ?_
       ·exact ⟨trivial,trivial,trivial,trivial,trivial,trivial,trivial,trivial,trivial,trivial,trivial,trivial,trivial,trivial,trivial⟩
       (refine zaj (fun K hK=>?_); go_simp; first | refine hK _ ?_ | refine ⟨(fun h=>by cases h),hK _ ?_⟩; clear hK K)
       refine zax (I k) rfl (fun w' hw'=>by have q0:=hw'.cell e1; go_simp) ?_;refine zae fun K h=>?_; go_simp; refine h _ ?_; clear h K;iterate 4 (refine zaj (fun K hK=>?_); go_simp; first | refine hK _ ?_ | refine ⟨(fun h=>by cases h),hK _ ?_⟩; clear hK K)
       refine zax (.agg #[I kd,I nm,I ot,I nn]) rfl (fun w' hw'=>by have q0:=hw'.cell e2; have q1:=hw'.cell e3; have q2:=hw'.cell e4; have q3:=hw'.cell e5; go_simp) ?_;refine zae fun K h=>?_; go_simp; refine h _ ?_; clear h K;(refine zaj (fun K hK=>?_); go_simp; first | refine hK _ ?_ | refine ⟨(fun h=>by cases h),hK _ ?_⟩; clear hK K)
       refine zax (.slice (some ⟨yb,yo,none⟩) xl.length cc) rfl (fun w' hw'=>by have q0:=hw'.cell c0; go_simp) ?_;refine zae fun K h=>?_; go_simp; refine h _ ?_; clear h K;iterate 2 (refine zaj (fun K hK=>?_); go_simp; first | refine hK _ ?_ | refine ⟨(fun h=>by cases h),hK _ ?_⟩; clear hK K)
       refine zax (.agg #[I yk,I ym,I yx,I yn]) rfl (fun w' hw'=>by have q0:=hw'.cell f0; have q1:=hw'.cell f1; have q2:=hw'.cell f2; have q3:=hw'.cell f3; go_simp) ?_;refine zae fun K h=>?_; go_simp; refine h _ ?_; clear h K;refine zdd _ rfl (fun w' hw' hk=>?_) ?_
       ·clear hk;unfold zaI;go_simp
        exact zhi HD.o
       refine zae fun K h=>?_; go_simp; refine h _ ?_; clear h K;(refine zaj (fun K hK=>?_); go_simp; first | refine hK _ ?_ | refine ⟨(fun h=>by cases h),hK _ ?_⟩; clear hK K)
       refine zaL ?_;intro w3 e6 _;clear e1 e2 e3 e4 e5 f0 f1 f2 f3 c0 hst hgd;cases D
       case false =>
        go_wp2
        go_ret
        refine zca rfl (mr2.trans e6) (fun h=>?_);have q:=(h.2.2 k hlt).2;rw [HG.o.1] at q;have q2:=q.trans HG.o.2;simp only [Cl.mk.injEq] at q2;exact absurd (HD.o.2 q2) (by simp)
       case true =>
        go_wp2
        go_roundw
        case rel =>
         refine ⟨_,_,_,_,⟨k+1,by omega,by go_num,fun j hj=>?_,he2.trans e6⟩,rfl,rfl,rfl,rfl⟩;by_cases hjk:j=k
         ·rw [hjk];obtain ⟨z1,z2,z3,z4⟩:=HD.o.1 (by first | rfl | trivial);exact ⟨congrArg Rq.token HG.o.1,(congrArg Rq.call HG.o.1).trans ((show (⟨kd,nm,ot,nn⟩:Cl)=⟨yk,ym,yx,yn⟩ by rw [z1,z2,z3,z4]).trans HG.o.2.symm)⟩
         ·exact HP.o j (by omega)
        case measure=>simp [intOf]; omega
      ·have hb1:(tk == (k:Int))=false:=by simpa using ht
       have hb2:(tk != (k:Int))=true:=by simpa using ht
       have HTK:=zhd ht;clear ht;refine zaR [none,none,none,none,none,none,none,none,none,none,none,none,none,none] (by kernel_rfl) (by kernel_rfl) ?_ ?_
       ·exact ⟨trivial,trivial,trivial,trivial,trivial,trivial,trivial,trivial,trivial,trivial,trivial,trivial,trivial,trivial,trivial⟩
       (refine zaj (fun K hK=>?_); go_simp; first | refine hK _ ?_ | refine ⟨(fun h=>by cases h),hK _ ?_⟩; clear hK K)
       refine zax (I tk) rfl (fun w' hw'=>by have q0:=hw'.cell e1; go_simp) ?_;refine zae fun K h=>?_; go_simp; refine h _ ?_; clear h K;iterate 3 (refine zaj (fun K hK=>?_); go_simp; first | refine hK _ ?_ | refine ⟨(fun h=>by cases h),hK _ ?_⟩; clear hK K)
       iterate 8 (refine zff rfl ?_; refine zae fun K h=>?_; go_simp; refine h _ ?_; clear h K)
       (refine zaj (fun K hK=>?_); go_simp; first | refine hK _ ?_ | refine ⟨(fun h=>by cases h),hK _ ?_⟩; clear hK K)
       refine zaL ?_;intro w3 e6 _;clear e1 e2 e3 e4 e5 f0 f1 f2 f3 c0 hst hgd;go_wp2
       go_ret
       refine zca rfl (mr2.trans e6) (fun h=>?_);have q:=(h.2.2 k hlt).1;rw [HG.o.1] at q;exact absurd q HTK.o
     ·go_wp2
      go_ret
      exact zk3 true rfl (EW.o.trans he) ⟨fun _=>⟨.inr rfl,hC,fun j hj=>HP.o j (by omega)⟩,fun _=>rfl⟩
   case neg =>
    have hb2:((l.length:Int) - 1 != xt)=true:=by simpa using hB
    go_wp2
    go_ret
    refine zca rfl EW.o (fun h=>?_);rcases h.1 with h | h
    ·exact hA h
    ·exact hB h

theorem zgW {w:World} {v:Value} {l:List Rp}:zaq 2 zdA w v l↔zan w v (l.map fun r=>(r.err,r.n)):=by
 refine (zbz (f:=fun (x:Rp)=>[I x.err,I x.n]) (fun _=>rfl)).trans ?_
 unfold zan
 rw [List.length_map]
 have:l.flatMap (fun (x:Rp)=>[I x.err,I x.n])=zat (l.map fun r=>(r.err,r.n)):=by
  unfold zat
  rw [List.flatMap_map]
 rw [this]
theorem znm {l m:List Rp} (h:(l.map fun r=>(r.err,r.n))=m.map fun r=>(r.err,r.n)):l=m:=by
 induction l generalizing m with
 | nil=>cases m with
  | nil=>rfl
  | cons _ _=>cases h
 | cons x l ih=>cases m with
  | nil=>cases h
  | cons y m =>
   simp only [List.map_cons,List.cons.injEq,Prod.mk.injEq] at h
   obtain ⟨⟨h1,h2⟩,h3⟩:=h
   obtain ⟨xe,xn⟩:=x
   obtain ⟨ye,yn⟩:=y
   simp only [] at h1 h2
   subst h1 h2
   rw [ih h3]

theorem zjc (c:Cn) (a b d v:Value) (l:List Rp) (w:World) (hc:zdw w [a,I c.at_,.bool c.sent,I c.gen,b,d] c) (hv:zaq 2 zdA w v l) :
  Calls Try.prog 31 #[.agg #[a,I c.at_,.bool c.sent,I c.gen,b,d],v] w (zhx w (zmF c l)):=by
 obtain ⟨va,vc,rfl,v1,v2,-⟩:=zdu hv;obtain ⟨ga,gc,rfl,g1,g2,-⟩:=zdu (zdk.1 hc).2.2;have HGT:=zhd (zdk.1 hc).2.2;have HV:=zhd hv;unfold maxLen at v2 g2;clear hv hc;obtain ⟨xl,xt,xs,xg,xb,xo⟩:=c;simp only [] at g1 g2 HGT ⊢;have EW:=zhd (Ext.refl w);go_enter Try.func31,Try.ntmps31
 go_wp2_with (with_reducible refine zT ?_)
 refine zal rfl 61 (.tmp 0) rfl #[a,I xt,.bool xs,I xg,b,.slice ga xo.length gc] rfl (fun b0 w1_ M1=>?_);have zab:=zmb M1;go_wp2_with fail
 have c1:=zaa (i:=1) zab.o rfl;have c5:=zaa (i:=5) zab.o rfl;replace EW:=zet EW M1;by_cases hA:(xo.length:Int)=xt
 case neg =>
  have hb1:((xo.length:Int) == xt)=false:=by simpa using hA
  refine zaR [none,none,none,none,none,none,none,none,none,none,none,none,none,none,none,none,none,none,none,none,none,none,none] (by kernel_rfl) (by kernel_rfl) ?_ ?_
  ·exact ⟨trivial,trivial,trivial,trivial,trivial,trivial,trivial,trivial,trivial,trivial,trivial,trivial,trivial,trivial,trivial,trivial,trivial,trivial,trivial,trivial,trivial,trivial,trivial,trivial⟩
  (refine zaj (fun K hK=>?_); go_simp; first | refine hK _ ?_ | refine ⟨(fun h=>by cases h),hK _ ?_⟩; clear hK K)
  refine zax (.slice ga xo.length gc) rfl (fun w' hw'=>by have q0:=hw'.cell c5; go_simp) ?_;refine zae fun K h=>?_; go_simp; refine h _ ?_; clear h K;iterate 2 (refine zaj (fun K hK=>?_); go_simp; first | refine hK _ ?_ | refine ⟨(fun h=>by cases h),hK _ ?_⟩; clear hK K)
  refine zax (I xt) rfl (fun w' hw'=>by have q0:=hw'.cell c1; go_simp) ?_;refine zae fun K h=>?_; go_simp; refine h _ ?_; clear h K;iterate 2 (refine zaj (fun K hK=>?_); go_simp; first | refine hK _ ?_ | refine ⟨(fun h=>by cases h),hK _ ?_⟩; clear hK K)
  iterate 5 (refine zff rfl ?_; refine zae fun K h=>?_; go_simp; refine h _ ?_; clear h K)
  iterate 2 (refine zaj (fun K hK=>?_); go_simp; first | refine hK _ ?_ | refine ⟨(fun h=>by cases h),hK _ ?_⟩; clear hK K)
  iterate 7 (refine zff rfl ?_; refine zae fun K h=>?_; go_simp; refine h _ ?_; clear h K)
  iterate 2 (refine zaj (fun K hK=>?_); go_simp; first | refine hK _ ?_ | refine ⟨(fun h=>by cases h),hK _ ?_⟩; clear hK K)
  refine zaL ?_;intro w3 e6 _;clear c1 c5;go_wp2
  go_ret
  exact zca rfl (EW.o.trans e6) (fun h=>hA h.1)
 case pos =>
  subst hA;by_cases hB:xo.length<=l.length
  case neg =>
   refine zaR [none,none,none,none,none,none,none,none,none,none,none,none,none,none,none,none,none,none,none,none,none,none,none] (by kernel_rfl) (by kernel_rfl) ?_ ?_
   ·exact ⟨trivial,trivial,trivial,trivial,trivial,trivial,trivial,trivial,trivial,trivial,trivial,trivial,trivial,trivial,trivial,trivial,trivial,trivial,trivial,trivial,trivial,trivial,trivial,trivial⟩
   (refine zaj (fun K hK=>?_); go_simp; first | refine hK _ ?_ | refine ⟨(fun h=>by cases h),hK _ ?_⟩; clear hK K)
   refine zax (.slice ga xo.length gc) rfl (fun w' hw'=>by have q0:=hw'.cell c5; go_simp) ?_;refine zae fun K h=>?_; go_simp; refine h _ ?_; clear h K;iterate 2 (refine zaj (fun K hK=>?_); go_simp; first | refine hK _ ?_ | refine ⟨(fun h=>by cases h),hK _ ?_⟩; clear hK K)
   refine zax (I xo.length) rfl (fun w' hw'=>by have q0:=hw'.cell c1; go_simp) ?_;refine zae fun K h=>?_; go_simp; refine h _ ?_; clear h K;iterate 3 (refine zaj (fun K hK=>?_); go_simp; first | refine hK _ ?_ | refine ⟨(fun h=>by cases h),hK _ ?_⟩; clear hK K)
   refine zax (I xo.length) rfl (fun w' hw'=>by have q0:=hw'.cell c1; go_simp) ?_;refine zae fun K h=>?_; go_simp; refine h _ ?_; clear h K;iterate 5 (refine zaj (fun K hK=>?_); go_simp; first | refine hK _ ?_ | refine ⟨(fun h=>by cases h),hK _ ?_⟩; clear hK K)
   iterate 7 (refine zff rfl ?_; refine zae fun K h=>?_; go_simp; refine h _ ?_; clear h K)
   iterate 2 (refine zaj (fun K hK=>?_); go_simp; first | refine hK _ ?_ | refine ⟨(fun h=>by cases h),hK _ ?_⟩; clear hK K)
   refine zaL ?_;intro w3 e6 _;clear c1 c5;go_wp2
   go_ret
   exact zca rfl (EW.o.trans e6) (fun h=>hB h.2.1)
  case pos =>
   have b1:(xo.length:Int)<=(vc:Int):=by omega
   have b2:(0:Int)<=(xo.length:Int):=by omega
   obtain ⟨E,HE⟩:∃ E:Bool,Hid (decide ((xo.map fun r=>(r.err,r.n))=(l.take xo.length).map fun r=>(r.err,r.n))=E):=⟨_,rfl⟩;refine zaR [none,none,none,none,none,none,none,none,none,none,none,none,none,none,none,none,none,none,none,none,some (.inl (.bool E)),none,none] (by kernel_rfl) (by kernel_rfl) ?_ ?_
   ·exact ⟨trivial,trivial,trivial,trivial,trivial,trivial,trivial,trivial,trivial,trivial,trivial,trivial,trivial,trivial,trivial,trivial,trivial,trivial,trivial,trivial,trivial,trivial,trivial,trivial⟩
   (refine zaj (fun K hK=>?_); go_simp; first | refine hK _ ?_ | refine ⟨(fun h=>by cases h),hK _ ?_⟩; clear hK K)
   refine zax (.slice ga xo.length gc) rfl (fun w' hw'=>by have q0:=hw'.cell c5; go_simp) ?_;refine zae fun K h=>?_; go_simp; refine h _ ?_; clear h K;iterate 2 (refine zaj (fun K hK=>?_); go_simp; first | refine hK _ ?_ | refine ⟨(fun h=>by cases h),hK _ ?_⟩; clear hK K)
   refine zax (I xo.length) rfl (fun w' hw'=>by have q0:=hw'.cell c1; go_simp) ?_;refine zae fun K h=>?_; go_simp; refine h _ ?_; clear h K;iterate 3 (refine zaj (fun K hK=>?_); go_simp; first | refine hK _ ?_ | refine ⟨(fun h=>by cases h),hK _ ?_⟩; clear hK K)
   refine zax (I xo.length) rfl (fun w' hw'=>by have q0:=hw'.cell c1; go_simp) ?_;refine zae fun K h=>?_; go_simp; refine h _ ?_; clear h K;iterate 6 (refine zaj (fun K hK=>?_); go_simp; first | refine hK _ ?_ | refine ⟨(fun h=>by cases h),hK _ ?_⟩; clear hK K)
   refine zax (.slice ga xo.length gc) rfl (fun w' hw'=>by have q0:=hw'.cell c5; go_simp) ?_;refine zae fun K h=>?_; go_simp; refine h _ ?_; clear h K;iterate 2 (refine zaj (fun K hK=>?_); go_simp; first | refine hK _ ?_ | refine ⟨(fun h=>by cases h),hK _ ?_⟩; clear hK K)
   refine zax (I xo.length) rfl (fun w' hw'=>by have q0:=hw'.cell c1; go_simp) ?_;refine zae fun K h=>?_; go_simp; refine h _ ?_; clear h K;refine zax (.slice va xo.length vc) rfl (fun w' hw'=>by go_simp) ?_;refine zae fun K h=>?_; go_simp; refine h _ ?_; clear h K;refine zdd _ rfl (fun w' hw' hk=>?_) ?_
   ·have mr:=EW.o.trans hw';have hg:=(zgG (zhT _ _ _ _ w' (zgW.1 (HGT.o.ext zgZ mr)) (zgW.1 ((HV.o.take (by decide) xo.length hB).ext zgZ mr)))).mono (T':=fun v _=>v=.bool E) (fun r w'' _ h=>by rw [h,HE.o]);clear hk;unfold zaI;go_simp
    exact ⟨Ext.refl _,hg⟩
   refine zae fun K h=>?_; go_simp; refine h _ ?_; clear h K;iterate 2 (refine zaj (fun K hK=>?_); go_simp; first | refine hK _ ?_ | refine ⟨(fun h=>by cases h),hK _ ?_⟩; clear hK K)
   refine zaL ?_;intro w3 e6 _;clear c1 c5;go_wp2
   go_ret
   refine zk3 E rfl (EW.o.trans e6) ?_;rw [<- HE.o,decide_eq_true_eq];exact ⟨fun h=>⟨rfl,hB,znm h⟩,fun h=>by have q:xo=l.take xo.length:=h.2.2; rw [<- q]⟩

open Go.RowKit Go.Mk

theorem zly (m:Mc) (c u a p box plan cl:Value) (w:World) (A:Nat->Prop) (hx:RdM A w m c u a p box plan cl) (hl:LookM m) :
  Calls Try.prog 18 #[.agg (zaO m c u a p box plan cl).toArray] w (zhx w (zd6 m)):=by
 obtain ⟨ca,cc,ua,uc,aa,ac,pa,pc,xa,xc,la,lc,ka,kc,rfl,rfl,rfl,rfl,rfl,rfl,rfl⟩:=hx.slices;obtain ⟨⟨sc,su,sa,sp⟩,⟨gen,bl,busy,⟨nc,nt,⟨nk,na,no,nn⟩⟩,pl,⟨se,sn⟩⟩,up,pause,falls,cls⟩:=m;have HX:=zhd hx;have HLK:=zhd hl;have HP:Hid (zaq 6 zes w (.slice pa sp.length pc) sp):=hx.past.o;obtain ⟨_,_,kq,k1,k2,k3⟩:=zhr hx.clients.o;simp only [Value.slice.injEq,true_and] at kq;obtain ⟨rfl,rfl⟩:=kq;unfold maxLen at k2;have K3:=zhd k3;have HN:Hid (sp.length<=1000):=hl.len;clear hx hl k3;have HQL:Hid ((allCl (sp.map Rq.call)).2.length=sp.length):=by unfold Hid; rw [zfh]; simp
 obtain ⟨W,HW⟩:∃ W:Prop,Hid (zd6 ⟨⟨sc,su,sa,sp⟩,⟨gen,bl,busy,⟨nc,nt,⟨nk,na,no,nn⟩⟩,pl,⟨se,sn⟩⟩,up,pause,falls,cls⟩↔W):=⟨_,Iff.rfl⟩;rw [show zhx w (zd6 ⟨⟨sc,su,sa,sp⟩,⟨gen,bl,busy,⟨nc,nt,⟨nk,na,no,nn⟩⟩,pl,⟨se,sn⟩⟩,up,pause,falls,cls⟩)=zhx w W from congrArg _ (propext HW.o)];obtain ⟨E,HE⟩:∃ E:Bool,Hid (decide (zaZ (zao sc su)=(allCl (sp.map Rq.call)).1)=E):=⟨_,rfl⟩;have EW:=zhd (Ext.refl w);go_enter Try.func18,Try.ntmps18
 go_wp2_with (with_reducible refine zT ?_)
 refine zal rfl 43 (.tmp 0) rfl #[.slice ca sc.length cc,.slice ua su.length uc,.slice aa sa.length ac,.slice pa sp.length pc,I gen,.slice xa bl.length xc,.bool busy,I nc,I nt,I nk,I na,I no,I nn,.slice la pl.length lc,I se,I sn,.bool up,I pause,I falls,.slice ka cls.length kc] rfl (fun b1 w1_ M1=>?_);have zad:=zmb M1;have c3:=zaa (i:=3) zad.o rfl;go_wp2_with fail
 clear c3;replace EW:=zet EW M1;refine (zk0 _ sp w1_ (zbI.1 (HP.o.ext zc1 EW.o)) HLK.o.past (by have z:=HN.o; omega)).mono ?_;rintro e w2 ⟨r,rfl,e2,xv,yv,rfl,hx,hy⟩
 obtain ⟨ya,yc,rfl⟩:=zam hy;obtain ⟨za,zc,rfl⟩:=zam hx;have HNM:=zhd hx;have HY:=zhd hy;clear hx hy;replace zad:=zbx zad e2;replace EW:=zhd (EW.o.trans e2);clear e2;go_wp2_with (with_reducible refine zT ?_)
 refine zai rfl 43 (.tmp 1) rfl b1 rfl zad zbf za2 (fun v16 H_v16=>?_);go_wp2_with fail
 rw [H_v16.o];clear H_v16;refine (zkV ⟨⟨sc,su,sa,sp⟩,⟨gen,bl,busy,⟨nc,nt,⟨nk,na,no,nn⟩⟩,pl,⟨se,sn⟩⟩,up,pause,falls,cls⟩ _ _ _ _ _ _ _ w2 A (HX.o.ext EW.o) HLK.o).to fun r w3 e3 hr=>?_;obtain ⟨na2,nc2,rfl⟩:=zam hr;have HR:=zhd hr;clear hr;replace HNM:=zhd (HNM.o.ext e3);replace HY:=zhd (HY.o.ext e3);replace zad:=zbx zad e3;replace EW:=zhd (EW.o.trans e3);clear e3;go_wp2_with fail
 refine (ziF _ _ _ _ _ HR.o HNM.o).mono ?_;rintro e w4 ⟨rfl,nd,hw⟩
 have e4:Ext w3 w4:=by rw [hw]; exact Ext.of_drewN _ _
 rw [show decide (zaZ (zao sc su)=(allCl (sp.map Rq.call)).1)=E from HE.o];clear hw HR HNM;replace HY:=zhd (HY.o.ext e4);replace zad:=zbx zad e4;replace EW:=zhd (EW.o.trans e4);clear e4;cases E
 case false =>
  go_wp2
  go_ret
  refine zca rfl EW.o (fun h=>?_);exact absurd (HW.o.2 h).1 (decide_eq_false_iff_not.1 HE.o)
 have HNAME:Hid (zaZ (zao sc su)=zcu sp):=zhd (decide_eq_true_iff.1 HE.o:zaZ (zao sc su)=(allCl (sp.map Rq.call)).1);clear HE;have c19:=zaa (i:=19) zad.o rfl;go_wp2_with fail
 clear c19;obtain ⟨q,HQ⟩:∃ q,Hid ((allCl (sp.map Rq.call)).2=q):=⟨_,rfl⟩;replace HQL:Hid (q.length=sp.length):=by have z:=HQL.o; rw [HQ.o] at z; exact z
 replace HY:Hid (zan w4 (.slice ya (allCl (sp.map Rq.call)).2.length yc) q):=by have z:=HY.o; rw [HQ.o] at z; rw [HQ.o]; exact z
 have E0:=EW;clear EW;have EW:=zhd (Ext.refl w4);go_loopw [24] (fun i wr=>∃ k:Nat,k<=cls.length/\i=I k/\(∀ (j:Nat) (x:Cn),j < k->cls[j]?=some x->WholeC sp j x)/\Ext w4 wr) (fun i _=>cls.length - (intOf i).toNat)
 case atStart=>exact ⟨0,Nat.zero_le _,rfl,fun j x hj=>by omega,Ext.refl _⟩
 case round =>
  obtain ⟨k,hk,rfl,hP,he⟩:=hrel;have HP2:=zhd hP;clear hP;replace zad:=zbx zad he;replace EW:=zhd (EW.o.trans he);by_cases hlt:k < cls.length
  case neg =>
   go_wp2
   go_ret
   refine zk3 true rfl (E0.o.trans EW.o) ⟨fun _=>HW.o.1 ⟨HNAME.o,fun i x hx=>HP2.o i x ?_ hx⟩,fun _=>rfl⟩;have z:=(List.getElem?_eq_some_iff.1 hx).1;have z2:i < cls.length:=z;omega
  obtain ⟨x,hx⟩:∃ x,cls[k]?=some x:=⟨cls[k],List.getElem?_eq_getElem hlt⟩;obtain ⟨b,off,x1,x2,x3,rfl,c0,c1,c2,c3,c4,c5,g1⟩:=K3.o k x hx;obtain ⟨cla,clc,rfl⟩:=zac (zdk.1 g1).1;obtain ⟨cxa,cxc,rfl⟩:=zac (zdk.1 g1).2.1;obtain ⟨cga,cgc,rfl⟩:=zac (zdk.1 g1).2.2;have HG:=zhd g1;have HXK:=zhd hx;clear g1 hx;obtain ⟨xl,xt,xs,xg,xb,xo⟩:=x;simp only [] at c0 c1 c2 c3 c4 c5;have mr:Ext w wr:=E0.o.trans EW.o;replace c0:=mr.cell c0;replace c1:=mr.cell c1;replace c2:=mr.cell c2;replace c3:=mr.cell c3;replace c4:=mr.cell c4;replace c5:=mr.cell c5;have HSZ:Hid (w4.heap.size<=wr.heap.size):=EW.o.size;go_wp2_with ((with_reducible refine zst (L:=[43,40,30]) ?_ ?_); exact rfl)
  clear c0 c1 c2 c3 c4 c5 mr he;refine zah rfl 61 zC (by kernel_rfl) (fun b6 w2_ M2=>?_);have znq:=zld zad M2;have zhR:=zmb M2;have zoT:Hid (w4.heap.size<=b6):=by unfold Hid; have q2:=M2.o.at_; have q3:=HSZ.o; omega
  go_wp2_with (with_reducible refine zT ?_)
  refine zaf rfl 61 (.tmp 6) (.tmp 28) rfl b6 rfl [.slice cla xl.length clc,I xt,.bool xs,I xg,.slice cxa xb.length cxc,.slice cga xo.length cgc] (rfl) zhR rfl zcw rfl (fun w3_ M3=>?_);replace zhR:=zwb M3;replace zad:=zwl M3 (zmo M2 zad) znq;have c3:=zaa (i:=3) zad.o rfl;go_wp2_with fail
  clear c3;replace EW:=zwe M3 (zet EW M2) zoT;refine (zm6 _ _ sp q k w3_ (HP.o.ext zc1 (E0.o.trans EW.o)) (HY.o.ext EW.o) HQL.o (by have z:=HN.o; omega)).to fun r w5 e5 hr=>?_;obtain ⟨dv,tv,rfl,hd,ht⟩:=hr;obtain ⟨da,dc,rfl⟩:=zac hd;obtain ⟨ta,tc,rfl⟩:=zac ht;have HD:=zhd hd;have HT:=zhd ht;clear hd ht;replace zad:=zbx zad e5;replace zhR:=zbx zhR e5;replace EW:=zhd (EW.o.trans e5);clear e5;go_wp2_with (with_reducible refine zT ?_)
  refine zai rfl 61 (.tmp 6) rfl b6 rfl zhR zcn zcw (fun v38 H_v38=>?_);go_wp2_with fail
  rw [H_v38.o];clear H_v38;refine (zkS ⟨xl,xt,xs,xg,xb,xo⟩ _ _ _ _ (zdx sp k) w5 (zj1 _ _ _ _ (E0.o.trans EW.o) HG.o) HD.o (by have z:=HN.o; have z2:=zfm sp k; omega)).mono ?_;rintro e w6 ⟨bD,rfl,e6,hbD⟩
  have HBD:=zhd hbD;clear HD hbD;replace HT:=zhd (HT.o.ext zgZ e6);replace zad:=zbx zad e6;replace zhR:=zbx zhR e6;replace EW:=zhd (EW.o.trans e6);clear e6;cases bD
  case false =>
   go_wp2_with fail
   go_wp2
   go_ret
   refine zca rfl (E0.o.trans EW.o) (fun h=>?_);have z:=HBD.o.2 ((zgz sp k _).1 ((HW.o.2 h).2 k _ HXK.o)).1;cases z
  go_wp2_with (with_reducible refine zT ?_)
  unfold Hid;refine zdG rfl 61 (.tmp 6) rfl b6 0 rfl zhR [.slice cla xl.length clc,I xt,.bool xs,I xg,.slice cxa xb.length cxc,.slice cga xo.length cgc] rfl zcn zcw (fun v43 H_v43=>?_);go_wp2_with fail
  rw [H_v43.o];clear H_v43;refine (zjc ⟨xl,xt,xs,xg,xb,xo⟩ _ _ _ _ (zc3 (sp.zip q) k) w6 (zj1 _ _ _ _ (E0.o.trans EW.o) HG.o) HT.o).mono ?_;rintro e w7 ⟨bH,rfl,e7,hbH⟩
  have HBH:=zhd hbH;clear HT hbH;replace zad:=zbx zad e7;replace zhR:=zbx zhR e7;replace EW:=zhd (EW.o.trans e7);clear e7;have HTQ:Hid (zc3 (sp.zip q) k=zbX sp k):=by unfold Hid; rw [<- HQ.o]; rfl
  cases bH
  case false =>
   go_wp2
   go_ret
   refine zca rfl (E0.o.trans EW.o) (fun h=>?_);have z:=HBH.o.2 (by rw [HTQ.o]; exact ((zgz sp k _).1 ((HW.o.2 h).2 k _ HXK.o)).2);cases z
  go_wp2
  go_roundw
  case rel =>
   refine ⟨k+1,by omega,by go_num,fun j x hj hx=>?_,EW.o⟩;by_cases hjk:j=k
   ·rw [hjk] at hx ⊢;have hx2:=HXK.o.symm.trans hx;cases hx2
    have z:=HBH.o.1 (by first | rfl | trivial);rw [HTQ.o] at z;exact (zgz sp k _).2 ⟨HBD.o.1 (by first | rfl | trivial),z⟩
   ·exact HP2.o j x (by omega) hx
  case measure=>simp [intOf]; omega

theorem ziU:zf9:=fun m c u a p box plan cl w A hx hl=>(zly m c u a p box plan cl w A hx hl).mono fun _ _ ⟨b,e,h1,h2⟩=>⟨_,e,h1,b,rfl,h2⟩

open Go.RowKit Go.Mk

theorem zh1 (v0 v1:Value) (l:List (List Cl)) (steps:List (Int×Int)) (n:Int) (w:World) (h0:zaq 1 zdb w v0 l) (h1:zan w v1 steps) :
  zba Try.prog 3 #[v0,v1,I n] w fun r _=>r=.bool true:=ziM zkV ziH zkO ziU v0 v1 l steps n w h0 h1

end Go.Proofs.Ytdmipnnfoolelaf

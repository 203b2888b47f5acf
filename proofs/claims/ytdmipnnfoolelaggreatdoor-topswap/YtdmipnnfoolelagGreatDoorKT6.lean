/- zbb of the proof, merged: JB QA UD QB. -/
import Derived.Test.YtdmipnnfoolelagGreatDoorKTA
import Derived.Test.YtdmipnnfoolelagGreatDoorKT5
import Derived.Test.YtdmipnnfoolelagGreatDoorKTP
import Derived.Test.YtdmipnnfoolelagGreatDoorKTM
import Derived.Test.YtdmipnnfoolelagGreatDoorKTS
import Derived.Test.YtdmipnnfoolelagGreatDoorKTX
import Derived.Test.YtdmipnnfoolelagGreatDoorKTW
import Derived.Test.YtdmipnnfoolelagGreatDoorKTY
import Derived.Test.YtdmipnnfoolelagGreatDoorKTQ
import Derived.Test.YtdmipnnfoolelagGreatDoorKTR
set_option maxHeartbeats 4000000
set_option maxRecDepth 100000

namespace Go.Proofs.YtdmipnnfoolelagGreatDoor
open Go.RowKit Go.Mk

theorem zmq (v:Value) (x:List Cl) (w:World) (hv:zaj 4 zbX w v x) :
  Calls Tryz.prog 44 #[v] w fun e w'=>∃ r,e=.returned (I r)/\Ext w w'/\((r=0/\x.length<=8/\∀ y ∈ x,wrongCl y=0)∨(r=4/\8 < x.length)∨(r≠0/\¬ 8 < x.length/\∃ (q:Nat) (y:Cl),(∀ (j:Nat) (z:Cl),j < q->x[j]?=some z->wrongCl z=0)/\x[q]?=some y/\wrongCl y=r)):=by
 obtain ⟨xa,xcap,rfl⟩:=zaf hv;have HXF:=zhd hv;clear hv;by_cases h8:8 < x.length
 ·have h8i:(8:Int) < (x.length:Int):=by omega
  have H8:=zhd h8;clear h8;go_enter Tryz.func44,Tryz.ntmps44
  go_wp2
  go_ret
  exact ⟨_,rfl,Ext.refl _,.inr (.inl ⟨rfl,H8.o⟩)⟩
 have h8i:¬ ((8:Int) < (x.length:Int)):=by omega
 have H8:=zhd h8;clear h8;go_enter Tryz.func44,Tryz.ntmps44
 go_wp2_with fail
 clear h8i;go_loopw [11] (fun i wi=>∃ q:Nat,q<=x.length/\i=I q/\(∀ (j:Nat) (y:Cl),j < q->x[j]?=some y->wrongCl y=0)/\Ext w wi) (fun i _=>x.length - (intOf i).toNat)
 case atStart=>exact ⟨0,Nat.zero_le _,rfl,fun j y hj=>by omega,Ext.refl _⟩
 case round =>
  obtain ⟨q,hq,rfl,hall,hei⟩:=hrel;have HALL:=zhd hall;have HEI:=zhd hei;clear hall hei;by_cases hql:q < x.length
  ·obtain ⟨y,hy⟩:∃ y,x[q]?=some y:=⟨x[q],List.getElem?_eq_getElem hql⟩;obtain ⟨_,_,e1,_,hxm,_,hf⟩:=HXF.o.form (by decide);simp only [Value.slice.injEq,true_and] at e1;obtain ⟨rfl,rfl⟩:=e1;obtain ⟨yk,ya,yo,yn⟩:=y;obtain ⟨yb,yf,c4,rfl,-,hc4,hcell⟩:=hf q _ hy;have hc4:c4=[I yk,I ya,I yo,I yn]:=hc4;subst hc4;have HY:=zhd hy;have y0:=HEI.o.cell (hcell 0 _ rfl);have y1:=HEI.o.cell (hcell 1 _ rfl);have y2:=HEI.o.cell (hcell 2 _ rfl);have y3:=HEI.o.cell (hcell 3 _ rfl);simp only [Nat.add_zero,<- Nat.add_assoc] at y0 y1 y2 y3;clear hf hcell hy;unfold maxLen at hxm;go_wp2_with fail
   clear y0 y1 y2 y3;refine (zgZ yk ya yo yn _).to fun r wj ej hr=>?_;subst hr;replace ej:=((Ext.refl _).alloc _).trans ej;have hei:=HEI.o.trans ej;by_cases hw:wrongCl ⟨yk,ya,yo,yn⟩=0
   ·rw [hw];have HW:=zhd hw;clear hw;go_wp2
    go_roundw
    case rel =>
     refine ⟨q+1,by omega,by go_num,fun j y hj hy=>?_,hei⟩;by_cases hjq:j=q
     ·subst hjq;have hy2:x[j]?=some y:=hy;rw [HY.o] at hy2;cases hy2
      exact HW.o
     ·exact HALL.o j y (by omega) hy
    case measure=>simp [intOf]; omega
   ·have hb:(wrongCl ⟨yk,ya,yo,yn⟩ != 0)=true:=by simpa using hw
    have HW:=zhd hw;obtain ⟨WC,hWC⟩:∃ z,wrongCl ⟨yk,ya,yo,yn⟩=z:=⟨_,rfl⟩;have HWC:=zhd hWC;rw [hWC] at hb ⊢;clear hw hWC;go_wp2
    go_ret
    exact ⟨_,rfl,hei,.inr (.inr ⟨by rw [<- HWC.o]; exact HW.o,H8.o,q,_,HALL.o,HY.o,HWC.o⟩)⟩
  ·have hqx:q=x.length:=by omega
   subst hqx;clear hql hq;go_wp2
   go_ret
   refine ⟨_,rfl,HEI.o,.inl ⟨rfl,by have q:=H8.o; omega,fun y hy=>?_⟩⟩;obtain ⟨q,hq⟩:=List.mem_iff_getElem?.1 hy;exact HALL.o q y (List.getElem?_eq_some_iff.1 hq).1 hq

theorem zvi:ztO:=fun v l w A hv=>by
 unfold za3
 obtain ⟨css,hcss⟩:=zdo (by decide) hv
 obtain ⟨va,vcap,rfl,v1,v2,hcl,v3⟩:=zn0 hcss.o.1 hcss.o.2
 unfold maxLen at v2
 have V3:=zhd v3
 clear v3 hcl hv hcss
 have EW:=zhd (Ext.refl w)
 by_cases h3:3 < l.length
 case pos =>
  have h3i:(3:Int) < (l.length:Int):=by omega
  have HN:=zhd (zru h3)
  have HNE:=zhd (zp4 h3)
  clear h3
  go_enter Tryz.func22,Tryz.ntmps22
  go_wp2_with (with_reducible refine zT ?_)
  refine zac rfl 43 zM (by kernel_rfl) (fun b2 w1_ M1=>?_)
  have zal:=zmb M1
  replace EW:=zet EW M1
  have zcg:Hid (w.heap.size<=b2):=by unfold Hid; have q:=M1.o.at_; omega
  go_wp2_with (with_reducible refine zT ?_)
  refine zbm rfl 43 #[] rfl zM (by kernel_rfl) (fun v11 H_v11=>?_)
  go_wp2_with (with_reducible refine zT ?_)
  refine zaa rfl 43 (.tmp 2) (.tmp 11) rfl b2 rfl _ (zcv H_v11) zal rfl zaT rfl (fun w2_ M2=>?_)
  replace zal:=zwb M2
  replace EW:=zwe M2 EW zcg
  go_wp2
  have z0:=zau (P:=Tryz.prog) 43 zal.o za2 (by kernel_rfl)
  refine bodyPost_ret (by simp [results,Tryz.results22,asAddr,z0]; rfl) rfl ?_
  exact ⟨_,rfl,EW.o,Rd.all fun w=>⟨_,_,rfl,.inr ⟨rfl,by decide,HN.o⟩,HNE.o.symm⟩⟩
 have h3i:¬ ((3:Int) < (l.length:Int)):=by omega
 have H3:=zhd h3
 clear h3
 obtain ⟨j0,hj,hy0,hy1,hy2⟩:=info_parts Tryz.infoClient
 have HJ:=zhd hj
 clear hj
 go_enter Tryz.func22,Tryz.ntmps22
 go_wp2_with (with_reducible refine zT ?_)
 refine zac rfl 43 zM (by kernel_rfl) (fun b2 w1_ M1=>?_)
 have zal:=zmb M1
 replace EW:=zet EW M1
 have zcg:Hid (w.heap.size<=b2):=by unfold Hid; have q:=M1.o.at_; omega
 go_wp2_with fail
 refine (zlq w1_).to fun r wn en hr=>?_
 obtain ⟨cs,rfl,hcs⟩:=zcb hr
 obtain ⟨c',u',a',p',rfl,r1,r2,r3,r4⟩:=zkA hcs
 obtain ⟨ca',cc',rfl⟩:=zao r1.o
 obtain ⟨ua',uc',rfl⟩:=zao r2.o
 obtain ⟨aa',ac',rfl⟩:=zaf r3.o
 obtain ⟨pa',pc',rfl⟩:=zaf r4.o
 have SZ1:Hid (b2 < w1_.heap.size/\w.heap.size<=w1_.heap.size):=⟨(zlt zal),EW.o.size⟩
 have RS:Hid (Rd (fun q=>w1_.heap.size<=q/\q < wn.heap.size) (fun w=>zc7 w [.slice ca' newSt.cells.length cc',.slice ua' newSt.undo.length uc',.slice aa' newSt.answers.length ac',.slice pa' newSt.past.length pc'] newSt) wn):=hcs.widen fun q hq h=>⟨h.elim False.elim id,hq⟩
 clear hr hcs r1 r2 r3 r4
 replace zal:=zbx zal en
 replace EW:=zhd (EW.o.trans en)
 clear en
 go_wp2_with (with_reducible refine zT ?_)
 refine zbm rfl 43 #[(0,.tmp 12),(2,.const (.bool true))] rfl #[.slice ca' newSt.cells.length cc',.slice ua' newSt.undo.length uc',.slice aa' newSt.answers.length ac',.slice pa' newSt.past.length pc',I 0,.slice none 0 0,.bool false,I 0,I 0,I 0,I 0,I 0,I 0,.slice none 0 0,I 0,I 0,.bool true,I 0,I 0,.slice none 0 0] (by kernel_rfl) (fun v13 H_v13=>?_)
 go_wp2_with (with_reducible refine zT ?_)
 refine zac rfl 43 zM (by kernel_rfl) (fun b4 w2_ M2=>?_)
 have zgj:=zld zal M2
 replace zal:=zmo M2 zal
 have zaE:=zmb M2
 replace EW:=zet EW M2
 have zew:Hid (w.heap.size<=b4):=by unfold Hid; have q:=zcg.o; have q2:=zgj.o; omega
 have SZ4:Hid (wn.heap.size<=b4):=by unfold Hid; have q:=M2.o.at_; omega
 replace RS:=zme M2 RS
 go_wp2_with (with_reducible refine zT ?_)
 refine zaa rfl 43 (.tmp 4) (.tmp 13) rfl b4 rfl _ (zcv H_v13) zaE rfl zaT rfl (fun w3_ M3=>?_)
 replace zal:=zwl M3 zal zgj
 replace zaE:=zwb M3
 replace EW:=zwe M3 EW zew
 replace RS:=zwr M3 RS (fun h=>by have q:=SZ4.o; have q2:=h.2; omega)
 go_wp2_with fail
 go_loopw [16] (fun i wr=>∃ (k:Nat) (clv:Value) (dss:List (List Value)) (E:Nat->Prop),k<=l.length/\i=I k/\okL l k/\wr.heap[b2]?=some (.cells zM 43 (0,0))/\wr.heap[b4]?=some (.cells #[.slice ca' newSt.cells.length cc',.slice ua' newSt.undo.length uc',.slice aa' newSt.answers.length ac',.slice pa' newSt.past.length pc',I 0,.slice none 0 0,.bool false,I 0,I 0,I 0,I 0,I 0,I 0,.slice none 0 0,I 0,I 0,.bool true,I 0,I 0,clv] 43 (0,0))/\wr.ownsRow (b4+1) 49 6 clv k dss.flatten/\(∀ q,E q->w.heap.size<=q/\q≠b2/\q≠b4/\q < wr.heap.size)/\(∀ q,clv.ownBlock=some q->¬ E q)/\Rd E (fun w=>zc7 w [.slice ca' newSt.cells.length cc',.slice ua' newSt.undo.length uc',.slice aa' newSt.answers.length ac',.slice pa' newSt.past.length pc'] newSt/\zc8 6 zcG w dss ((l.take k).map zbO)) wr/\Ext w wr) (fun i _=>l.length - (intOf i).toNat)
 case atStart=>exact ⟨0,_,[],(fun q=>w1_.heap.size<=q/\q < wn.heap.size),Nat.zero_le _,rfl,fun j x hj=>by omega,zal.o,zaE.o,World.ownsRow_nil _ _ _ _,(fun q h=>⟨(by have q2:=SZ1.o.2; have q3:=h.1; omega),(by have q2:=SZ1.o.1; have q3:=h.1; omega),(by have q2:=SZ4.o; have q3:=h.2; omega),(by have q1:=(zlt zaE); have q2:=SZ4.o; have q3:=h.2; omega)⟩),(fun q h=>(by cases h)),RS.o.imp fun w h=>⟨h,zc8.nil w⟩,EW.o⟩
 case round =>
  obtain ⟨k,clv,dss,E,hk,rfl,hok,hb2,hb4,hocl,hE,hEo,hrs,hex⟩:=hrel
  clear zal zaE EW RS
  have zal:=zhd hb2
  have zaE:=zhd hb4
  have OCL:=zhd hocl
  have EW:=zhd hex
  have HOK:=zhd hok
  have HE:=zhd hE
  have HEO:=zhd hEo
  have RS:=zhd hrs
  obtain ⟨la,lcap,rfl⟩:=zcR hocl
  clear hb2 hb4 hocl hex hok hE hEo hrs
  by_cases hlt:k < l.length
  ·obtain ⟨x,hx⟩:∃ x,l[k]?=some x:=⟨l[k],List.getElem?_eq_getElem hlt⟩
   obtain ⟨vb,vo,cv,rfl,hcv,hcell,hrow⟩:=V3.o k x hx
   have hcw:=EW.o.cell hcell
   obtain ⟨xa,xcap,rfl⟩:=zaf hrow
   have HXF:=zhd (hrow.ext zbl EW.o)
   have HX:=zhd hx
   clear hx hcv hcell hrow
   have HLW0:Hid (∀ q,(Value.slice la k lcap).ownBlock=some q->q < wr.heap.size):=fun q e=>(OCL.o.lt q e).2
   have SZB4:Hid (b4 < wr.heap.size):=(zlt zaE)
   go_wp2_with fail
   clear hcw
   refine (zmq _ x wr HXF.o).mono ?_
   rintro e wj ⟨er,rfl,ej,hcase⟩
   have HC:=zhd hcase
   clear hcase
   replace zal:=zbx zal ej
   replace zaE:=zbx zaE ej
   replace EW:=zhd (EW.o.trans ej)
   replace OCL:=zhd (zai OCL.o ej)
   replace RS:=zrx RS ej
   replace HXF:=zhd (HXF.o.ext zbl ej)
   have SZJ:Hid (wr.heap.size<=wj.heap.size):=ej.size
   clear ej
   by_cases he:er=0
   case neg =>
    have hb:(er != 0)=true:=by simpa using he
    have HR:Hid (¬ zaG l/\ze4 l=er):=by
     rcases HC.o with h | h | h
     ·exact absurd h.1 he
     ·exact ⟨zsH HX.o h.2,by rw [h.1]; exact zqs H3.o HOK.o HX.o h.2⟩
     ·obtain ⟨h1,h2,q,y,h3,h4,h5⟩:=h
      exact ⟨zrt HX.o h4 (by rw [h5]; exact h1),by rw [<- h5]; exact zp8 H3.o HOK.o HX.o h2 h3 h4 (by rw [h5]; exact h1)⟩
    have HER:=zhd he
    clear he
    go_wp2_with (with_reducible refine zT ?_)
    clear hb
    refine zbm rfl 43 #[] rfl zM (by kernel_rfl) (fun v24 H_v24=>?_)
    go_wp2_with (with_reducible refine zT ?_)
    refine zaa rfl 43 (.tmp 2) (.tmp 24) rfl b2 rfl _ (zcv H_v24) zal rfl zaT rfl (fun w41_ M41=>?_)
    replace zal:=zwb M41
    replace zaE:=zwg M41 zaE zgj
    replace EW:=zwe M41 EW zcg
    go_wp2
    have z0:=zau (P:=Tryz.prog) 43 zal.o za2 (by kernel_rfl)
    refine bodyPost_ret (by simp [results,Tryz.results22,asAddr,z0]; rfl) rfl ?_
    exact ⟨_,rfl,EW.o,Rd.all fun w=>⟨_,_,rfl,.inr ⟨rfl,HER.o,HR.o.1⟩,HR.o.2.symm⟩⟩
   subst he
   have HLW:Hid (∀ q,(Value.slice la k lcap).ownBlock=some q->q < wr.heap.size):=HLW0.o
   go_wp2_with fail
   have c19:=zae (i:=19) zaE.o rfl
   refine zap 6 [none,none,none,none,some (.inr (fun r wx=>Rd (fun q=>wj.heap.size<=q) (Agg zcG (zbO x) r) wx)),some (.inr (fun r wx=>∃ (na1:Option Addr) (nc1:Nat) (na2:Option Addr) (nc2:Nat) (na3:Option Addr) (nc3:Nat),Row wx 6 r 1 [.slice na1 x.length nc1,I 0,.bool false,I 0,.slice na2 0 nc2,.slice na3 0 nc3]/\Rd (fun q=>wj.heap.size<=q) (fun w=>zcG w [.slice na1 x.length nc1,I 0,.bool false,I 0,.slice na2 0 nc2,.slice na3 0 nc3] (zbO x)) wx))] (by kernel_rfl) (by kernel_rfl) ?_ ?_
   ·exact ⟨trivial,trivial,trivial,trivial,fun _=>Rd.mono _ _,fun _ _ _ he ⟨n1,c1,n2,c2,n3,c3,h1,h2⟩=>⟨n1,c1,n2,c2,n3,c3,h1.ext he,h2.ext he⟩,trivial⟩
   (refine zat (fun K hK=>?_); go_simp; first | refine hK _ ?_ | refine ⟨(fun h=>by cases h),hK _ ?_⟩; clear hK K)
   refine zaK (.slice la k lcap) rfl (fun w' hw'=>by have:=hw'.cell c19; go_simp) ?_
   refine zan fun K h=>?_; go_simp; refine h _ ?_; clear h K
   (refine zat (fun K hK=>?_); go_simp; first | refine hK _ ?_ | refine ⟨(fun h=>by cases h),hK _ ?_⟩; clear hK K)
   refine zaK (.agg #[.slice xa x.length xcap,I 0,.bool false,I 0,.slice none 0 0,.slice none 0 0]) rfl (fun w' hw'=>by kernel_rfl) ?_
   refine zan fun K h=>?_; go_simp; refine h _ ?_; clear h K
   refine zbq _ rfl (fun w' hw' hk=>?_) (fun v30=>?_)
   ·have hle:=hw'.size
    have hl8:x.length<=8:=by rcases HC.o with h | h | h; exact h.2.1; exact absurd h.1 (by decide); exact absurd rfl h.1
    have hkk:=zfH (zbO x) _ _ _ w' (HXF.o.ext zbl hw') (zaj.nil w') (zaj.nil w') ⟨Nat.le_trans hl8 (by decide),Nat.zero_le _,fun b hb=>(by cases hb),Nat.zero_le _⟩
    clear hk
    unfold za0
    go_simp
    exact ⟨Ext.refl _,Calls.mono hkk fun e w'' ⟨r,he,hx,ht⟩=>⟨r,he,hx,ht.widen (fun k _ h=>by rcases h with h | h; exact h.elim; exact Nat.le_trans hle h)⟩⟩
   refine zan fun K h=>?_; go_simp; refine h _ ?_; clear h K
   refine zbq _ rfl (fun w' hw' hk=>?_) (fun v31=>?_)
   ·have h30:Rd (fun q=>wj.heap.size<=q) (Agg zcG (zbO x) v30) w':=hk 30 (by decide)
    clear hk
    obtain ⟨cs,rfl,hcs⟩:=zcb h30
    obtain ⟨n1,n2,n3,rfl,r1,r2,r3⟩:=zd2 hcs
    obtain ⟨na1,nc1,rfl⟩:=zaf r1.o
    obtain ⟨na2,nc2,rfl⟩:=zaf r2.o
    obtain ⟨na3,nc3,rfl⟩:=zaf r3.o
    clear r1 r2 r3 h30
    unfold za0
    go_simp
    exact ⟨(Ext.refl _).alloc _,na1,nc1,na2,nc2,na3,nc3,Row.of_owns (World.ownsRow_lit (base:=0) (size:=6) w' _ 1 (Nat.zero_le _) (by decide) rfl),hcs.ext ((Ext.refl _).alloc _)⟩
   refine zan fun K h=>?_; go_simp; refine h _ ?_; clear h K
   refine za5 ?_
   intro w8 e8 hF
   obtain ⟨na1,nc1,na2,nc2,na3,nc3,hlit,hnew⟩:(fun r wx=>∃ (na1:Option Addr) (nc1:Nat) (na2:Option Addr) (nc2:Nat) (na3:Option Addr) (nc3:Nat),Row wx 6 r 1 [.slice na1 x.length nc1,I 0,.bool false,I 0,.slice na2 0 nc2,.slice na3 0 nc3]/\Rd (fun q=>wj.heap.size<=q) (fun w=>zcG w [.slice na1 x.length nc1,I 0,.bool false,I 0,.slice na2 0 nc2,.slice na3 0 nc3] (zbO x)) wx) v31 w8:=hF 31
   clear hF c19
   replace zal:=zbx zal e8
   replace zaE:=zbx zaE e8
   replace EW:=zhd (EW.o.trans e8)
   replace OCL:=zhd (zai OCL.o e8)
   replace RS:=zrx RS e8
   have SZ8:Hid (wj.heap.size<=w8.heap.size):=e8.size
   clear e8
   have hszl:b4+1<=w8.heap.size:=(zlt zaE)
   show wpList _ _ _ [_,_,_] _ _
   go_wp2_with (at_builtin; refine zb7 ?_)
   unfold Hid
   refine zgv rfl (.tmp 27) (.tmp 31) 41 rfl (b4+1) 49 j0 (.agg zC) 6 96 zuA HJ.o hy0 hy1 hy2 rfl (by decide) (.slice la k lcap) k _ rfl OCL.o _ rfl 1 _ hlit (zbR rfl) (by have:=H3.o; omega) (by decide) hszl ?_
   intro v32 wq ho hg hfr
   clear hlit hszl
   have hlo:∀ b,b<=b4->(Value.slice la k lcap).ownBlock≠some b:=fun b hb e=>by have:=(OCL.o.lt b e).1; omega
   have HLA:=zhd (fun b (e:(Value.slice la k lcap).ownBlock=some b)=>(OCL.o.lt b e).2)
   have kb2:=znx hg zal.o (hlo b2 (Nat.le_of_lt zgj.o))
   have kb4:=znx hg zaE.o (hlo b4 (Nat.le_refl _))
   have kew:Ext w wq:=EW.o.grown hg (fun b e=>by have q:=(OCL.o.lt b e).1; have q2:=zew.o; omega)
   have SZQ:Hid (w8.heap.size<=wq.heap.size):=hg.size
   have HLR:Hid (∀ q,(Value.slice la k lcap).ownBlock=some q->q < wr.heap.size):=HLW.o
   have RN:Hid (Rd (fun q=>E q∨(wj.heap.size<=q/\q < w8.heap.size)) (fun w=>(zc7 w [.slice ca' newSt.cells.length cc',.slice ua' newSt.undo.length uc',.slice aa' newSt.answers.length ac',.slice pa' newSt.past.length pc'] newSt/\zc8 6 zcG w dss ((l.take k).map zbO))/\zcG w [.slice na1 x.length nc1,I 0,.bool false,I 0,.slice na2 0 nc2,.slice na3 0 nc3] (zbO x)) wq):=((RS.o.widen (B:=fun q=>E q∨(wj.heap.size<=q/\q < w8.heap.size)) fun q _ h=>.inl h).and (hnew.widen (B:=fun q=>E q∨(wj.heap.size<=q/\q < w8.heap.size)) fun q hq h=>.inr ⟨h,hq⟩)).grown hg fun q e h=>by
    rcases h with h | h
    ·exact HEO.o q e h
    ·have q1:=HLR.o q e
     have q2:=SZJ.o
     omega
   have HEN:Hid (∀ q,v32.ownBlock=some q->¬ (E q∨(wj.heap.size<=q/\q < w8.heap.size))):=fun q e h=>by
    rcases hfr with hf | hf
    ·rw [hf] at e
     rcases h with h | h
     ·exact HEO.o q e h
     ·have q1:=HLR.o q e
      have q2:=SZJ.o
      omega
    ·have q1:=hf q e
     rcases h with h | h
     ·have q2:=(HE.o q h).2.2.2
      have q3:=SZJ.o
      have q4:=SZ8.o
      omega
     ·omega
   replace zal:=zhd kb2
   replace zaE:=zhd kb4
   replace EW:=zhd kew
   clear kb2 kb4 kew hlo hg hfr RS hnew OCL HEO HLA HLR HLW
   have hcsn:(dss++[[.slice na1 x.length nc1,I 0,.bool false,I 0,.slice na2 0 nc2,.slice na3 0 nc3]]).flatten=dss.flatten++[.slice na1 x.length nc1,I 0,.bool false,I 0,.slice na2 0 nc2,.slice na3 0 nc3]:=by simp
   have OCN:Hid (wq.ownsRow (b4+1) 49 6 v32 (k+1) (dss++[[.slice na1 x.length nc1,I 0,.bool false,I 0,.slice na2 0 nc2,.slice na3 0 nc3]]).flatten):=by unfold Hid; rw [hcsn]; exact ho
   clear ho hcsn
   obtain ⟨na,ncap,rfl⟩:=zcR OCN.o
   go_wp2_with (with_reducible refine zT ?_)
   refine zaq rfl 41 (.tmp 33) (.tmp 32) rfl b4 19 rfl [.slice na (k+1) ncap] (rfl) zaE rfl zuY rfl [.slice ca' newSt.cells.length cc',.slice ua' newSt.undo.length uc',.slice aa' newSt.answers.length ac',.slice pa' newSt.past.length pc',I 0,.slice none 0 0,.bool false,I 0,I 0,I 0,I 0,I 0,I 0,.slice none 0 0,I 0,I 0,.bool true,I 0,I 0,.slice na (k+1) ncap] rfl (fun w41_ M41=>?_)
   replace zal:=zwl M41 zal zgj
   replace zaE:=zwb M41
   replace OCN:=zhd (M41.o.owns OCN.o (fun e=>by have q:=(OCN.o.lt _ e).1; omega))
   replace EW:=zwe M41 EW zew
   replace RN:=zwr M41 RN (fun h=>by rcases h with h | h; exact (HE.o b4 h).2.2.1 rfl; have q:=SZJ.o; have q2:=SZB4.o; omega)
   have SZS:Hid (wq.heap.size<=w41_.heap.size):=M41.o.grown.size
   have htk:(l.take (k+1)).map zbO=(l.take k).map zbO++[zbO x]:=by rw [List.take_add_one,HX.o]; simp
   have HTK:=zhd htk
   clear htk
   go_wp2
   go_roundw
   case rel =>
    refine ⟨k+1,_,dss++[[.slice na1 x.length nc1,I 0,.bool false,I 0,.slice na2 0 nc2,.slice na3 0 nc3]],(fun q=>E q∨(wj.heap.size<=q/\q < w8.heap.size)),by omega,by go_num,fun j x' hj hx'=>?_,zal.o,zaE.o,OCN.o,fun q h=>?_,HEN.o,?_,EW.o⟩
    ·by_cases hjk:j=k
     ·subst hjk
      have hx2:l[j]?=some x':=hx'
      rw [HX.o] at hx2
      cases hx2
      rcases HC.o with h | h | h
      ·exact h.2
      ·exact absurd h.1 (by decide)
      ·exact absurd rfl h.1
     ·exact HOK.o j x' (by omega) hx'
    ·have q1:=SZJ.o
     have q2:=SZ8.o
     have q3:=SZQ.o
     have q4:=SZS.o
     have q5:=SZB4.o
     have q6:=zgj.o
     have q7:=zew.o
     rcases h with h | h
     ·obtain ⟨p1,p2,p3,p4⟩:=HE.o q h
      exact ⟨p1,p2,p3,by omega⟩
     ·exact ⟨by omega,by omega,by omega,by omega⟩
    ·rw [HTK.o]
     exact RN.o.imp fun w h=>⟨h.1.1,h.1.2.snoc rfl h.2⟩
   case measure=>simp [intOf]; omega
  ·have hkl:k=l.length:=by omega
   subst hkl
   have hrl:zaG l:=⟨by have:=H3.o; omega,fun c hc=>by
    obtain ⟨j,hj⟩:=List.mem_iff_getElem?.1 hc
    exact HOK.o j c (List.getElem?_eq_some_iff.1 hj).1 hj⟩
   have HRL:=zhd hrl
   clear hrl
   have zbC:Hid (¬ E b2):=fun h=>(HE.o b2 h).2.1 rfl
   go_wp2_with (with_reducible refine zT ?_)
   refine zah rfl 43 (.tmp 4) rfl b4 rfl zaE za2 zaT (fun v35 H_v35=>?_)
   go_wp2_with (with_reducible refine zT ?_)
   refine zaa rfl 43 (.tmp 2) (.tmp 35) rfl b2 rfl _ (zcv H_v35) zal rfl zaT rfl (fun w41_ M41=>?_)
   replace zal:=zwb M41
   replace zaE:=zwg M41 zaE zgj
   replace RS:=zwr M41 RS zbC
   replace OCL:=zhd (M41.o.owns OCL.o (fun e=>by have q:=(OCL.o.lt _ e).1; have q2:=zgj.o; omega))
   replace EW:=zwe M41 EW zcg
   go_wp2
   have z0:=zau (P:=Tryz.prog) 43 zal.o za2 (by kernel_rfl)
   refine bodyPost_ret (by simp [results,Tryz.results22,asAddr,z0]; rfl) rfl ?_
   have hw:∀ q,q < w41_.heap.size->E q->(A q∨w.heap.size<=q):=fun q _ h=>.inr (HE.o q h).1
   have hs:=(RS.o.imp fun _ h=>zcQ.1 h.1).widen hw
   have hev:=(RS.o.imp fun _ h=>h.2).widen hw
   rw [List.take_of_length_le (Nat.le_refl _)] at hev
   have hcl:=zqu (A:=fun k=>A k∨w.heap.size<=k) (fun k h _=>.inr (by have q:=zew.o; omega)) hev OCL.o (by decide)
   refine ⟨_,rfl,EW.o,(RdM.mc (m:=zcJ l) (A:=fun k=>A k∨w.heap.size<=k) ⟨hs.left,hs.right.left,hs.right.right.left,hs.right.right.right,Rd.all fun w=>zaj.nil w,Rd.all fun w=>zbr w,hcl⟩).imp fun w h=>⟨_,_,rfl,.inl ⟨rfl,HRL.o,h⟩,(zjG HRL.o).symm⟩⟩

open Go.RowKit Go.Mk

theorem zn7 (a b d:Value) (n:Nat) (aa:Option Addr) (ac:Nat) (ha:a=.slice aa n ac) (xt xg:Int) (xs:Bool) (w:World) :
  Calls Tryz.prog 27 #[.agg #[a,I xt,.bool xs,I xg,b,d]] w fun e w'=>e=.returned (.bool (decide (xt < (n:Int))))/\Ext w w':=by
 subst ha;have EW:=zhd (Ext.refl w);go_enter Tryz.func27,Tryz.ntmps27
 go_wp2_with (with_reducible refine zT ?_)
 refine zam rfl 49 (.tmp 0) rfl #[.slice aa n ac,I xt,.bool xs,I xg,b,d] rfl (fun b0 w1_ M1=>?_);have zab:=zmb M1;have c0:=zae (i:=0) zab.o rfl;have c1:=zae (i:=1) zab.o rfl;go_wp2
 go_ret
 replace EW:=zet EW M1;exact ⟨rfl,EW.o⟩

theorem znl:∀ (args:Array Value) (w:World),(callFunc 27 args).run Tryz.prog w=.ok (.enter 27 args) w:=fun _ _=>by kernel_rfl

theorem zkk (v:Value) (l:List Cn) (w:World) (hv:zaj 6 zcG w v l) :
  Calls Tryz.prog 50 #[v,.func (.func 27) #[] #[]] w fun e w'=>∃ r:Int,e=.returned (I r)/\Ext w w'/\(decide (r ≥ 0)=!(l.all fun c=>decide ((c.calls.length:Int)<=c.at_))):=by
 obtain ⟨ka,kc,rfl,k1,k2,k3⟩:=zr4 hv;unfold maxLen at k2;have K3:=zhd k3;clear hv k3;have hE:=znl;go_enter Tryz.func50,Tryz.ntmps50
 go_wp2
 go_loopw [8] (fun i wr=>∃ k:Nat,k<=l.length/\i=I k/\((l.take k).all fun c=>decide ((c.calls.length:Int)<=c.at_))=true/\Ext w wr) (fun i _=>l.length - (intOf i).toNat)
 case atStart=>exact ⟨0,by omega,rfl,rfl,Ext.refl _⟩
 case round =>
  obtain ⟨k,hk,rfl,hal,he⟩:=hrel;have HAL:=zhd hal;clear hal;by_cases hlt:k < l.length
  ·obtain ⟨x,hx⟩:∃ x,l[k]?=some x:=⟨l[k],List.getElem?_eq_getElem hlt⟩;obtain ⟨b,off,x1,x2,x3,rfl,c0,c1,c2,c3,c4,c5,g1⟩:=K3.o k x hx;obtain ⟨cla,clc,rfl⟩:=zaf (zov.1 g1).1;have HX:=zhd hx;clear hx g1;obtain ⟨xl,xt,xs,xg,xb,xo⟩:=x;simp only [] at c0 c1 c2 c3 c4 c5;replace c0:=he.cell c0;replace c1:=he.cell c1;replace c2:=he.cell c2;replace c3:=he.cell c3;replace c4:=he.cell c4;replace c5:=he.cell c5;go_wp2_with fail
   clear c0 c1 c2 c3 c4 c5;refine Calls.exts (zn7 _ _ _ xl.length cla clc rfl xt xg xs wr) (fun w2 e2=>?_);by_cases hc:xt < (xl.length:Int)
   ·have hbt:decide (xt < (xl.length:Int))=true:=decide_eq_true hc;have HC:=zhd hc;clear hc;go_wp2
    go_ret
    refine ⟨_,rfl,he.trans e2,?_⟩
    have hal2:(l.all fun c=>decide ((c.calls.length:Int)<=c.at_))=false:=by
     rw [List.all_eq_false];exact ⟨_,List.mem_of_getElem? HX.o,by simpa using HC.o⟩
    rw [hal2];simp
   ·have hbt:decide (xt < (xl.length:Int))=false:=decide_eq_false hc;have HC:=zhd hc;clear hc;go_wp2
    go_roundw
    case rel =>
     refine ⟨k+1,by omega,by go_num,?_,he.trans e2⟩;rw [List.take_add_one,HX.o];simp only [Option.toList_some,List.all_append,HAL.o,List.all_cons,List.all_nil,Bool.and_true,Bool.true_and];have q:=HC.o;simpa using q
    case measure=>simp [intOf]; omega
  ·have hkl:k=l.length:=by omega
   subst hkl;go_wp2
   go_ret
   refine ⟨_,rfl,he,?_⟩;have q:=HAL.o;rw [List.take_length] at q;rw [q];rfl

theorem znc (v:Value) (l:List Cn) (w:World) (hv:zaj 6 zcG w v l) :
  Calls Tryz.prog 26 #[v,.func (.func 27) #[] #[]] w fun e w'=>e=.returned (.bool (!(l.all fun c=>decide ((c.calls.length:Int)<=c.at_))))/\Ext w w':=by
 obtain ⟨G,HG⟩:∃ G:Bool,Hid ((l.all fun c=>decide ((c.calls.length:Int)<=c.at_))=G):=⟨_,rfl⟩;simp only [show (l.all fun c=>decide ((c.calls.length:Int)<=c.at_))=G from HG.o];go_enter Tryz.func26,Tryz.ntmps26
 go_wp2_with fail
 refine (zkk v l w hv).mono ?_;rintro e w2 ⟨r,rfl,e2,hr⟩
 rw [HG.o] at hr;go_wp2
 go_ret
 exact ⟨by rw [<- hr]; rfl,e2⟩

theorem zjd:zfN:=fun m c u a p box plan cl w A hx hl=>by
 refine zcP ?_
 unfold zdE
 have HCL:=zhd hx.clients.o
 obtain ⟨ca,cc,ua,uc,aa,ac,pa,pc,xa,xc,la,lc,ka,kc,rfl,rfl,rfl,rfl,rfl,rfl,rfl⟩:=hx.slices
 clear hx hl
 obtain ⟨⟨sc,su,sa,sp⟩,⟨gen,bl,busy,⟨nc,nt,⟨nk,na,no,nn⟩⟩,pl,⟨se,sn⟩⟩,up,pause,falls,cls⟩:=m
 obtain ⟨G,HG⟩:∃ G:Bool,Hid ((cls.all fun c=>decide ((c.calls.length:Int)<=c.at_))=G):=⟨_,rfl⟩
 simp only [show (cls.all fun c=>decide ((c.calls.length:Int)<=c.at_))=G from HG.o]
 have EW:=zhd (Ext.refl w)
 go_enter Tryz.func14,Tryz.ntmps14
 go_wp2_with (with_reducible refine zT ?_)
 refine zam rfl 43 (.tmp 0) rfl #[.slice ca sc.length cc,.slice ua su.length uc,.slice aa sa.length ac,.slice pa sp.length pc,I gen,.slice xa bl.length xc,.bool busy,I nc,I nt,I nk,I na,I no,I nn,.slice la pl.length lc,I se,I sn,.bool up,I pause,I falls,.slice ka cls.length kc] rfl (fun b0 w1_ M1=>?_)
 have zab:=zmb M1
 replace EW:=zet EW M1
 have c19:=zae (i:=19) zab.o rfl
 go_wp2_with fail
 refine Calls.exts (znc _ cls _ (HCL.o.ext zus EW.o)) (fun w2 e2=>?_)
 rw [HG.o]
 go_wp2
 go_ret
 cases G <;> exact ⟨rfl,EW.o.trans e2⟩

open Go.RowKit Go.Mk

theorem zsN:zi0:=zs5 zvs
theorem zl2:zfL:=ztF zvi zsN
theorem ztH:zlz:=zrP zsN
theorem zhb:zdS:=zqO ztH zjd

open Go.RowKit Go.Mk

theorem zj4 (x0 x1 x2 x3:Value) (w:World):(Instr.field 30 (.agg #[x0,x1,x2,x3]) 0).run Tryz.prog w=.ok x0 w:=by kernel_rfl

theorem zsC:zpu:=fun m c u a p box plan cl w A hx hl=>by
 unfold zaw
 have HS:=zhd hl.small.1
 have HST:=zhd (zcQ.2 ⟨hx.cells.o,hx.undo.o,hx.answers.o,hx.past.o⟩)
 have HQ:=zhd (And.intro ((zbS m.store.cells m.store.undo).trans hl.cells) hl.most)
 obtain ⟨ca,cc,ua,uc,aa,ac,pa,pc,xa,xc,la,lc,ka,kc,rfl,rfl,rfl,rfl,rfl,rfl,rfl⟩:=hx.slices
 clear hx hl
 obtain ⟨⟨sc,su,sa,sp⟩,⟨gen,bl,busy,⟨nc,nt,⟨nk,na,no,nn⟩⟩,pl,⟨se,sn⟩⟩,up,pause,falls,cls⟩:=m
 have EW:=zhd (Ext.refl w)
 go_enter Tryz.func9,Tryz.ntmps9
 go_wp2_with (with_reducible refine zT ?_)
 refine zam rfl 43 (.tmp 0) rfl #[.slice ca sc.length cc,.slice ua su.length uc,.slice aa sa.length ac,.slice pa sp.length pc,I gen,.slice xa bl.length xc,.bool busy,I nc,I nt,I nk,I na,I no,I nn,.slice la pl.length lc,I se,I sn,.bool up,I pause,I falls,.slice ka cls.length kc] rfl (fun b0 w1_ M1=>?_)
 have zab:=zmb M1
 replace EW:=zet EW M1
 go_wp2_with (with_reducible refine zT ?_)
 refine zcq rfl 30 (.tmp 3) rfl b0 0 rfl zab [.slice ca sc.length cc,.slice ua su.length uc,.slice aa sa.length ac,.slice pa sp.length pc] rfl ze6 zh4 (fun v4 H_v4=>?_)
 go_wp2_with fail
 rw [H_v4.o]
 clear H_v4
 refine (ztb (zm4 _ _ _ _ ⟨sc,su,sa,sp⟩ w1_ (zf7 _ _ _ _ EW.o HST.o) HS.o)).to fun r w2 e2 hr=>?_
 obtain ⟨c5,u5,a5,p5,rfl,hq⟩:=hr
 have hi:zc2 w2 c5 (zav sc su):=(zcQ.1 hq).1
 have hf:=zj4 c5 u5 a5 p5 w2
 clear hq
 have e3:=EW.o.trans e2
 clear EW zab
 go_wp2_with fail
 clear hf
 refine (zpk _ _ _ hi HQ.o).mono ?_
 rintro e w3 ⟨r,rfl,e4,hr⟩
 go_wp2
 go_ret
 exact ⟨_,rfl,e3.trans e4,hr⟩

end Go.Proofs.YtdmipnnfoolelagGreatDoor

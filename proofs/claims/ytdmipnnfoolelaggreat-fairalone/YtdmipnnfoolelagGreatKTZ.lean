/- Texts of the proof, merged: N16 N17 J1 N20 U1. -/
import Derived.Test.YtdmipnnfoolelagGreatKTA
import Derived.Test.YtdmipnnfoolelagGreatKTW
import Derived.Test.YtdmipnnfoolelagGreatKTF
import Derived.Test.YtdmipnnfoolelagGreatKTY
import Derived.Test.YtdmipnnfoolelagGreatKTE
import Derived.Test.YtdmipnnfoolelagGreatKTG
set_option maxHeartbeats 4000000
set_option maxRecDepth 100000

namespace Go.Proofs.YtdmipnnfoolelagGreat
open Go.RowKit Go.Mk

def zeC (cvs:List Value):List (List Value):=cvs.map fun cv=>[cv,I 0,.bool false,I 0,.slice none 0 0,.slice none 0 0]
theorem zjG {g n cap b:Nat} (h:g < b):(Value.slice (some ⟨g,0,none⟩) n cap).ownBlock≠some b:=fun e=>by
 have q:g=b:=by simpa [Value.ownBlock] using e
 omega
theorem zfB {w w':World} {row:Option Nat} (hg:w.grownBy w' row) {b:Nat} {o:Obj} (h:w.heap[b]?=some o) (hne:row≠some b):w'.heap[b]?=some o:=by
 rw [hg.block b (Array.getElem?_eq_some_iff.1 h).1 (fun e=>hne e.symm)]
 exact h
theorem zmV (cvs:List Value) (k:Nat) (cv:Value) (h:cvs[k]?=some cv):(zeC (cvs.take (k+1))).flatten=(zeC (cvs.take k)).flatten++[cv,I 0,.bool false,I 0,.slice none 0 0,.slice none 0 0]:=by
 rw [List.take_add_one,h]
 simp [zeC]

def ziB:List Value:=[.slice none 0 0,.slice none 0 0,.slice none 0 0,.slice none 0 0,I 0,.slice none 0 0,.bool false,I 0,I 0,I 0,I 0,I 0,I 0,.slice none 0 0,I 0,I 0,.bool false,I 0,I 0,.slice none 0 0]
def zoD (l:List (List Cl)) (r:Value) (w:World):Prop:=∃ (cs:List Value) (e:Int),r=.tuple #[.agg cs.toArray,I e]/\((e=0/\za9 l/\zdc w cs (za4 l))∨(cs=ziB/\e≠0/\¬ za9 l))/\e=zfn l

theorem zpf {w:World} {l:List (List Cl)} {cvs:List Value} (hl:cvs.length=l.length) (h:∀ (k:Nat) (x:List Cl) (cv:Value),l[k]?=some x->cvs[k]?=some cv->zat 4 zdy w cv x):zdr 6 zcA w (zeC cvs) (l.map zbS):=by
 refine ⟨by simp [zeC,hl],fun i c x hc hx=>?_⟩
 unfold zeC at hc
 rw [List.getElem?_map] at hc hx
 cases h1:cvs[i]? with
 | none=>rw [h1] at hc; cases hc
 | some cv =>
  cases h2:l[i]? with
  | none=>rw [h2] at hx; cases hx
  | some y =>
   rw [h1] at hc
   rw [h2] at hx
   simp at hc hx
   subst hc hx
   exact ⟨rfl,(zlk (c:=zbS y)).2 ⟨h i y cv h2 h1,zat.nil w,zat.nil w⟩⟩
theorem zlS {l:List (List Cl)} (h:3 < l.length):¬ za9 l:=fun hr=>by have:=hr.1; omega
theorem zl1 {l:List (List Cl)} {k:Nat} {x:List Cl} (hx:l[k]?=some x) (h:8 < x.length):¬ za9 l:=fun hr=>by have:=(hr.2 x (List.mem_of_getElem? hx)).1; omega
theorem zlN {l:List (List Cl)} {k q:Nat} {x:List Cl} {y:Cl} (hx:l[k]?=some x) (hy:x[q]?=some y) (h:wrongCl y≠0):¬ za9 l:=fun hr=>h ((hr.2 x (List.mem_of_getElem? hx)).2 y (List.mem_of_getElem? hy))
def okL (l:List (List Cl)) (k:Nat):Prop:=∀ (j:Nat) (x:List Cl),j < k->l[j]?=some x->x.length<=8/\∀ y ∈ x,wrongCl y=0

theorem zjH {w:World} {v:Value} {l:List (List Cl)} {css:List (List Value)} (he:zdr 1 zgi w css l) (hr:Row w 1 v l.length css.flatten):∃ ao cap,v=.slice ao l.length cap/\l.length<=cap/\cap<=maxLen/\css.flatten.length=l.length /\
  ∀ k x,l[k]?=some x->∃ b off cv,ao=some ⟨b,off,none⟩/\css.flatten[k]?=some cv/\w.cell? ⟨b,off+k,none⟩=some cv/\zat 4 zdy w cv x:=by
 obtain ⟨hl,ao,cap,e,h3,h4,h0,h5⟩:=hr
 refine ⟨ao,cap,e,h3,h4,by simpa using hl,fun k x hx=>?_⟩
 have hk:k < css.length:=by rw [he.1]; exact (List.getElem?_eq_some_iff.1 hx).1
 have hc:css[k]?=some css[k]:=List.getElem?_eq_getElem hk
 obtain ⟨h6,cv,h7,h8⟩:=he.2 k _ x hc hx
 have h9:=zdo (by decide) he.sizes hc (j:=0) (u:=cv) (by rw [h7]; rfl)
 rw [Nat.mul_one,Nat.add_zero] at h9
 obtain ⟨b,off,e1,hcell⟩:=h5 k cv h9
 exact ⟨b,off,cv,e1,h9,hcell,h8⟩

theorem zhu (v:Value) (l:List (List Cl)) (w:World) (A:Nat->Prop) (hv:Rd A (fun w=>zat 1 zgi w v l) w) :
  zaJ Tryz.prog 15 #[v] w A (zoD l):=by
 unfold zaJ;obtain ⟨css,hcss⟩:=zdu (by decide) hv;obtain ⟨va,vcap,rfl,v1,v2,hcl,v3⟩:=zjH hcss.o.1 hcss.o.2;unfold maxLen at v2;have HE:=zhd hcss.left;have V3:=zhd v3;have HCL:=zhd hcl;generalize hcvs:css.flatten=cvs at *;have HCV:=zhd hcvs;clear v3 hcl hv hcss hcvs;have EW:=zhd (Ext.refl w);by_cases h3:3 < l.length
 case pos =>
  have h3i:(3:Int) < (l.length:Int):=by omega
  have HN:=zhd (zlS h3);have HNE:=zhd (zkp h3);clear h3;go_enter Tryz.func15,Tryz.ntmps15
  go_wp2_with (with_reducible refine zT ?_)
  refine zaf rfl 45 zM (by kernel_rfl) (fun b0 w1_ M1=>?_);have zaa:=zmb M1;have zbl:Hid (w.heap.size<=b0):=by unfold Hid; have q:=M1.o.at_; omega
  go_wp2_with (with_reducible refine zT ?_)
  refine za7 rfl 45 #[] rfl zM (by kernel_rfl) (fun v13 H_v13=>?_);go_wp2_with (with_reducible refine zT ?_)
  refine zab rfl 45 (.tmp 2) (.tmp 13) rfl b0 rfl _ (zcv H_v13) zaa rfl zaP rfl (fun w2_ M2=>?_);replace zaa:=zwb M2;go_wp2
  have z0:=zap (P:=Tryz.prog) 45 zaa.o zaY (by kernel_rfl);refine bodyPost_ret (by simp [results,Tryz.results15,asAddr,z0]; rfl) rfl ?_;replace EW:=zwe M2 (zet EW M1) zbl;exact ⟨_,rfl,EW.o,Rd.all fun w=>⟨_,_,rfl,.inr ⟨rfl,by decide,HN.o⟩,HNE.o.symm⟩⟩
 have h3i:¬ ((3:Int) < (l.length:Int)):=by omega
 have H3:=zhd h3;clear h3;obtain ⟨i0,hi,hz0,hz1,hz2⟩:=info_parts Tryz.infoInt;have HI:=zhd hi;clear hi;obtain ⟨j0,hj,hy0,hy1,hy2⟩:=info_parts Tryz.infoClient;have HJ:=zhd hj;clear hj;go_enter Tryz.func15,Tryz.ntmps15
 go_wp2_with (with_reducible refine zT ?_)
 refine zaf rfl 45 zM (by kernel_rfl) (fun b0 w1_ M1=>?_);have zaa:=zmb M1;have zbl:Hid (w.heap.size<=b0):=by unfold Hid; have q:=M1.o.at_; omega
 go_wp2_with (first | (at_make; refine zbv ?_) | (with_reducible refine zT ?_))
 unfold Hid;refine wpList_make_full _ rfl _ _ 27 rfl w1_.heap.size 3 i0 (.int .i64 0) 1 zoh HI.o hz0 hz1 .i64 .i64 _ _ 11 rfl rfl rfl rfl (by rw [hz2]; decide) (by decide) (Nat.le_refl _) ?_;intro w2 ho hg;have hmc:(madeCells (Value.int .i64 0).cells (11 * 1)).toList=(List.replicate 11 (0:Int)).map I:=by kernel_rfl
 rw [hmc] at ho;clear hmc;have e2:Ext w1_ w2:=(Ext.refl _).grown hg (fun k hk=>by cases hk);clear hg;have zr5:Hid (b0 < w1_.heap.size):=(zlt zaa);replace EW:=zet EW M1;have zsr:Hid (w.heap.size<=w1_.heap.size):=EW.o.size;generalize w1_.heap.size=bc at *;have OC:=zhd ho;clear ho;replace zaa:=zbx zaa e2;replace EW:=zhd (EW.o.trans e2);clear e2;go_wp2_with (with_reducible refine zT ?_)
 refine za7 rfl 32 #[(0,.tmp 14)] rfl #[.slice (some ⟨bc,0,none⟩) 11 11,.slice none 0 0,.slice none 0 0,.slice none 0 0] (by kernel_rfl) (fun v15 H_v15=>?_);have hv15:=H_v15.o;subst hv15;clear H_v15;go_wp2_with (with_reducible refine zT ?_)
 refine za7 rfl 45 #[(0,.tmp 15),(2,.const (.bool true))] rfl #[.slice (some ⟨bc,0,none⟩) 11 11,.slice none 0 0,.slice none 0 0,.slice none 0 0,I 0,.slice none 0 0,.bool false,I 0,I 0,I 0,I 0,I 0,I 0,.slice none 0 0,I 0,I 0,.bool true,I 0,I 0,.slice none 0 0] (by kernel_rfl) (fun v16 H_v16=>?_);go_wp2_with (with_reducible refine zT ?_)
 refine zaf rfl 45 zM (by kernel_rfl) (fun b1 w2_ M2=>?_);have zav:=zld zaa M2;have zac:=zmb M2;have zr4:Hid (bc < b1):=by unfold Hid; have q:=(OC.o.lt bc rfl).2; have q2:=M2.o.at_; omega
 have zaZ:Hid (w.heap.size<=b1):=by unfold Hid; have q:=zbl.o; have q2:=zav.o; omega
 have SZ:Hid (b1 < w2_.heap.size):=(zlt zac);go_wp2_with (with_reducible refine zT ?_)
 refine zab rfl 45 (.tmp 4) (.tmp 16) rfl b1 rfl _ (zcv H_v16) zac rfl zaP rfl (fun w3_ M3=>?_);replace zac:=zwb M3;replace SZ:Hid (b1 < w3_.heap.size):=(zlt zac);go_wp2_with fail
 replace zaa:=zwl M3 (zmo M2 zaa) zav;replace EW:=zwe M3 (zet EW M2) zaZ;replace OC:=zhd (M3.o.owns (zhd (zak OC.o M2.o.ext)).o (zjG zr4.o));go_loopw [19] (fun i wr=>∃ (k:Nat) (clv:Value),k<=l.length/\i=I k/\okL l k/\wr.heap[b0]?=some (.cells zM 45 (0,0))/\wr.heap[b1]?=some (.cells #[.slice (some ⟨bc,0,none⟩) 11 11,.slice none 0 0,.slice none 0 0,.slice none 0 0,I 0,.slice none 0 0,.bool false,I 0,I 0,I 0,I 0,I 0,I 0,.slice none 0 0,I 0,I 0,.bool true,I 0,I 0,clv] 45 (0,0))/\wr.ownsRow bc 3 1 (.slice (some ⟨bc,0,none⟩) 11 11) 11 ((List.replicate 11 (0:Int)).map I)/\wr.ownsRow (b1+1) 56 6 clv k (zeC (cvs.take k)).flatten/\Ext w wr) (fun i _=>l.length - (intOf i).toNat)
 case atStart=>exact ⟨0,_,Nat.zero_le _,rfl,fun j x hj=>by omega,zaa.o,zac.o,OC.o,World.ownsRow_nil _ _ _ _,EW.o⟩
 case round =>
  obtain ⟨k,clv,hk,rfl,hok,hb0,hb1,hoc,hocl,hex⟩:=hrel;clear zaa zac OC EW SZ;have zaa:=zhd hb0;have zac:=zhd hb1;have OC:=zhd hoc;have OCL:=zhd hocl;have EW:=zhd hex;have HOK:=zhd hok;obtain ⟨la,lcap,rfl⟩:=zc4 hocl;clear hb0 hb1 hoc hocl hex hok;by_cases hlt:k < l.length
  ·obtain ⟨x,hx⟩:∃ x,l[k]?=some x:=⟨l[k],List.getElem?_eq_getElem hlt⟩;obtain ⟨vb,vo,cv,rfl,hcv,hcell,hrow⟩:=V3.o k x hx;have hcw:=EW.o.cell hcell;obtain ⟨xa,xcap,rfl⟩:=zag hrow;have HXF:=zhd (hrow.ext zd9 EW.o);have HX:=zhd hx;have HCVK:=zhd hcv;clear hx hcv hcell hrow;by_cases h8:8 < x.length
   ·have h8i:(8:Int) < (x.length:Int):=by omega
    have HN:=zhd (zl1 HX.o h8);have HNE:=zhd (zkl H3.o HOK.o HX.o h8);clear h8;go_wp2_with (with_reducible refine zT ?_)
    clear hcw;refine za7 rfl 45 #[] rfl zM (by kernel_rfl) (fun v26 H_v26=>?_);go_wp2_with (with_reducible refine zT ?_)
    refine zab rfl 45 (.tmp 2) (.tmp 26) rfl b0 rfl _ (zcv H_v26) zaa rfl zaP rfl (fun w41_ M41=>?_);replace zaa:=zwb M41;go_wp2
    have z0:=zap (P:=Tryz.prog) 45 zaa.o zaY (by kernel_rfl);refine bodyPost_ret (by simp [results,Tryz.results15,asAddr,z0]; rfl) rfl ?_;replace EW:=zwe M41 EW zbl;exact ⟨_,rfl,EW.o,Rd.all fun w=>⟨_,_,rfl,.inr ⟨rfl,by decide,HN.o⟩,HNE.o.symm⟩⟩
   ·have h8i:¬ ((8:Int) < (x.length:Int)):=by omega
    have H8:=zhd h8;clear h8;go_wp2_with fail
    clear hcw h8i;go_loopw [29] (fun i wi=>∃ q:Nat,q<=x.length/\i=I q/\(∀ (j:Nat) (y:Cl),j < q->x[j]?=some y->wrongCl y=0)/\Ext wr wi) (fun i _=>x.length - (intOf i).toNat)
    case atStart=>exact ⟨0,Nat.zero_le _,rfl,fun j y hj=>by omega,Ext.refl _⟩
    case round =>
     obtain ⟨q,hq,rfl,hall,hei⟩:=hrel;have HALL:=zhd hall;have HEI:=zhd hei;clear hall hei;by_cases hql:q < x.length
     ·obtain ⟨y,hy⟩:∃ y,x[q]?=some y:=⟨x[q],List.getElem?_eq_getElem hql⟩;obtain ⟨_,_,e1,_,hxm,_,hf⟩:=HXF.o.form (by decide);simp only [Value.slice.injEq,true_and] at e1;obtain ⟨rfl,rfl⟩:=e1;obtain ⟨yk,ya,yo,yn⟩:=y;obtain ⟨yb,yf,c4,rfl,-,hc4,hcell⟩:=hf q _ hy;have hc4:c4=[I yk,I ya,I yo,I yn]:=hc4;subst hc4;have HY:=zhd hy;have y0:=HEI.o.cell (hcell 0 _ rfl);have y1:=HEI.o.cell (hcell 1 _ rfl);have y2:=HEI.o.cell (hcell 2 _ rfl);have y3:=HEI.o.cell (hcell 3 _ rfl);simp only [Nat.add_zero,<- Nat.add_assoc] at y0 y1 y2 y3;clear hf hcell hy;unfold maxLen at hxm;go_wp2_with fail
      clear y0 y1 y2 y3;refine Calls.exts (zfE yk ya yo yn _) (fun wj ej=>?_);replace ej:=((Ext.refl _).alloc _).trans ej;by_cases hw:wrongCl ⟨yk,ya,yo,yn⟩=0
      ·rw [hw];have HW:=zhd hw;clear hw;go_wp2
       go_roundw
       case rel =>
        refine ⟨q+1,by omega,by go_num,fun j y hj hy=>?_,HEI.o.trans ej⟩;by_cases hjq:j=q
        ·subst hjq;have hy2:x[j]?=some y:=hy;rw [HY.o] at hy2;cases hy2
         exact HW.o
        ·exact HALL.o j y (by omega) hy
       case measure=>simp [intOf]; omega
      ·have hb:(wrongCl ⟨yk,ya,yo,yn⟩ != 0)=true:=by simpa using hw
       have HN:=zhd (zlN HX.o HY.o hw);have HNE:=zhd (zkr H3.o HOK.o HX.o H8.o HALL.o HY.o hw);have HW:=zhd hw;generalize wrongCl ⟨yk,ya,yo,yn⟩=WC at *;clear hw;have eji:=HEI.o.trans ej;replace zaa:=zbx zaa eji;replace zac:=zbx zac eji;replace EW:=zhd (EW.o.trans eji);clear eji ej;go_wp2_with (with_reducible refine zT ?_)
       refine za7 rfl 45 #[] rfl zM (by kernel_rfl) (fun v37 H_v37=>?_);go_wp2_with (with_reducible refine zT ?_)
       refine zab rfl 45 (.tmp 2) (.tmp 37) rfl b0 rfl _ (zcv H_v37) zaa rfl zaP rfl (fun w41_ M41=>?_);replace zaa:=zwb M41;go_wp2
       have z0:=zap (P:=Tryz.prog) 45 zaa.o zaY (by kernel_rfl);refine bodyPost_ret (by simp [results,Tryz.results15,asAddr,z0]; rfl) rfl ?_;replace EW:=zwe M41 EW zbl;exact ⟨_,rfl,EW.o,Rd.all fun w=>⟨_,_,rfl,.inr ⟨rfl,HW.o,HN.o⟩,HNE.o.symm⟩⟩
     ·have hqx:q=x.length:=by omega
      subst hqx;clear hql hq;have hei:=HEI.o;replace zaa:=zbx zaa hei;replace zac:=zbx zac hei;replace OC:=zhd (zak OC.o hei);replace OCL:=zhd (zak OCL.o hei);replace EW:=zhd (EW.o.trans hei);clear hei;have c19:=zad (i:=19) zac.o rfl;go_wp2_with (with_reducible refine zT ?_)
      clear c19;refine za7 rfl 56 #[(0,.tmp 42)] rfl #[.slice xa x.length xcap,I 0,.bool false,I 0,.slice none 0 0,.slice none 0 0] (by kernel_rfl) (fun v43 H_v43=>?_);have hv43:=H_v43.o;subst hv43;clear H_v43;go_wp2_with (with_reducible refine zT ?_)
      unfold Hid;refine zcq rfl 56 1 #[.slice xa x.length xcap,I 0,.bool false,I 0,.slice none 0 0,.slice none 0 0] (by kernel_rfl) (fun bl w41_ M41=>?_);go_wp2_with (first | (at_builtin; refine zbv ?_) | (with_reducible refine zT ?_))
      unfold Hid;have hlit:=Row.of_owns (zdb (base:=0) (size:=6) (n:=1) M41.o (Nat.zero_le _) rfl (by decide));replace zac:=zmo M41 zac;have hszl:b1+1<=w41_.heap.size:=(zlt zac);replace OCL:=zhd (zak OCL.o M41.o.ext);refine zay _ rfl (.tmp 41) (.tmp 44) 43 rfl (b1+1) 56 j0 (.agg zC) 6 96 zqb HJ.o hy0 hy1 hy2 rfl (by decide) (.slice la k lcap) k _ rfl OCL.o _ rfl 1 _ hlit (zbB rfl) (by have:=H3.o; omega) (by decide) hszl ?_;intro v45 wq ho hg;clear hlit hszl;have hlo:∀ b,b<=b1->(Value.slice la k lcap).ownBlock≠some b:=fun b hb e=>by have:=(OCL.o.lt b e).1; omega
      replace zaa:=zmo M41 zaa;have kb0:=zfB hg zaa.o (hlo b0 (Nat.le_of_lt zav.o));have kb1:=zfB hg zac.o (hlo b1 (Nat.le_refl _));replace OC:=zhd (zak OC.o M41.o.ext);have koc:=OC.o.kept hg (zdR OC.o OCL.o (by decide));replace EW:=zet EW M41;have kew:Ext w wq:=EW.o.grown hg (fun b e=>by have q:=(OCL.o.lt b e).1; have q2:=zaZ.o; omega);replace zaa:=zhd kb0;replace zac:=zhd kb1;replace OC:=zhd koc;replace EW:=zhd kew;clear kb0 kb1 koc kew hlo hg;have hcsn:=zmV cvs k _ HCVK.o;have OCN:Hid (wq.ownsRow (b1+1) 56 6 v45 (k+1) (zeC (cvs.take (k+1))).flatten):=by unfold Hid; rw [hcsn]; exact ho
      clear ho OCL hcsn;obtain ⟨na,ncap,rfl⟩:=zc4 OCN.o;go_wp2_with (with_reducible refine zT ?_)
      refine zal rfl 43 (.tmp 46) (.tmp 45) rfl b1 19 rfl [.slice na (k+1) ncap] (rfl) zac rfl zqy rfl [.slice (some ⟨bc,0,none⟩) 11 11,.slice none 0 0,.slice none 0 0,.slice none 0 0,I 0,.slice none 0 0,.bool false,I 0,I 0,I 0,I 0,I 0,I 0,.slice none 0 0,I 0,I 0,.bool true,I 0,I 0,.slice na (k+1) ncap] rfl (fun w42_ M42=>?_);replace zac:=zwb M42;replace OCN:=zhd (M42.o.owns OCN.o (fun e=>by have q:=(OCN.o.lt _ e).1; omega));go_wp2
      replace zaa:=zwl M42 zaa zav;replace OC:=zhd (M42.o.owns OC.o (zjG zr4.o));replace EW:=zwe M42 EW zaZ;go_roundw
      case rel =>
       refine ⟨k+1,_,by omega,by go_num,fun j x' hj hx'=>?_,zaa.o,zac.o,OC.o,OCN.o,EW.o⟩;by_cases hjk:j=k
       ·subst hjk;have hx2:l[j]?=some x':=hx';rw [HX.o] at hx2;cases hx2
        refine ⟨by have:=H8.o; omega,fun y hy=>?_⟩;obtain ⟨q,hq⟩:=List.mem_iff_getElem?.1 hy;exact HALL.o q y (List.getElem?_eq_some_iff.1 hq).1 hq
       ·exact HOK.o j x' (by omega) hx'
      case measure=>simp [intOf]; omega
  ·have hkl:k=l.length:=by omega
   subst hkl
   have hrl:za9 l:=⟨by have:=H3.o; omega,fun c hc=>by
    obtain ⟨j,hj⟩:=List.mem_iff_getElem?.1 hc;exact HOK.o j c (List.getElem?_eq_some_iff.1 hj).1 hj⟩
   have HRL:=zhd hrl;clear hrl;go_wp2_with (with_reducible refine zT ?_)
   refine zah rfl 45 (.tmp 4) rfl b1 rfl zac zaY zaP (fun v48 H_v48=>?_);go_wp2_with (with_reducible refine zT ?_)
   refine zab rfl 45 (.tmp 2) (.tmp 48) rfl b0 rfl _ (zcv H_v48) zaa rfl zaP rfl (fun w41_ M41=>?_);replace zaa:=zwb M41;replace OCL:=zhd (M41.o.owns OCL.o (fun e=>by have q:=(OCL.o.lt _ e).1; have q2:=zav.o; omega));go_wp2
   have z0:=zap (P:=Tryz.prog) 45 zaa.o zaY (by kernel_rfl);refine bodyPost_ret (by simp [results,Tryz.results15,asAddr,z0]; rfl) rfl ?_;have hocl:=OCL.o;rw [List.take_of_length_le (by rw [HCL.o]; exact Nat.le_refl _)] at hocl;replace EW:=zwe M41 EW zbl
   have hev:Rd A (fun w=>zdr 6 zcA w (zeC cvs) (l.map zbS)) w41_:=(HE.o.ext EW.o).imp fun w hw=>zpf HCL.o (fun k x cv hx hcv=>by
    have hk:k < css.length:=by rw [hw.1]; exact (List.getElem?_eq_some_iff.1 hx).1
    have hc:css[k]?=some css[k]:=List.getElem?_eq_getElem hk;obtain ⟨_,cv',h7,h8⟩:=hw.2 k _ x hc hx;have h9:=zdo (by decide) hw.sizes hc (j:=0) (u:=cv') (by rw [h7]; rfl);rw [Nat.mul_one,Nat.add_zero,HCV.o,hcv] at h9;cases h9
    exact h8)
   have hcl:=zfj (A:=fun k=>A k∨w.heap.size<=k) (fun k h _=>.inr (by have q:=zaZ.o; omega)) (hev.widen fun k _ h=>.inl h) hocl (by decide);replace OC:=zhd (M41.o.owns OC.o (zeb zr5.o));have hci:=(zdY OC.o).widen (B:=fun k=>A k∨w.heap.size<=k) (fun k _ h=>.inr (by have q:=zsr.o; omega));refine ⟨_,rfl,EW.o,(RdM.mc (m:=za4 l) (A:=fun k=>A k∨w.heap.size<=k) ⟨hci,Rd.all fun w=>zbt w,Rd.all fun w=>zat.nil w,Rd.all fun w=>zat.nil w,Rd.all fun w=>zat.nil w,Rd.all fun w=>zbt w,hcl⟩).imp fun w h=>⟨_,_,rfl,.inl ⟨rfl,HRL.o,h⟩,(zg6 HRL.o).symm⟩⟩

theorem zna {l:List (List Cl)} {r:Value} {A:Nat->Prop} {w:World} (h:Rd A (zoD l r) w):∃ (cs:List Value) (e:Int),r=.tuple #[.agg cs.toArray,I e]/\((e=0/\za9 l/\Rd A (fun w=>zdc w cs (za4 l)) w)∨(cs=ziB/\e≠0/\¬ za9 l)):=by
 obtain ⟨cs,e,e1,h1,-⟩:=h.o
 refine ⟨cs,e,e1,?_⟩
 rcases h1 with ⟨h2,h3,_⟩ | h2
 ·refine .inl ⟨h2,h3,h.imp fun w' hw=>?_⟩
  obtain ⟨cs2,e2,e3,h4,-⟩:=hw
  rw [e1] at e3
  have:cs=cs2/\e=e2:=by simpa using e3
  obtain ⟨rfl,rfl⟩:=this
  rcases h4 with ⟨_,_,h5⟩ | ⟨_,_,h5⟩
  ·exact h5
  ·exact absurd h3 h5
 ·exact .inr h2

theorem zqo {l:List (List Cl)} {r:Value} {A:Nat->Prop} {w:World} (h:Rd A (zoD l r) w):∃ (cs:List Value),r=.tuple #[.agg cs.toArray,I (zfn l)]/\((zfn l=0/\za9 l/\Rd A (fun w=>zdc w cs (za4 l)) w)∨(cs=ziB/\zfn l≠0/\¬ za9 l)):=by
 obtain ⟨_,_,e1,_,he⟩:=h.o
 obtain ⟨cs,e,e2,h2⟩:=zna h
 rw [e1] at e2
 simp at e2
 obtain ⟨rfl,rfl⟩:=e2
 subst he
 exact ⟨_,e1,h2⟩

theorem zlj (v:Value) (l:List (List Cl)) (w:World) (hv:zat 1 zgi w v l) :
  Calls Tryz.prog 5 #[v] w fun e w'=>∃ b,e=.returned (.bool b)/\(b=true↔za9 l)/\Ext w w':=by
 have hrv:Rd (fun k=>k < w.heap.size) (fun w=>zat 1 zgi w v l) w:=Rd.of (zeS zk6 v l) hv;have HV:=zhd hrv;clear hrv hv;go_enter Tryz.func5,Tryz.ntmps5
 go_wp2_with fail
 refine (zhu v l w _ HV.o).to fun r w1 e1 hr=>?_;obtain ⟨cs,e,rfl,hcs⟩:=zna hr;clear hr;have EW:=zhd e1;clear e1;rcases hcs with ⟨rfl,hrl,hcs⟩ | ⟨rfl,hne,hrl⟩
 ·obtain ⟨c',u',a',p',box',plan',cl',rfl,hm⟩:=zcB hcs;obtain ⟨ca',cc',ua',uc',aa',ac',pa',pc',xa',xc',la',lc',ka',kc',rfl,rfl,rfl,rfl,rfl,rfl,rfl⟩:=hm.slices;have HRL:=zhd hrl;clear hcs hm hrl;have Q0:Hid (w.heap.size<=w1.heap.size):=EW.o.size;go_wp2_with (with_reducible refine zT ?_)
  refine zaf rfl 45 zM (by kernel_rfl) (fun b0 w1_ M1=>?_);have zaa:=zmb M1;have zbl:Hid (w.heap.size<=b0):=by unfold Hid; have q:=M1.o.at_; have q2:=Q0.o; omega
  go_wp2_with (with_reducible refine zT ?_)
  refine zab rfl 45 (.tmp 3) (.tmp 8) rfl b0 rfl [.slice ca' (za4 l).store.cells.length cc',.slice ua' (za4 l).store.undo.length uc',.slice aa' (za4 l).store.answers.length ac',.slice pa' (za4 l).store.past.length pc',I (za4 l).server.gen,.slice xa' (za4 l).server.box.length xc',.bool (za4 l).server.busy,I (za4 l).server.now.client,I (za4 l).server.now.token,I (za4 l).server.now.call.kind,I (za4 l).server.now.call.name,I (za4 l).server.now.call.other,I (za4 l).server.now.call.n,.slice la' (za4 l).server.plan.length lc',I (za4 l).server.says.err,I (za4 l).server.says.n,.bool (za4 l).up,I (za4 l).pause,I (za4 l).falls,.slice ka' (za4 l).clients.length kc'] (rfl) zaa rfl zaP rfl (fun w2_ M2=>?_);replace zaa:=zwb M2;go_wp2
  go_ret
  replace EW:=zwe M2 (zet EW M1) zbl;exact ⟨_,rfl,⟨fun _=>HRL.o,fun _=>rfl⟩,EW.o⟩
 ·have hb:(e == 0)=false:=by simpa using hne
  have HRL:=zhd hrl;clear hne hrl;unfold ziB;have Q0:Hid (w.heap.size<=w1.heap.size):=EW.o.size;go_wp2_with (with_reducible refine zT ?_)
  refine zaf rfl 45 zM (by kernel_rfl) (fun b0 w1_ M1=>?_);have zaa:=zmb M1;have zbl:Hid (w.heap.size<=b0):=by unfold Hid; have q:=M1.o.at_; have q2:=Q0.o; omega
  go_wp2_with (with_reducible refine zT ?_)
  refine zab rfl 45 (.tmp 3) (.tmp 8) rfl b0 rfl [.slice none 0 0,.slice none 0 0,.slice none 0 0,.slice none 0 0,I 0,.slice none 0 0,.bool false,I 0,I 0,I 0,I 0,I 0,I 0,.slice none 0 0,I 0,I 0,.bool false,I 0,I 0,.slice none 0 0] (rfl) zaa rfl zaP rfl (fun w2_ M2=>?_);replace zaa:=zwb M2;go_wp2
  go_ret
  replace EW:=zwe M2 (zet EW M1) zbl;exact ⟨_,rfl,⟨(fun h=>by cases h),fun h=>absurd h HRL.o⟩,EW.o⟩

open Go.RowKit Go.Mk

theorem Tryz.infoErrno:(Tryz.prog.info? 38).map (fun i=>(i.zero,i.size,i.bytes))=some (some (.int .i64 0),1,8):=by kernel_rfl

def zdd (m:Mc):List (Int×Int)->List Int
 | []=>[]
 | p::l=>(doM m p.1 p.2).2::zdd (doM m p.1 p.2).1 l
theorem playE_snoc (p:Int×Int):∀ (l:List (Int×Int)) (m:Mc),zdd m (l++[p])=zdd m l++[(doM (zcr m l) p.1 p.2).2]
 | [],m=>rfl
 | q::l,m=>by
  show (doM m q.1 q.2).2::zdd (doM m q.1 q.2).1 (l++[p])=_
  rw [playE_snoc p l]
  rfl
theorem playM_snoc (p:Int×Int) (l:List (Int×Int)) (m:Mc):zcr m (l++[p])=(doM (zcr m l) p.1 p.2).1:=by
 unfold zcr
 rw [List.foldl_append]
 rfl
theorem zkC {l:List (Int×Int)} {k:Nat} (h:k < l.length):l.take (k+1)=l.take k++[l.getD k (0,0)]:=by
 rw [List.take_add_one,List.getElem?_eq_getElem h,List.getD_eq_getElem?_getD,List.getElem?_eq_getElem h]
 rfl
theorem zp9 {l:List (List Cl)} (hl:za9 l) (steps:List (Int×Int)) {k:Nat} (hk:k<=400):Fit (zcr (za4 l) (steps.take k)):=by
 obtain ⟨ks,bz,h⟩:=zk8 hl (steps.take k)
 have hs:=zoJ (zpm l) (steps.take k)
 exact zpT hl h (hs.mono (j:=400) (by rw [List.length_take]; omega)) (by omega)

def zpe (l:List (List Cl)) (steps:List (Int×Int)) (r:Value) (w:World):Prop:=∃ (cs:List Value) (es:Value),r=.tuple #[.agg cs.toArray,es]/\zdc w cs (zcr (za4 l) (steps.take 400))/\zbE w es (zdd (za4 l) (steps.take 400))
theorem zq3 {l:List (List Cl)} {steps:List (Int×Int)} {r:Value} {A:Nat->Prop} {w:World} (h:Rd A (zpe l steps r) w):∃ (cs:List Value) (es:Value),r=.tuple #[.agg cs.toArray,es]/\Rd A (fun w=>zdc w cs (zcr (za4 l) (steps.take 400))) w/\Rd A (fun w=>zbE w es (zdd (za4 l) (steps.take 400))) w:=by
 obtain ⟨cs,es,e1,h1,h2⟩:=h.o
 have key:∀ w',zpe l steps r w'->zdc w' cs (zcr (za4 l) (steps.take 400))/\zbE w' es (zdd (za4 l) (steps.take 400)):=fun w' hw=>by
  obtain ⟨cs',es',e1',h3,h4⟩:=hw
  rw [e1] at e1'
  simp only [Value.tuple.injEq,Array.mk.injEq,List.cons.injEq,Value.agg.injEq,and_true] at e1'
  obtain ⟨q1,q2⟩:=e1'
  have q1:cs=cs':=by simpa using q1
  subst q1 q2
  exact ⟨h3,h4⟩
 exact ⟨cs,es,e1,h.imp fun w' hw=>(key w' hw).1,h.imp fun w' hw=>(key w' hw).2⟩

theorem zjV (v sv:Value) (l:List (List Cl)) (steps:List (Int×Int)) (w:World) (A:Nat->Prop) (hl:za9 l) (hv:Rd A (fun w=>zat 1 zgi w v l) w) (hs:zaw w sv steps) :
  zaJ Tryz.prog 6 #[v,sv] w A (zpe l steps):=by
 unfold zaJ;obtain ⟨sa0,scap,rfl,s1,s2,s3⟩:=hs.form;unfold maxLen at s2;have HS3:=zhd s3;have HL:=zhd hl;have HV:=zhd (hv.widen (B:=fun k=>A k/\k < w.heap.size) (fun k hk h=>⟨h,hk⟩));clear hv hs s3 hl;obtain ⟨va,vcap,rfl⟩:=zag HV.o.o;obtain ⟨j0,hj,hy0,hy1,hy2⟩:=info_parts Tryz.infoErrno;have HJ:=zhd hj;clear hj;have EW:=zhd (Ext.refl w);go_enter Tryz.func6,Tryz.ntmps6
 go_wp2_with (with_reducible refine zT ?_)
 refine zaf rfl 45 zM (by kernel_rfl) (fun b0 w1_ M1=>?_);have zaa:=zmb M1;have zbl:Hid (w.heap.size<=b0):=by unfold Hid; have q:=M1.o.at_; omega
 go_wp2_with fail
 refine (zhu _ l w1_ (fun k=>A k/\k < w.heap.size) (HV.o.ext M1.o.ext)).to fun r w2 e2 hr=>?_;obtain ⟨cs,e,rfl,hc⟩:=zna hr;replace EW:=zet EW M1;rcases hc with ⟨rfl,-,hm⟩ | ⟨-,-,hno⟩
 case inr=>exact absurd HL.o hno
 obtain ⟨c,u,a,p,box,plan,cl,rfl,hM⟩:=zcB hm;obtain ⟨ca,cc,ua,uc,aa,ac,pa,pc,xa,xc,la,lc,ka,kc,rfl,rfl,rfl,rfl,rfl,rfl,rfl⟩:=hM.slices;have H:=zhd hM;clear hM hm hr;have e2':=zhd e2;replace zaa:=zbx zaa e2;replace EW:=zhd (EW.o.trans e2);clear e2;go_wp2_with (with_reducible refine zT ?_)
 refine zaf rfl 45 zM (by kernel_rfl) (fun b1 w2_ M2=>?_);have zav:=zld zaa M2;have zac:=zmb M2;have zaZ:Hid (w.heap.size<=b1):=by unfold Hid; have q:=zav.o; have q2:=zbl.o; omega
 obtain ⟨E,HE⟩:∃ E:Nat->Prop,Hid (∀ k,E k↔(((A k/\k < w.heap.size)∨w1_.heap.size<=k)/\k < b1)):=⟨_,fun _=>Iff.rfl⟩;replace H:=zhd ((H.o.widen (B:=E) (fun k hk h=>(HE.o k).2 ⟨h,by have q:=M2.o.at_; omega⟩)).ext M2.o.ext);have zaF:Hid (¬ E b0):=fun h=>by have q:=((HE.o _).1 h).1; have q1:=M1.o.at_; have q2:=M1.o.size; omega
 have zas:Hid (¬ E b1):=fun h=>by have q:=((HE.o _).1 h).2; omega
 go_wp2_with (with_reducible refine zT ?_)
 refine zab rfl 45 (.tmp 6) (.tmp 16) rfl b1 rfl [.slice ca (za4 l).store.cells.length cc,.slice ua (za4 l).store.undo.length uc,.slice aa (za4 l).store.answers.length ac,.slice pa (za4 l).store.past.length pc,I (za4 l).server.gen,.slice xa (za4 l).server.box.length xc,.bool (za4 l).server.busy,I (za4 l).server.now.client,I (za4 l).server.now.token,I (za4 l).server.now.call.kind,I (za4 l).server.now.call.name,I (za4 l).server.now.call.other,I (za4 l).server.now.call.n,.slice la (za4 l).server.plan.length lc,I (za4 l).server.says.err,I (za4 l).server.says.n,.bool (za4 l).up,I (za4 l).pause,I (za4 l).falls,.slice ka (za4 l).clients.length kc] (rfl) zac rfl zaP rfl (fun w3_ M3=>?_);replace zac:=zwb M3;go_wp2_with fail
 replace zaa:=zwl M3 (zmo M2 zaa) zav;replace EW:=zwe M3 (zet EW M2) zaZ;replace H:=zHw M3 H zas;go_loopw [8,20] (fun es i wr=>∃ (k:Nat) (E:Nat->Prop) (mk:Mc) (c u a p box plan cl:Value),k<=steps.length/\k<=400/\i=I k/\mk=zcr (za4 l) (steps.take k)/\RdM E wr mk c u a p box plan cl/\(∀ j,E j->j < wr.heap.size/\(A j∨w.heap.size<=j))/\¬ E b0/\¬ E b1/\(∀ g,es.ownBlock=some g->¬ E g)/\wr.heap[b0]?=some (.cells zM 45 (0,0))/\wr.heap[b1]?=some (.cells (zaL mk c u a p box plan cl).toArray 45 (0,0))/\wr.ownsRow (b1+1) 38 1 es k ((zdd (za4 l) (steps.take k)).map I)/\Ext w wr) (fun _ i _=>steps.length - (intOf i).toNat)
 case atStart=>exact ⟨0,E,za4 l,_,_,_,_,_,_,_,Nat.zero_le _,Nat.zero_le _,rfl,rfl,H.o,fun j hj=>⟨by have q:=(HE.o j).1 hj; have q2:=(zlt zac); omega,by rcases ((HE.o j).1 hj).1 with h | h; exact .inl h.1; exact .inr (by have q:=M1.o.ext.size; omega)⟩,zaF.o,zas.o,fun g hg=>(by cases hg),zaa.o,zac.o,World.ownsRow_nil _ _ _ _,EW.o⟩
 case round =>
  obtain ⟨k,E',mk,c',u',a',p',box',plan',cl',hk,h4,rfl,hmk,hm,hE,n0,n1,hes,hb0,hb1,ho,hex⟩:=hrel;clear zaa zac H EW zaF zas HE e2';obtain ⟨ca,cc,ua,uc,aa,ac,pa,pc,xa,xc,la,lc,ka,kc,rfl,rfl,rfl,rfl,rfl,rfl,rfl⟩:=hm.slices;obtain ⟨ea,ecap,rfl⟩:=zc4 ho;have HM:=zhd hmk;have H:=zhd hm;have HE:=zhd hE;have zaF:=zhd n0;have zas:=zhd n1;have HES:=zhd hes;have zaa:=zhd hb0;have zac:Hid (wr.heap[b1]?=some (.cells #[.slice ca mk.store.cells.length cc,.slice ua mk.store.undo.length uc,.slice aa mk.store.answers.length ac,.slice pa mk.store.past.length pc,I mk.server.gen,.slice xa mk.server.box.length xc,.bool mk.server.busy,I mk.server.now.client,I mk.server.now.token,I mk.server.now.call.kind,I mk.server.now.call.name,I mk.server.now.call.other,I mk.server.now.call.n,.slice la mk.server.plan.length lc,I mk.server.says.err,I mk.server.says.n,.bool mk.up,I mk.pause,I mk.falls,.slice ka mk.clients.length kc] 45 (0,0))):=hb1;have OE:=zhd ho;have EW:=zhd hex;clear hmk hm hE n0 n1 hes hb0 hb1 ho hex;generalize hEr:(E':Nat->Prop)=E at *;clear hEr E';by_cases hlt:k < steps.length
  ·by_cases h400:k=400
   ·subst h400;obtain ⟨sb,so,rfl,c0,c1⟩:=HS3.o 400 hlt;replace c0:=EW.o.cell c0;replace c1:=EW.o.cell c1;generalize steps.getD 400 (0,0)=pp at c0 c1;obtain ⟨kd,sn⟩:=pp;simp only [] at c0 c1;have OE0:=OE;go_wp2_with (with_reducible refine zT ?_)
    clear c0 c1;refine zaf rfl 64 #[I 0,I 0] (by kernel_rfl) (fun b2 w41_ M41=>?_);have zaR:=zld zaa M41;have zaG:=zld zac M41;have zai:=zmb M41;have zaN:Hid (¬ E b2):=fun h=>by have q:=(HE.o _ h).1; have q1:=M41.o.at_; omega
    have zbm:Hid (w.heap.size<=b2):=by unfold Hid; have q:=zaG.o; have q2:=zaZ.o; omega
    have OEN:Hid ((Value.slice ea 400 ecap).ownBlock≠some b2):=fun e=>by have q:=(OE0.o.lt _ e).2; have q1:=M41.o.at_; omega
    go_wp2_with (with_reducible refine zT ?_)
    refine zab rfl 64 (.tmp 10) (.tmp 24) rfl b2 rfl [I kd,I sn] (rfl) zai rfl zrr rfl (fun w42_ M42=>?_);replace zai:=zwb M42;go_wp2_with (with_reducible refine zT ?_)
    replace zac:=zwl M42 (zmo M41 zac) zaG;refine zah rfl 45 (.tmp 6) rfl b1 rfl zac zaY zaP (fun v39 H_v39=>?_);go_wp2_with (with_reducible refine zT ?_)
    replace zaa:=zwl M42 (zmo M41 zaa) zaR;refine zab rfl 45 (.tmp 4) (.tmp 39) rfl b0 rfl _ (zcv H_v39) zaa rfl zaP rfl (fun w43_ M43=>?_);replace zaa:=zwb M43;replace OE:=zhd (M42.o.owns (zhd (zak OE.o M41.o.ext)).o OEN.o);replace OE:=zhd (M43.o.owns OE.o (fun e=>by have q:=(OE.o.lt _ e).1; have q2:=zav.o; omega));go_wp2
    have z0:=zap (P:=Tryz.prog) 45 zaa.o zaY (by kernel_rfl);refine bodyPost_ret (by simp [results,Tryz.results6,asAddr,z0]; rfl) rfl ?_;have hmm:=HM.o;have hoe:=OE.o;replace H:=zHw M43 (zHw M42 (zhd (H.o.ext M41.o.ext)) zaN) zaF;have r1:=(H.o.widen (B:=fun k=>A k∨w.heap.size<=k) (fun k _ h=>(HE.o k h).2)).mc;rw [hmm] at r1;have r2:=(zdL hoe).widen (B:=fun k=>A k∨w.heap.size<=k) (fun k _ h=>.inr (by have q:=zaZ.o; omega));have hlen:(zdd (za4 l) (steps.take 400)).length=400:=by have q:=hoe.1; simpa using q
    replace EW:=zwe M43 (zwe M42 (zet EW M41) zbm) zbl;refine ⟨_,rfl,EW.o,(r1.and r2).imp fun w' h=>⟨_,_,(by rw [<- hmm]),h.1,?_⟩⟩;have h2:=h.2;unfold zbE;rw [hlen];exact h2
   ·have h400i:((k:Int) == 400)=false:=by simpa using (fun h:(k:Int)=400=>h400 (by omega))
    have hk4:k < 400:=by omega
    have HT:=zhd (zkC hlt);have FIT:=zhd (zp9 HL.o steps h4);rw [<- HM.o] at FIT;obtain ⟨sb,so,rfl,c0,c1⟩:=HS3.o k hlt;replace c0:=EW.o.cell c0;replace c1:=EW.o.cell c1;generalize steps.getD k (0,0)=pp at *;obtain ⟨kd,sn⟩:=pp;simp only [] at c0 c1;have OE0:=OE;go_wp2_with (with_reducible refine zT ?_)
    clear c0 c1;refine zaf rfl 64 #[I 0,I 0] (by kernel_rfl) (fun b2 w61_ M61=>?_);have zaR:=zld zaa M61;have zaG:=zld zac M61;have zai:=zmb M61;have B2AT:Hid (b2=wr.heap.size):=M61.o.at_;have zaN:Hid (¬ E b2):=fun h=>by have q:=(HE.o _ h).1; have q1:=M61.o.at_; omega
    have zbm:Hid (w.heap.size<=b2):=by unfold Hid; have q:=zaG.o; have q2:=zaZ.o; omega
    have OEN:Hid ((Value.slice ea k ecap).ownBlock≠some b2):=fun e=>by have q:=(OE0.o.lt _ e).2; have q1:=M61.o.at_; omega
    go_wp2_with (with_reducible refine zT ?_)
    refine zab rfl 64 (.tmp 10) (.tmp 24) rfl b2 rfl [I kd,I sn] (rfl) zai rfl zrr rfl (fun w62_ M62=>?_);replace zai:=zwb M62;clear h400;go_wp2_with (with_reducible refine zT ?_)
    clear h400i;replace zac:=zwl M62 (zmo M61 zac) zaG;refine zah rfl 45 (.tmp 6) rfl b1 rfl zac zaY zaP (fun v28 H_v28=>?_);have q0:=zad (i:=0) zai.o rfl;have q1:=zad (i:=1) zai.o rfl;go_wp2_with fail
    clear q0 q1;rw [show _=Value.agg #[.slice ca mk.store.cells.length cc,.slice ua mk.store.undo.length uc,.slice aa mk.store.answers.length ac,.slice pa mk.store.past.length pc,I mk.server.gen,.slice xa mk.server.box.length xc,.bool mk.server.busy,I mk.server.now.client,I mk.server.now.token,I mk.server.now.call.kind,I mk.server.now.call.name,I mk.server.now.call.other,I mk.server.now.call.n,.slice la mk.server.plan.length lc,I mk.server.says.err,I mk.server.says.n,.bool mk.up,I mk.pause,I mk.falls,.slice ka mk.clients.length kc] from H_v28.o];replace H:=zHw M62 (zhd (H.o.ext M61.o.ext)) zaN;refine (zmi mk _ _ _ _ _ _ _ kd sn w62_ E H.o FIT.o).to fun r w9 e9 hr=>?_;obtain ⟨m2,er,hD⟩:∃ x y,doM mk kd sn=(x,y):=⟨_,_,rfl⟩;rw [hD] at hr;have HD:=zhd hD;clear hD H_v28;simp only [] at hr;obtain ⟨cs,rfl,hcs⟩:=zfc hr;obtain ⟨c2,u2,a2,p2,box2,plan2,cl2,rfl,hm2⟩:=zcB hcs;obtain ⟨ca2,cc2,ua2,uc2,aa2,ac2,pa2,pc2,xa2,xc2,la2,lc2,ka2,kc2,rfl,rfl,rfl,rfl,rfl,rfl,rfl⟩:=hm2.slices;clear hcs hr H;have H:=zhd hm2;clear hm2;have SC:Hid (b2 < w62_.heap.size):=(zlt zai);have SC9:Hid (w62_.heap.size<=w9.heap.size):=e9.size;have OES:Hid (∀ g,(Value.slice ea k ecap).ownBlock=some g->g < b2):=fun g hg=>by have q:=(OE0.o.lt g hg).2; have q1:=(zlt zai); have q2:=B2AT.o; omega
    replace zaa:=zbx (zwl M62 (zmo M61 zaa) zaR) e9;replace OE:=zhd (zak (zhd (M62.o.owns (zhd (zak OE.o M61.o.ext)).o OEN.o)).o e9);replace EW:=zhd ((zwe M62 (zet EW M61) zbm).o.trans e9);replace zac:=zbx zac e9;replace zai:=zbx zai e9;clear e9;go_wp2_with (with_reducible refine zT ?_)
    refine zaf rfl 45 zM (by kernel_rfl) (fun b3 w63_ M63=>?_);have za5:=zld zaa M63;have zaX:=zld zac M63;have zbi:=zld zai M63;have zax:=zmb M63;obtain ⟨E2,HE2⟩:∃ X:Nat->Prop,Hid (∀ k,X k↔((E k∨w62_.heap.size<=k)/\k < b3)):=⟨_,fun _=>Iff.rfl⟩;replace H:=zhd ((H.o.widen (B:=E2) (fun k hk h=>(HE2.o k).2 ⟨h,by have q:=M63.o.at_; omega⟩)).ext M63.o.ext);have zbc:Hid (¬ E2 b3):=fun h=>by have q:=((HE2.o _).1 h).2; omega
    replace zas:Hid (¬ E2 b1):=fun h=>by rcases ((HE2.o _).1 h).1 with q | q; exact zas.o q; exact absurd q (by have q1:=zaG.o; have q2:=SC.o; omega)
    replace zaF:Hid (¬ E2 b0):=fun h=>by rcases ((HE2.o _).1 h).1 with q | q; exact zaF.o q; exact absurd q (by have q1:=zav.o; have q3:=zaG.o; have q2:=SC.o; omega)
    have HG:Hid (∀ g,(Value.slice ea k ecap).ownBlock=some g->¬ E2 g):=fun g hg h=>by rcases ((HE2.o _).1 h).1 with q | q; exact HES.o g hg q; exact absurd q (by have q1:=OES.o g hg; have q2:=SC.o; omega)
    have HIN:Hid (∀ j,E2 j->j < b3/\(A j∨w.heap.size<=j)):=fun j h=>⟨((HE2.o _).1 h).2,by rcases ((HE2.o _).1 h).1 with q | q; exact (HE.o j q).2; exact .inr (by have q1:=zbm.o; have q2:=SC.o; omega)⟩;have zcQ:Hid (w.heap.size<=b3):=by unfold Hid; have q:=zaX.o; have q2:=zaZ.o; omega
    clear HE2 HES HE zaN;go_wp2_with (with_reducible refine zT ?_)
    refine zab rfl 45 (.tmp 11) (.tmp 31) rfl b3 rfl [.slice ca2 m2.store.cells.length cc2,.slice ua2 m2.store.undo.length uc2,.slice aa2 m2.store.answers.length ac2,.slice pa2 m2.store.past.length pc2,I m2.server.gen,.slice xa2 m2.server.box.length xc2,.bool m2.server.busy,I m2.server.now.client,I m2.server.now.token,I m2.server.now.call.kind,I m2.server.now.call.name,I m2.server.now.call.other,I m2.server.now.call.n,.slice la2 m2.server.plan.length lc2,I m2.server.says.err,I m2.server.says.n,.bool m2.up,I m2.pause,I m2.falls,.slice ka2 m2.clients.length kc2] (rfl) zax rfl zaP rfl (fun w64_ M64=>?_);replace zax:=zwb M64;replace OE:=zhd (zak OE.o M63.o.ext);replace OE:=zhd (M64.o.owns OE.o (fun e=>by have q:=OES.o _ e; have q2:=zbi.o; omega));go_wp2_with (with_reducible refine zT ?_)
    refine zah rfl 45 (.tmp 11) rfl b3 rfl zax zaY zaP (fun v33 H_v33=>?_);go_wp2_with (with_reducible refine zT ?_)
    replace zac:=zwl M64 (zmo M63 zac) zaX;refine zab rfl 45 (.tmp 6) (.tmp 33) rfl b1 rfl _ (zcv H_v33) zac rfl zaP rfl (fun w65_ M65=>?_);replace zac:=zwb M65;replace OE:=zhd (M65.o.owns OE.o (fun e=>by have q:=(OE.o.lt _ e).1; omega));go_wp2_with (with_reducible refine zT ?_)
    unfold Hid;refine zcq rfl 38 1 #[I er] (by kernel_rfl) (fun bl w66_ M66=>?_);replace zaa:=zwl M65 (zwl M64 (zmo M63 zaa) za5) zav;replace zai:=zwg M65 (zwl M64 (zmo M63 zai) zbi) zaG;replace zax:=zwg M65 zax zaX;have zo2:=zmb M66;go_wp2_with (first | (at_builtin; refine zbv ?_) | (with_reducible refine zT ?_))
    unfold Hid;have hlit:=Row.of_owns (zdb (base:=0) (size:=1) (n:=1) M66.o (Nat.zero_le _) rfl (by decide));replace zac:=zmo M66 zac;have hszl:b1+1<=w66_.heap.size:=(zlt zac);replace zax:=zmo M66 zax;have SB3:Hid (b3 < w66_.heap.size):=(zlt zax);replace OE:=zhd (zak OE.o M66.o.ext);refine zey rfl (.tmp 34) (.tmp 36) 46 rfl (b1+1) 38 j0 (.int .i64 0) 1 8 zrL HJ.o hy0 hy1 hy2 rfl (by decide) (.slice ea k ecap) k _ rfl OE.o _ rfl 1 _ hlit (zbB rfl) (by omega) (by decide) hszl ?_;intro v37 wq ho hg hfr;clear hlit hszl;have hlo:∀ b,b<=b1->(Value.slice ea k ecap).ownBlock≠some b:=fun b hb e=>by have:=(OE.o.lt b e).1; omega
    replace zaa:=zmo M66 zaa;have kb0:=zfB hg zaa.o (hlo b0 (Nat.le_of_lt zav.o));have kb1:=zfB hg zac.o (hlo b1 (Nat.le_refl _));replace EW:=zet (zwe M65 (zwe M64 (zet EW M63) zcQ) zaZ) M66;have kew:Ext w wq:=EW.o.grown hg (fun b e=>by have q:=(OE.o.lt b e).1; have q2:=zaZ.o; omega);replace H:=zhd ((zHw M65 (zHw M64 H zbc) zas).o.ext M66.o.ext);have kh:RdM E2 wq m2 _ _ _ _ _ _ _:=⟨H.o.cells.grown hg HG.o,H.o.undo.grown hg HG.o,H.o.answers.grown hg HG.o,H.o.past.grown hg HG.o,H.o.box.grown hg HG.o,H.o.plan.grown hg HG.o,H.o.clients.grown hg HG.o⟩;have ksz:b3 < wq.heap.size:=Nat.lt_of_lt_of_le SB3.o hg.size
    have KF:Hid (∀ g,v37.ownBlock=some g->¬ E2 g):=fun g hgv h=>by
     rcases hfr with hf | hf
     ·rw [hf] at hgv;exact HG.o g hgv h
     ·have q:=hf g hgv;have q2:=(HIN.o g h).1;have q3:=SB3.o;omega
    clear zaa zac zai zax zo2 EW H hg hfr hlo OE0;have K0:=zhd kb0;have K1:=zhd kb1;have KE:=zhd kew;have KH:=zhd kh;have KO:=zhd ho;have KS:=zhd ksz;clear kb0 kb1 kew kh ho ksz OE;obtain ⟨na,ncap,rfl⟩:=zc4 KO.o;go_wp2
    go_roundw
    case rel =>
     have hp:m2=zcr (za4 l) (steps.take (k+1)):=by
      rw [HT.o,playM_snoc,<- HM.o];exact (congrArg Prod.fst HD.o).symm
     have he:zdd (za4 l) (steps.take (k+1))=zdd (za4 l) (steps.take k)++[er]:=by
      rw [HT.o,playE_snoc,<- HM.o];have q:=congrArg Prod.snd HD.o;simp only [] at q;rw [q]
     refine ⟨k+1,E2,m2,_,_,_,_,_,_,_,by omega,by omega,by go_num,hp,KH.o,fun j hj=>⟨by have q:=(HIN.o j hj).1; have q2:=KS.o; omega,(HIN.o j hj).2⟩,zaF.o,zas.o,KF.o,K0.o,K1.o,?_,KE.o⟩;rw [he,List.map_append];exact KO.o
    case measure=>simp [intOf]; omega
  ·have hkl:k=steps.length:=by omega
   subst hkl;go_wp2_with (with_reducible refine zT ?_)
   refine zah rfl 45 (.tmp 6) rfl b1 rfl zac zaY zaP (fun v39 H_v39=>?_);go_wp2_with (with_reducible refine zT ?_)
   refine zab rfl 45 (.tmp 4) (.tmp 39) rfl b0 rfl _ (zcv H_v39) zaa rfl zaP rfl (fun w41_ M41=>?_);replace zaa:=zwb M41;replace OE:=zhd (M41.o.owns OE.o (fun e=>by have q:=(OE.o.lt _ e).1; have q2:=zav.o; omega));go_wp2
   have z0:=zap (P:=Tryz.prog) 45 zaa.o zaY (by kernel_rfl);refine bodyPost_ret (by simp [results,Tryz.results6,asAddr,z0]; rfl) rfl ?_;have ht:steps.take steps.length=steps.take 400:=by rw [List.take_length,List.take_of_length_le h4]
   have hmm:=HM.o;rw [ht] at hmm;have hoe:=OE.o;rw [ht] at hoe;replace H:=zHw M41 H zaF;have r1:=(H.o.widen (B:=fun k=>A k∨w.heap.size<=k) (fun k _ h=>(HE.o k h).2)).mc;rw [hmm] at r1;have r2:=(zdL hoe).widen (B:=fun k=>A k∨w.heap.size<=k) (fun k _ h=>.inr (by have q:=zaZ.o; omega));have hlen:(zdd (za4 l) (steps.take 400)).length=steps.length:=by have q:=hoe.1; simpa using q
   replace EW:=zwe M41 EW zbl;refine ⟨_,rfl,EW.o,(r1.and r2).imp fun w' h=>⟨_,_,(by rw [<- hmm]),h.1,?_⟩⟩;have h2:=h.2;unfold zbE;rw [hlen];exact h2

open Go.RowKit Go.Mk

def zre:Prop:=∀ (v:Value) (l:List (List Cl)) (w:World) (A:Nat->Prop),Rd A (fun w=>zat 1 zgi w v l) w->zaJ Tryz.prog 21 #[v] w A (zoD l)
def zrK:Prop:=∀ (l:List (List Cl)) (m:Mc) (k:Nat) (c u a p box plan cl:Value) (kind n:Int) (w:World) (A:Nat->Prop),RdM A w m c u a p box plan cl->Gd l m k->k<=500 ->
 zaJ Tryz.prog 44 #[.agg (zaL m c u a p box plan cl).toArray,.agg #[I kind,I n]] w A (fun r w'=>zge zdc (doM m kind n).1 (doM m kind n).2 r w')

def zeroMc:Mc:=⟨⟨[],[],[],[]⟩,zbQ 0 [],false,0,0,[]⟩
def zot (l:List (List Cl)):Mc:=if zfn l=0 then za4 l else zeroMc
theorem zqB {l:List (List Cl)} {r:Value} {A:Nat->Prop} {w:World} (h:Rd A (zoD l r) w):∃ c u a p box plan cl,r=.tuple #[.agg (zaL (zot l) c u a p box plan cl).toArray,I (zfn l)]/\RdM A w (zot l) c u a p box plan cl/\(zfn l=0->za9 l):=by
 obtain ⟨cs,e1,h1⟩:=zqo h
 rcases h1 with ⟨h2,h3,h4⟩ | ⟨rfl,h2,h3⟩
 ·have e:zot l=za4 l:=if_pos h2
  obtain ⟨c,u,a,p,box,plan,cl,rfl,hM⟩:=zcB h4
  rw [e]
  exact ⟨c,u,a,p,box,plan,cl,e1,hM,fun _=>h3⟩
 ·have e:zot l=zeroMc:=if_neg h2
  rw [e]
  exact ⟨.slice none 0 0,.slice none 0 0,.slice none 0 0,.slice none 0 0,.slice none 0 0,.slice none 0 0,.slice none 0 0,e1,⟨Rd.all fun w=>zhs w,Rd.all fun w=>zbt w,Rd.all fun w=>zat.nil w,Rd.all fun w=>zat.nil w,Rd.all fun w=>zat.nil w,Rd.all fun w=>zbt w,Rd.all fun w=>zat.nil w⟩,fun h=>absurd h h2⟩
theorem zqS {l:List (List Cl)} {r:Value} {A:Nat->Prop} {w:World} (h:Rd A (zoD l r) w) {N:Mc} (hn:zot l=N):∃ c u a p box plan cl,r=.tuple #[.agg (zaL N c u a p box plan cl).toArray,I (zfn l)]/\RdM A w N c u a p box plan cl/\(zfn l=0->za9 l):=by
 subst hn
 exact zqB h
theorem Gd.fit {l:List (List Cl)} {m:Mc} {k:Nat} (h:Gd l m k) (hk:k<=1000):Fit m:=by
 obtain ⟨h1,⟨ks,bz,h2⟩,h3⟩:=h
 exact zpT h1 h2 h3 hk

open Go.RowKit Go.Mk

def zjp (m:Mc) (k:Nat):Mc:=(List.range k).foldl (fun m (n:Nat)=>(doM m 1 (n:Int)).1) (zbL m)
theorem zl5 (m:Mc) (k:Nat):zjp m (k+1)=(doM (zjp m k) 1 (k:Int)).1:=by
 unfold zjp
 rw [List.range_succ,List.foldl_append]
 rfl
theorem round_all (m:Mc):roundM m=(doM (zjp m (zbL m).clients.length) 2 0).1:=rfl
open Go.RowKit Go.Mk

def zc2 (l:List (List Cl)) (steps:List (Int×Int)):Int:=if zfn l≠0 then zfn l else if 400 < steps.length then 5 else 0
def zng (l:List (List Cl)) (steps:List (Int×Int)) (r:Value) (w:World):Prop:=∃ (cs:List Value) (es:Value),r=.tuple #[.agg cs.toArray,es,I (zc2 l steps)] /\
 (zc2 l steps=0->za9 l/\zdc w cs (zcr (za4 l) steps)/\zbE w es (zdd (za4 l) steps))/\(zc2 l steps≠0->∃ M:Mc,M.clients=[]/\zdc w cs M/\zbE w es [])
def zk0:Prop:=∀ (v sv:Value) (l:List (List Cl)) (steps:List (Int×Int)) (w:World) (A:Nat->Prop),Rd A (fun w=>zat 1 zgi w v l) w->zaw w sv steps->zaJ Tryz.prog 13 #[v,sv] w A (zng l steps)
def zhU:Prop:=∀ (l:List (List Cl)) (m:Mc) (c u a p box plan cl:Value) (w:World) (A:Nat->Prop),RdM A w m c u a p box plan cl->GzM l m->zaJ Tryz.prog 14 #[.agg (zaL m c u a p box plan cl).toArray] w A (fun r w'=>Agg zdc (roundM m) r w')
def zhC:Prop:=∀ (l:List (List Cl)) (m:Mc) (c u a p box plan cl:Value) (w:World) (A:Nat->Prop),RdM A w m c u a p box plan cl->GzM l m->zaJ Tryz.prog 7 #[.agg (zaL m c u a p box plan cl).toArray] w A (fun r w'=>zge zdc (zbs 300 m).1 ((zbs 300 m).2:Int) r w')

theorem zo9 {l:List (List Cl)} {steps:List (Int×Int)} {r:Value} {A:Nat->Prop} {w:World} (h:Rd A (zng l steps r) w):∃ (cs:List Value) (es:Value),r=.tuple #[.agg cs.toArray,es,I (zc2 l steps)] /\
  (zc2 l steps=0->za9 l/\Rd A (fun w=>zdc w cs (zcr (za4 l) steps)) w/\Rd A (fun w=>zbE w es (zdd (za4 l) steps)) w)/\(zc2 l steps≠0->∃ M:Mc,M.clients=[]/\zdc w cs M/\zbE w es []):=by
 obtain ⟨cs,es,e1,h1,h2⟩:=h.o
 have key:∀ w',zng l steps r w'->zc2 l steps=0->zdc w' cs (zcr (za4 l) steps)/\zbE w' es (zdd (za4 l) steps):=fun w' hw h0=>by
  obtain ⟨cs',es',e1',h3,-⟩:=hw
  rw [e1] at e1'
  simp only [Value.tuple.injEq,Array.mk.injEq,List.cons.injEq,Value.agg.injEq,and_true] at e1'
  obtain ⟨q1,q2⟩:=e1'
  have q1:cs=cs':=by simpa using q1
  subst q1 q2
  exact (h3 h0).2
 exact ⟨cs,es,e1,fun h0=>⟨(h1 h0).1,h.imp fun w' hw=>(key w' hw h0).1,h.imp fun w' hw=>(key w' hw h0).2⟩,h2⟩
theorem zl2 {l:List (List Cl)} {m:Mc} (h:GzM l m):Gd l m 24:=⟨h.right,h.inv,h.size⟩
theorem zo8 {l:List (List Cl)} {m:Mc} (h:GzM l m):Fit m:=(zl2 h).fit (by decide)
theorem zih {m:Mc} (n:Nat) (h:n=0∨zd8 m=true):zbs n m=(m,0):=by
 cases n with
 | zero=>rfl
 | succ n =>
  rcases h with h | h
  ·cases h
  ·unfold zbs; rw [if_pos h]
theorem zep {m:Mc} (n:Nat) (h:zd8 m=false):zbs (n+1) m=((zbs n (roundM m)).1,(zbs n (roundM m)).2+1):=by
 conv=>lhs; unfold zbs
 rw [if_neg (by rw [h]; exact Bool.false_ne_true)]

end Go.Proofs.YtdmipnnfoolelagGreat

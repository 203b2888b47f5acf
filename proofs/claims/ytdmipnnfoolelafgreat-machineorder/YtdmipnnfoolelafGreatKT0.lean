/- Texts of the proof, merged: N16 N17 J1. -/
import Derived.Test.YtdmipnnfoolelafGreatKTA
import Derived.Test.YtdmipnnfoolelafGreatKTW
import Derived.Test.YtdmipnnfoolelafGreatKTF
import Derived.Test.YtdmipnnfoolelafGreatKTZ
import Derived.Test.YtdmipnnfoolelafGreatKTE
import Derived.Test.YtdmipnnfoolelafGreatKTX
set_option maxHeartbeats 4000000
set_option maxRecDepth 100000

namespace Go.Proofs.YtdmipnnfoolelafGreat
open Go.RowKit Go.Mk

def zeO (cvs:List Value):List (List Value):=cvs.map fun cv=>[cv,I 0,.bool false,I 0,.slice none 0 0,.slice none 0 0]
theorem zj9 {g n cap b:Nat} (h:g < b):(Value.slice (some ⟨g,0,none⟩) n cap).ownBlock≠some b:=fun e=>by
 have q:g=b:=by simpa [Value.ownBlock] using e
 omega
theorem zfF {w w':World} {row:Option Nat} (hg:w.grownBy w' row) {b:Nat} {o:Obj} (h:w.heap[b]?=some o) (hne:row≠some b):w'.heap[b]?=some o:=by
 rw [hg.block b (Array.getElem?_eq_some_iff.1 h).1 (fun e=>hne e.symm)]
 exact h
theorem zn3 (cvs:List Value) (k:Nat) (cv:Value) (h:cvs[k]?=some cv):(zeO (cvs.take (k+1))).flatten=(zeO (cvs.take k)).flatten++[cv,I 0,.bool false,I 0,.slice none 0 0,.slice none 0 0]:=by
 rw [List.take_add_one,h]
 simp [zeO]

def zjg:List Value:=[.slice none 0 0,.slice none 0 0,.slice none 0 0,.slice none 0 0,I 0,.slice none 0 0,.bool false,I 0,I 0,I 0,I 0,I 0,I 0,.slice none 0 0,I 0,I 0,.bool false,I 0,I 0,.slice none 0 0]
def zpU (l:List (List Cl)) (r:Value) (w:World):Prop:=∃ (cs:List Value) (e:Int),r=.tuple #[.agg cs.toArray,I e]/\((e=0/\za8 l/\zc1 w cs (za1 l))∨(cs=zjg/\e≠0/\¬ za8 l))/\e=zfa l

theorem znR {w:World} {v:Value} {l:List (List Cl)} (h:zas 1 zdI w v l):∃ ao cap,v=.slice ao l.length cap/\l.length<=cap/\cap<=maxLen/\∃ cvs:List Value,cvs.length=l.length/\∀ k x,l[k]?=some x->∃ b off cv,ao=some ⟨b,off,none⟩/\cvs[k]?=some cv/\w.cell? ⟨b,off+k,none⟩=some cv/\zas 4 zdw w cv x:=by
 obtain ⟨css,he,hl,ao,cap,e,h3,h4,h0,h5⟩:=h
 refine ⟨ao,cap,e,h3,h4,css.flatten,by simpa using hl,fun k x hx=>?_⟩
 have hk:k < css.length:=by rw [he.1]; exact (List.getElem?_eq_some_iff.1 hx).1
 have hc:css[k]?=some css[k]:=List.getElem?_eq_getElem hk
 obtain ⟨h6,cv,h7,h8⟩:=he.2 k _ x hc hx
 have h9:=zc9 (by decide) he.sizes hc (j:=0) (u:=cv) (by rw [h7]; rfl)
 rw [Nat.mul_one,Nat.add_zero] at h9
 obtain ⟨b,off,e1,hcell⟩:=h5 k cv h9
 exact ⟨b,off,cv,e1,h9,hcell,h8⟩
theorem zrn {w:World} {l:List (List Cl)} {cvs:List Value} (hl:cvs.length=l.length) (h:∀ (k:Nat) (x:List Cl) (cv:Value),l[k]?=some x->cvs[k]?=some cv->zas 4 zdw w cv x):zdq 6 zcC w (zeO cvs) (l.map zbO):=by
 refine ⟨by simp [zeO,hl],fun i c x hc hx=>?_⟩
 unfold zeO at hc
 rw [List.getElem?_map] at hc hx
 cases h1:cvs[i]? with
 | none=>rw [h1] at hc; cases hc
 | some cv =>
  cases h2:l[i]? with
  | none=>rw [h2] at hx; cases hx
  | some y =>
   rw [h1] at hc
   rw [h2] at hx
   simp at hc hx
   subst hc hx
   exact ⟨rfl,(zgo (c:=zbO y)).2 ⟨h i y cv h2 h1,zas.nil w,zas.nil w⟩⟩
theorem zmw {l:List (List Cl)} (h:3 < l.length):¬ za8 l:=fun hr=>by have:=hr.1; omega
theorem znx {l:List (List Cl)} {k:Nat} {x:List Cl} (hx:l[k]?=some x) (h:8 < x.length):¬ za8 l:=fun hr=>by have:=(hr.2 x (List.mem_of_getElem? hx)).1; omega
theorem zmN {l:List (List Cl)} {k q:Nat} {x:List Cl} {y:Cl} (hx:l[k]?=some x) (hy:x[q]?=some y) (h:wrongCl y≠0):¬ za8 l:=fun hr=>h ((hr.2 x (List.mem_of_getElem? hx)).2 y (List.mem_of_getElem? hy))
def okL (l:List (List Cl)) (k:Nat):Prop:=∀ (j:Nat) (x:List Cl),j < k->l[j]?=some x->x.length<=8/\∀ y ∈ x,wrongCl y=0

theorem zjp {w:World} {v:Value} {l:List (List Cl)} {css:List (List Value)} (he:zdq 1 zdI w css l) (hr:Row w 1 v l.length css.flatten):∃ ao cap,v=.slice ao l.length cap/\l.length<=cap/\cap<=maxLen/\css.flatten.length=l.length /\
  ∀ k x,l[k]?=some x->∃ b off cv,ao=some ⟨b,off,none⟩/\css.flatten[k]?=some cv/\w.cell? ⟨b,off+k,none⟩=some cv/\zas 4 zdw w cv x:=by
 obtain ⟨hl,ao,cap,e,h3,h4,h0,h5⟩:=hr
 refine ⟨ao,cap,e,h3,h4,by simpa using hl,fun k x hx=>?_⟩
 have hk:k < css.length:=by rw [he.1]; exact (List.getElem?_eq_some_iff.1 hx).1
 have hc:css[k]?=some css[k]:=List.getElem?_eq_getElem hk
 obtain ⟨h6,cv,h7,h8⟩:=he.2 k _ x hc hx
 have h9:=zc9 (by decide) he.sizes hc (j:=0) (u:=cv) (by rw [h7]; rfl)
 rw [Nat.mul_one,Nat.add_zero] at h9
 obtain ⟨b,off,e1,hcell⟩:=h5 k cv h9
 exact ⟨b,off,cv,e1,h9,hcell,h8⟩

theorem zeH (v:Value) (l:List (List Cl)) (w:World) (A:Nat->Prop) (hv:Rd A (fun w=>zas 1 zdI w v l) w) :
  zaK Tryz.prog 12 #[v] w A (zpU l):=by
 unfold zaK;obtain ⟨css,hcss⟩:=zdk (by decide) hv;obtain ⟨va,vcap,rfl,v1,v2,hcl,v3⟩:=zjp hcss.o.1 hcss.o.2;unfold maxLen at v2;have HE:=zhd hcss.left;have V3:=zhd v3;have HCL:=zhd hcl;generalize hcvs:css.flatten=cvs at *;have HCV:=zhd hcvs;clear v3 hcl hv hcss hcvs;have EW:=zhd (Ext.refl w);by_cases h3:3 < l.length
 case pos =>
  have h3i:(3:Int) < (l.length:Int):=by omega
  have HN:=zhd (zmw h3);have HNE:=zhd (zk9 h3);clear h3;go_enter Tryz.func12,Tryz.ntmps12
  go_wp2_with (with_reducible refine zT ?_)
  refine zae rfl 44 zM (by kernel_rfl) (fun b0 w1_ M1=>?_);have zab:=zmb M1;have zbm:Hid (w.heap.size<=b0):=by unfold Hid; have q:=M1.o.at_; omega
  go_wp2_with (with_reducible refine zT ?_)
  refine zaX rfl 44 #[] rfl zM (by kernel_rfl) (fun v13 H_v13=>?_);go_wp2_with (with_reducible refine zT ?_)
  refine zac rfl 44 (.tmp 2) (.tmp 13) rfl b0 rfl _ (zcv H_v13) zab rfl zaG rfl (fun w2_ M2=>?_);replace zab:=zwb M2;go_wp2
  have z0:=zaq (P:=Tryz.prog) 44 zab.o zaS (by kernel_rfl);refine bodyPost_ret (by simp [results,Tryz.results12,asAddr,z0]; rfl) rfl ?_;replace EW:=zwe M2 (zet EW M1) zbm;exact ⟨_,rfl,EW.o,Rd.all fun w=>⟨_,_,rfl,.inr ⟨rfl,by decide,HN.o⟩,HNE.o.symm⟩⟩
 have h3i:¬ ((3:Int) < (l.length:Int)):=by omega
 have H3:=zhd h3;clear h3;obtain ⟨i0,hi,hz0,hz1,hz2⟩:=info_parts Tryz.infoInt;have HI:=zhd hi;clear hi;obtain ⟨j0,hj,hy0,hy1,hy2⟩:=info_parts Tryz.infoClient;have HJ:=zhd hj;clear hj;go_enter Tryz.func12,Tryz.ntmps12
 go_wp2_with (with_reducible refine zT ?_)
 refine zae rfl 44 zM (by kernel_rfl) (fun b0 w1_ M1=>?_);have zab:=zmb M1;have zbm:Hid (w.heap.size<=b0):=by unfold Hid; have q:=M1.o.at_; omega
 go_wp2_with (first | (at_make; refine zbG ?_) | (with_reducible refine zT ?_))
 unfold Hid;refine wpList_make_full _ rfl _ _ 26 rfl w1_.heap.size 3 i0 (.int .i64 0) 1 zpg HI.o hz0 hz1 .i64 .i64 _ _ 11 rfl rfl rfl rfl (by rw [hz2]; decide) (by decide) (Nat.le_refl _) ?_;intro w2 ho hg;have hmc:(madeCells (Value.int .i64 0).cells (11 * 1)).toList=(List.replicate 11 (0:Int)).map I:=by kernel_rfl
 rw [hmc] at ho;clear hmc;have e2:Ext w1_ w2:=(Ext.refl _).grown hg (fun k hk=>by cases hk);clear hg;have zto:Hid (b0 < w1_.heap.size):=(zlt zab);replace EW:=zet EW M1;have ztA:Hid (w.heap.size<=w1_.heap.size):=EW.o.size;generalize w1_.heap.size=bc at *;have OC:=zhd ho;clear ho;replace zab:=zbx zab e2;replace EW:=zhd (EW.o.trans e2);clear e2;go_wp2_with (with_reducible refine zT ?_)
 refine zaX rfl 31 #[(0,.tmp 14)] rfl #[.slice (some ⟨bc,0,none⟩) 11 11,.slice none 0 0,.slice none 0 0,.slice none 0 0] (by kernel_rfl) (fun v15 H_v15=>?_);have hv15:=H_v15.o;subst hv15;clear H_v15;go_wp2_with (with_reducible refine zT ?_)
 refine zaX rfl 44 #[(0,.tmp 15),(2,.const (.bool true))] rfl #[.slice (some ⟨bc,0,none⟩) 11 11,.slice none 0 0,.slice none 0 0,.slice none 0 0,I 0,.slice none 0 0,.bool false,I 0,I 0,I 0,I 0,I 0,I 0,.slice none 0 0,I 0,I 0,.bool true,I 0,I 0,.slice none 0 0] (by kernel_rfl) (fun v16 H_v16=>?_);go_wp2_with (with_reducible refine zT ?_)
 refine zae rfl 44 zM (by kernel_rfl) (fun b1 w2_ M2=>?_);have zaw:=zld zab M2;have zad:=zmb M2;have ztn:Hid (bc < b1):=by unfold Hid; have q:=(OC.o.lt bc rfl).2; have q2:=M2.o.at_; omega
 have zaZ:Hid (w.heap.size<=b1):=by unfold Hid; have q:=zbm.o; have q2:=zaw.o; omega
 have SZ:Hid (b1 < w2_.heap.size):=(zlt zad);go_wp2_with (with_reducible refine zT ?_)
 refine zac rfl 44 (.tmp 4) (.tmp 16) rfl b1 rfl _ (zcv H_v16) zad rfl zaG rfl (fun w3_ M3=>?_);replace zad:=zwb M3;replace SZ:Hid (b1 < w3_.heap.size):=(zlt zad);go_wp2_with fail
 replace zab:=zwl M3 (zmo M2 zab) zaw;replace EW:=zwe M3 (zet EW M2) zaZ;replace OC:=zhd (M3.o.owns (zhd (zam OC.o M2.o.ext)).o (zj9 ztn.o));go_loopw [19] (fun i wr=>∃ (k:Nat) (clv:Value),k<=l.length/\i=I k/\okL l k/\wr.heap[b0]?=some (.cells zM 44 (0,0))/\wr.heap[b1]?=some (.cells #[.slice (some ⟨bc,0,none⟩) 11 11,.slice none 0 0,.slice none 0 0,.slice none 0 0,I 0,.slice none 0 0,.bool false,I 0,I 0,I 0,I 0,I 0,I 0,.slice none 0 0,I 0,I 0,.bool true,I 0,I 0,clv] 44 (0,0))/\wr.ownsRow bc 3 1 (.slice (some ⟨bc,0,none⟩) 11 11) 11 ((List.replicate 11 (0:Int)).map I)/\wr.ownsRow (b1+1) 55 6 clv k (zeO (cvs.take k)).flatten/\Ext w wr) (fun i _=>l.length - (intOf i).toNat)
 case atStart=>exact ⟨0,_,Nat.zero_le _,rfl,fun j x hj=>by omega,zab.o,zad.o,OC.o,World.ownsRow_nil _ _ _ _,EW.o⟩
 case round =>
  obtain ⟨k,clv,hk,rfl,hok,hb0,hb1,hoc,hocl,hex⟩:=hrel;clear zab zad OC EW SZ;have zab:=zhd hb0;have zad:=zhd hb1;have OC:=zhd hoc;have OCL:=zhd hocl;have EW:=zhd hex;have HOK:=zhd hok;obtain ⟨la,lcap,rfl⟩:=zdv hocl;clear hb0 hb1 hoc hocl hex hok;by_cases hlt:k < l.length
  ·obtain ⟨x,hx⟩:∃ x,l[k]?=some x:=⟨l[k],List.getElem?_eq_getElem hlt⟩;obtain ⟨vb,vo,cv,rfl,hcv,hcell,hrow⟩:=V3.o k x hx;have hcw:=EW.o.cell hcell;obtain ⟨xa,xcap,rfl⟩:=zag hrow;have HXF:=zhd (hrow.ext zdK EW.o);have HX:=zhd hx;have HCVK:=zhd hcv;clear hx hcv hcell hrow;by_cases h8:8 < x.length
   ·have h8i:(8:Int) < (x.length:Int):=by omega
    have HN:=zhd (znx HX.o h8);have HNE:=zhd (zlj H3.o HOK.o HX.o h8);clear h8;go_wp2_with (with_reducible refine zT ?_)
    clear hcw;refine zaX rfl 44 #[] rfl zM (by kernel_rfl) (fun v26 H_v26=>?_);go_wp2_with (with_reducible refine zT ?_)
    refine zac rfl 44 (.tmp 2) (.tmp 26) rfl b0 rfl _ (zcv H_v26) zab rfl zaG rfl (fun w41_ M41=>?_);replace zab:=zwb M41;go_wp2
    have z0:=zaq (P:=Tryz.prog) 44 zab.o zaS (by kernel_rfl);refine bodyPost_ret (by simp [results,Tryz.results12,asAddr,z0]; rfl) rfl ?_;replace EW:=zwe M41 EW zbm;exact ⟨_,rfl,EW.o,Rd.all fun w=>⟨_,_,rfl,.inr ⟨rfl,by decide,HN.o⟩,HNE.o.symm⟩⟩
   ·have h8i:¬ ((8:Int) < (x.length:Int)):=by omega
    have H8:=zhd h8;clear h8;go_wp2_with fail
    clear hcw h8i;go_loopw [29] (fun i wi=>∃ q:Nat,q<=x.length/\i=I q/\(∀ (j:Nat) (y:Cl),j < q->x[j]?=some y->wrongCl y=0)/\Ext wr wi) (fun i _=>x.length - (intOf i).toNat)
    case atStart=>exact ⟨0,Nat.zero_le _,rfl,fun j y hj=>by omega,Ext.refl _⟩
    case round =>
     obtain ⟨q,hq,rfl,hall,hei⟩:=hrel;have HALL:=zhd hall;have HEI:=zhd hei;clear hall hei;by_cases hql:q < x.length
     ·obtain ⟨y,hy⟩:∃ y,x[q]?=some y:=⟨x[q],List.getElem?_eq_getElem hql⟩;obtain ⟨_,_,e1,_,hxm,_,hf⟩:=HXF.o.form (by decide);simp only [Value.slice.injEq,true_and] at e1;obtain ⟨rfl,rfl⟩:=e1;obtain ⟨yk,ya,yo,yn⟩:=y;obtain ⟨yb,yf,c4,rfl,-,hc4,hcell⟩:=hf q _ hy;have hc4:c4=[I yk,I ya,I yo,I yn]:=hc4;subst hc4;have HY:=zhd hy;have y0:=HEI.o.cell (hcell 0 _ rfl);have y1:=HEI.o.cell (hcell 1 _ rfl);have y2:=HEI.o.cell (hcell 2 _ rfl);have y3:=HEI.o.cell (hcell 3 _ rfl);simp only [Nat.add_zero,<- Nat.add_assoc] at y0 y1 y2 y3;clear hf hcell hy;unfold maxLen at hxm;go_wp2_with fail
      clear y0 y1 y2 y3;refine Calls.exts (zfW yk ya yo yn _) (fun wj ej=>?_);replace ej:=((Ext.refl _).alloc _).trans ej;by_cases hw:wrongCl ⟨yk,ya,yo,yn⟩=0
      ·rw [hw];have HW:=zhd hw;clear hw;go_wp2
       go_roundw
       case rel =>
        refine ⟨q+1,by omega,by go_num,fun j y hj hy=>?_,HEI.o.trans ej⟩;by_cases hjq:j=q
        ·subst hjq;have hy2:x[j]?=some y:=hy;rw [HY.o] at hy2;cases hy2
         exact HW.o
        ·exact HALL.o j y (by omega) hy
       case measure=>simp [intOf]; omega
      ·have hb:(wrongCl ⟨yk,ya,yo,yn⟩ != 0)=true:=by simpa using hw
       have HN:=zhd (zmN HX.o HY.o hw);have HNE:=zhd (zlp H3.o HOK.o HX.o H8.o HALL.o HY.o hw);have HW:=zhd hw;generalize wrongCl ⟨yk,ya,yo,yn⟩=WC at *;clear hw;have eji:=HEI.o.trans ej;replace zab:=zbx zab eji;replace zad:=zbx zad eji;replace EW:=zhd (EW.o.trans eji);clear eji ej;go_wp2_with (with_reducible refine zT ?_)
       refine zaX rfl 44 #[] rfl zM (by kernel_rfl) (fun v37 H_v37=>?_);go_wp2_with (with_reducible refine zT ?_)
       refine zac rfl 44 (.tmp 2) (.tmp 37) rfl b0 rfl _ (zcv H_v37) zab rfl zaG rfl (fun w41_ M41=>?_);replace zab:=zwb M41;go_wp2
       have z0:=zaq (P:=Tryz.prog) 44 zab.o zaS (by kernel_rfl);refine bodyPost_ret (by simp [results,Tryz.results12,asAddr,z0]; rfl) rfl ?_;replace EW:=zwe M41 EW zbm;exact ⟨_,rfl,EW.o,Rd.all fun w=>⟨_,_,rfl,.inr ⟨rfl,HW.o,HN.o⟩,HNE.o.symm⟩⟩
     ·have hqx:q=x.length:=by omega
      subst hqx;clear hql hq;have hei:=HEI.o;replace zab:=zbx zab hei;replace zad:=zbx zad hei;replace OC:=zhd (zam OC.o hei);replace OCL:=zhd (zam OCL.o hei);replace EW:=zhd (EW.o.trans hei);clear hei;have c19:=zaa (i:=19) zad.o rfl;go_wp2_with (with_reducible refine zT ?_)
      clear c19;refine zaX rfl 55 #[(0,.tmp 42)] rfl #[.slice xa x.length xcap,I 0,.bool false,I 0,.slice none 0 0,.slice none 0 0] (by kernel_rfl) (fun v43 H_v43=>?_);have hv43:=H_v43.o;subst hv43;clear H_v43;go_wp2_with (with_reducible refine zT ?_)
      unfold Hid;refine zcw rfl 55 1 #[.slice xa x.length xcap,I 0,.bool false,I 0,.slice none 0 0,.slice none 0 0] (by kernel_rfl) (fun bl w41_ M41=>?_);go_wp2_with (first | (at_builtin; refine zbG ?_) | (with_reducible refine zT ?_))
      unfold Hid;have hlit:=Row.of_owns (zdi (base:=0) (size:=6) (n:=1) M41.o (Nat.zero_le _) rfl (by decide));replace zad:=zmo M41 zad;have hszl:b1+1<=w41_.heap.size:=(zlt zad);replace OCL:=zhd (zam OCL.o M41.o.ext);refine zaA _ rfl (.tmp 41) (.tmp 44) 42 rfl (b1+1) 55 j0 (.agg zC) 6 96 zqY HJ.o hy0 hy1 hy2 rfl (by decide) (.slice la k lcap) k _ rfl OCL.o _ rfl 1 _ hlit (zbC rfl) (by have:=H3.o; omega) (by decide) hszl ?_;intro v45 wq ho hg;clear hlit hszl;have hlo:∀ b,b<=b1->(Value.slice la k lcap).ownBlock≠some b:=fun b hb e=>by have:=(OCL.o.lt b e).1; omega
      replace zab:=zmo M41 zab;have kb0:=zfF hg zab.o (hlo b0 (Nat.le_of_lt zaw.o));have kb1:=zfF hg zad.o (hlo b1 (Nat.le_refl _));replace OC:=zhd (zam OC.o M41.o.ext);have koc:=OC.o.kept hg (zd4 OC.o OCL.o (by decide));replace EW:=zet EW M41;have kew:Ext w wq:=EW.o.grown hg (fun b e=>by have q:=(OCL.o.lt b e).1; have q2:=zaZ.o; omega);replace zab:=zhd kb0;replace zad:=zhd kb1;replace OC:=zhd koc;replace EW:=zhd kew;clear kb0 kb1 koc kew hlo hg;have hcsn:=zn3 cvs k _ HCVK.o;have OCN:Hid (wq.ownsRow (b1+1) 55 6 v45 (k+1) (zeO (cvs.take (k+1))).flatten):=by unfold Hid; rw [hcsn]; exact ho
      clear ho OCL hcsn;obtain ⟨na,ncap,rfl⟩:=zdv OCN.o;go_wp2_with (with_reducible refine zT ?_)
      refine zal rfl 42 (.tmp 46) (.tmp 45) rfl b1 19 rfl [.slice na (k+1) ncap] (rfl) zad rfl zr4 rfl [.slice (some ⟨bc,0,none⟩) 11 11,.slice none 0 0,.slice none 0 0,.slice none 0 0,I 0,.slice none 0 0,.bool false,I 0,I 0,I 0,I 0,I 0,I 0,.slice none 0 0,I 0,I 0,.bool true,I 0,I 0,.slice na (k+1) ncap] rfl (fun w42_ M42=>?_);replace zad:=zwb M42;replace OCN:=zhd (M42.o.owns OCN.o (fun e=>by have q:=(OCN.o.lt _ e).1; omega));go_wp2
      replace zab:=zwl M42 zab zaw;replace OC:=zhd (M42.o.owns OC.o (zj9 ztn.o));replace EW:=zwe M42 EW zaZ;go_roundw
      case rel =>
       refine ⟨k+1,_,by omega,by go_num,fun j x' hj hx'=>?_,zab.o,zad.o,OC.o,OCN.o,EW.o⟩;by_cases hjk:j=k
       ·subst hjk;have hx2:l[j]?=some x':=hx';rw [HX.o] at hx2;cases hx2
        refine ⟨by have:=H8.o; omega,fun y hy=>?_⟩;obtain ⟨q,hq⟩:=List.mem_iff_getElem?.1 hy;exact HALL.o q y (List.getElem?_eq_some_iff.1 hq).1 hq
       ·exact HOK.o j x' (by omega) hx'
      case measure=>simp [intOf]; omega
  ·have hkl:k=l.length:=by omega
   subst hkl
   have hrl:za8 l:=⟨by have:=H3.o; omega,fun c hc=>by
    obtain ⟨j,hj⟩:=List.mem_iff_getElem?.1 hc;exact HOK.o j c (List.getElem?_eq_some_iff.1 hj).1 hj⟩
   have HRL:=zhd hrl;clear hrl;go_wp2_with (with_reducible refine zT ?_)
   refine zah rfl 44 (.tmp 4) rfl b1 rfl zad zaS zaG (fun v48 H_v48=>?_);go_wp2_with (with_reducible refine zT ?_)
   refine zac rfl 44 (.tmp 2) (.tmp 48) rfl b0 rfl _ (zcv H_v48) zab rfl zaG rfl (fun w41_ M41=>?_);replace zab:=zwb M41;replace OCL:=zhd (M41.o.owns OCL.o (fun e=>by have q:=(OCL.o.lt _ e).1; have q2:=zaw.o; omega));go_wp2
   have z0:=zaq (P:=Tryz.prog) 44 zab.o zaS (by kernel_rfl);refine bodyPost_ret (by simp [results,Tryz.results12,asAddr,z0]; rfl) rfl ?_;have hocl:=OCL.o;rw [List.take_of_length_le (by rw [HCL.o]; exact Nat.le_refl _)] at hocl;replace EW:=zwe M41 EW zbm
   have hev:Rd A (fun w=>zdq 6 zcC w (zeO cvs) (l.map zbO)) w41_:=(HE.o.ext EW.o).imp fun w hw=>zrn HCL.o (fun k x cv hx hcv=>by
    have hk:k < css.length:=by rw [hw.1]; exact (List.getElem?_eq_some_iff.1 hx).1
    have hc:css[k]?=some css[k]:=List.getElem?_eq_getElem hk;obtain ⟨_,cv',h7,h8⟩:=hw.2 k _ x hc hx;have h9:=zc9 (by decide) hw.sizes hc (j:=0) (u:=cv') (by rw [h7]; rfl);rw [Nat.mul_one,Nat.add_zero,HCV.o,hcv] at h9;cases h9
    exact h8)
   have hcl:=zfA (A:=fun k=>A k∨w.heap.size<=k) (fun k h _=>.inr (by have q:=zaZ.o; omega)) (hev.widen fun k _ h=>.inl h) hocl (by decide);replace OC:=zhd (M41.o.owns OC.o (zem zto.o));have hci:=(zeb OC.o).widen (B:=fun k=>A k∨w.heap.size<=k) (fun k _ h=>.inr (by have q:=ztA.o; omega));refine ⟨_,rfl,EW.o,(RdM.mc (m:=za1 l) (A:=fun k=>A k∨w.heap.size<=k) ⟨hci,Rd.all fun w=>zbu w,Rd.all fun w=>zas.nil w,Rd.all fun w=>zas.nil w,Rd.all fun w=>zas.nil w,Rd.all fun w=>zbu w,hcl⟩).imp fun w h=>⟨_,_,rfl,.inl ⟨rfl,HRL.o,h⟩,(zeZ HRL.o).symm⟩⟩

theorem znN {l:List (List Cl)} {r:Value} {A:Nat->Prop} {w:World} (h:Rd A (zpU l r) w):∃ (cs:List Value) (e:Int),r=.tuple #[.agg cs.toArray,I e]/\((e=0/\za8 l/\Rd A (fun w=>zc1 w cs (za1 l)) w)∨(cs=zjg/\e≠0/\¬ za8 l)):=by
 obtain ⟨cs,e,e1,h1,-⟩:=h.o
 refine ⟨cs,e,e1,?_⟩
 rcases h1 with ⟨h2,h3,_⟩ | h2
 ·refine .inl ⟨h2,h3,h.imp fun w' hw=>?_⟩
  obtain ⟨cs2,e2,e3,h4,-⟩:=hw
  rw [e1] at e3
  have:cs=cs2/\e=e2:=by simpa using e3
  obtain ⟨rfl,rfl⟩:=this
  rcases h4 with ⟨_,_,h5⟩ | ⟨_,_,h5⟩
  ·exact h5
  ·exact absurd h3 h5
 ·exact .inr h2

theorem zrH {l:List (List Cl)} {r:Value} {A:Nat->Prop} {w:World} (h:Rd A (zpU l r) w):∃ (cs:List Value),r=.tuple #[.agg cs.toArray,I (zfa l)]/\((zfa l=0/\za8 l/\Rd A (fun w=>zc1 w cs (za1 l)) w)∨(cs=zjg/\zfa l≠0/\¬ za8 l)):=by
 obtain ⟨_,_,e1,_,he⟩:=h.o
 obtain ⟨cs,e,e2,h2⟩:=znN h
 rw [e1] at e2
 simp at e2
 obtain ⟨rfl,rfl⟩:=e2
 subst he
 exact ⟨_,e1,h2⟩

theorem zic (v:Value) (l:List (List Cl)) (w:World) (hv:zas 1 zdI w v l) :
  Calls Tryz.prog 7 #[v] w fun e w'=>∃ b,e=.returned (.bool b)/\(b=true↔za8 l)/\Ext w w':=by
 have hrv:Rd (fun k=>k < w.heap.size) (fun w=>zas 1 zdI w v l) w:=Rd.of (zb8 zhb v l) hv;have HV:=zhd hrv;clear hrv hv;go_enter Tryz.func7,Tryz.ntmps7
 go_wp2_with fail
 refine (zeH v l w _ HV.o).to fun r w1 e1 hr=>?_;obtain ⟨cs,e,rfl,hcs⟩:=znN hr;clear hr;have EW:=zhd e1;clear e1;rcases hcs with ⟨rfl,hrl,hcs⟩ | ⟨rfl,hne,hrl⟩
 ·obtain ⟨c',u',a',p',box',plan',cl',rfl,hm⟩:=zbX hcs;obtain ⟨ca',cc',ua',uc',aa',ac',pa',pc',xa',xc',la',lc',ka',kc',rfl,rfl,rfl,rfl,rfl,rfl,rfl⟩:=hm.slices;have HRL:=zhd hrl;clear hcs hm hrl;have Q0:Hid (w.heap.size<=w1.heap.size):=EW.o.size;go_wp2_with (with_reducible refine zT ?_)
  refine zae rfl 44 zM (by kernel_rfl) (fun b0 w1_ M1=>?_);have zab:=zmb M1;have zbm:Hid (w.heap.size<=b0):=by unfold Hid; have q:=M1.o.at_; have q2:=Q0.o; omega
  go_wp2_with (with_reducible refine zT ?_)
  refine zac rfl 44 (.tmp 3) (.tmp 8) rfl b0 rfl [.slice ca' (za1 l).store.cells.length cc',.slice ua' (za1 l).store.undo.length uc',.slice aa' (za1 l).store.answers.length ac',.slice pa' (za1 l).store.past.length pc',I (za1 l).server.gen,.slice xa' (za1 l).server.box.length xc',.bool (za1 l).server.busy,I (za1 l).server.now.client,I (za1 l).server.now.token,I (za1 l).server.now.call.kind,I (za1 l).server.now.call.name,I (za1 l).server.now.call.other,I (za1 l).server.now.call.n,.slice la' (za1 l).server.plan.length lc',I (za1 l).server.says.err,I (za1 l).server.says.n,.bool (za1 l).up,I (za1 l).pause,I (za1 l).falls,.slice ka' (za1 l).clients.length kc'] (rfl) zab rfl zaG rfl (fun w2_ M2=>?_);replace zab:=zwb M2;go_wp2
  go_ret
  replace EW:=zwe M2 (zet EW M1) zbm;exact ⟨_,rfl,⟨fun _=>HRL.o,fun _=>rfl⟩,EW.o⟩
 ·have hb:(e == 0)=false:=by simpa using hne
  have HRL:=zhd hrl;clear hne hrl;unfold zjg;have Q0:Hid (w.heap.size<=w1.heap.size):=EW.o.size;go_wp2_with (with_reducible refine zT ?_)
  refine zae rfl 44 zM (by kernel_rfl) (fun b0 w1_ M1=>?_);have zab:=zmb M1;have zbm:Hid (w.heap.size<=b0):=by unfold Hid; have q:=M1.o.at_; have q2:=Q0.o; omega
  go_wp2_with (with_reducible refine zT ?_)
  refine zac rfl 44 (.tmp 3) (.tmp 8) rfl b0 rfl [.slice none 0 0,.slice none 0 0,.slice none 0 0,.slice none 0 0,I 0,.slice none 0 0,.bool false,I 0,I 0,I 0,I 0,I 0,I 0,.slice none 0 0,I 0,I 0,.bool false,I 0,I 0,.slice none 0 0] (rfl) zab rfl zaG rfl (fun w2_ M2=>?_);replace zab:=zwb M2;go_wp2
  go_ret
  replace EW:=zwe M2 (zet EW M1) zbm;exact ⟨_,rfl,⟨(fun h=>by cases h),fun h=>absurd h HRL.o⟩,EW.o⟩

open Go.RowKit Go.Mk

theorem Tryz.infoErrno:(Tryz.prog.info? 37).map (fun i=>(i.zero,i.size,i.bytes))=some (some (.int .i64 0),1,8):=by kernel_rfl

def zda (m:Mc):List (Int×Int)->List Int
 | []=>[]
 | p::l=>(doM m p.1 p.2).2::zda (doM m p.1 p.2).1 l
theorem playE_snoc (p:Int×Int):∀ (l:List (Int×Int)) (m:Mc),zda m (l++[p])=zda m l++[(doM (zcu m l) p.1 p.2).2]
 | [],m=>rfl
 | q::l,m=>by
  show (doM m q.1 q.2).2::zda (doM m q.1 q.2).1 (l++[p])=_
  rw [playE_snoc p l]
  rfl
theorem playM_snoc (p:Int×Int) (l:List (Int×Int)) (m:Mc):zcu m (l++[p])=(doM (zcu m l) p.1 p.2).1:=by
 unfold zcu
 rw [List.foldl_append]
 rfl
theorem zkX {l:List (Int×Int)} {k:Nat} (h:k < l.length):l.take (k+1)=l.take k++[l.getD k (0,0)]:=by
 rw [List.take_add_one,List.getElem?_eq_getElem h,List.getD_eq_getElem?_getD,List.getElem?_eq_getElem h]
 rfl
theorem zri {l:List (List Cl)} (hl:za8 l) (steps:List (Int×Int)) {k:Nat} (hk:k<=400):Fit (zcu (za1 l) (steps.take k)):=by
 obtain ⟨ks,bz,h⟩:=zje hl (steps.take k)
 have hs:=zkT (zjk l) (steps.take k)
 exact zlA hl h (hs.mono (j:=400) (by rw [List.length_take]; omega)) (by omega)

def zqZ (l:List (List Cl)) (steps:List (Int×Int)) (r:Value) (w:World):Prop:=∃ (cs:List Value) (es:Value),r=.tuple #[.agg cs.toArray,es]/\zc1 w cs (zcu (za1 l) (steps.take 400))/\zby w es (zda (za1 l) (steps.take 400))
theorem zmk {l:List (List Cl)} {steps:List (Int×Int)} {r:Value} {A:Nat->Prop} {w:World} (h:Rd A (zqZ l steps r) w):∃ (cs:List Value) (es:Value),r=.tuple #[.agg cs.toArray,es]/\Rd A (fun w=>zc1 w cs (zcu (za1 l) (steps.take 400))) w/\Rd A (fun w=>zby w es (zda (za1 l) (steps.take 400))) w:=by
 obtain ⟨cs,es,e1,h1,h2⟩:=h.o
 have key:∀ w',zqZ l steps r w'->zc1 w' cs (zcu (za1 l) (steps.take 400))/\zby w' es (zda (za1 l) (steps.take 400)):=fun w' hw=>by
  obtain ⟨cs',es',e1',h3,h4⟩:=hw
  rw [e1] at e1'
  simp only [Value.tuple.injEq,Array.mk.injEq,List.cons.injEq,Value.agg.injEq,and_true] at e1'
  obtain ⟨q1,q2⟩:=e1'
  have q1:cs=cs':=by simpa using q1
  subst q1 q2
  exact ⟨h3,h4⟩
 exact ⟨cs,es,e1,h.imp fun w' hw=>(key w' hw).1,h.imp fun w' hw=>(key w' hw).2⟩

theorem zfy (v sv:Value) (l:List (List Cl)) (steps:List (Int×Int)) (w:World) (A:Nat->Prop) (hl:za8 l) (hv:Rd A (fun w=>zas 1 zdI w v l) w) (hs:zax w sv steps) :
  zaK Tryz.prog 8 #[v,sv] w A (zqZ l steps):=by
 unfold zaK;obtain ⟨sa0,scap,rfl,s1,s2,s3⟩:=hs.form;unfold maxLen at s2;have HS3:=zhd s3;have HL:=zhd hl;have HV:=zhd (hv.widen (B:=fun k=>A k/\k < w.heap.size) (fun k hk h=>⟨h,hk⟩));clear hv hs s3 hl;obtain ⟨va,vcap,rfl⟩:=zag HV.o.o;obtain ⟨j0,hj,hy0,hy1,hy2⟩:=info_parts Tryz.infoErrno;have HJ:=zhd hj;clear hj;have EW:=zhd (Ext.refl w);go_enter Tryz.func8,Tryz.ntmps8
 go_wp2_with (with_reducible refine zT ?_)
 refine zae rfl 44 zM (by kernel_rfl) (fun b0 w1_ M1=>?_);have zab:=zmb M1;have zbm:Hid (w.heap.size<=b0):=by unfold Hid; have q:=M1.o.at_; omega
 go_wp2_with fail
 refine (zeH _ l w1_ (fun k=>A k/\k < w.heap.size) (HV.o.ext M1.o.ext)).to fun r w2 e2 hr=>?_;obtain ⟨cs,e,rfl,hc⟩:=znN hr;replace EW:=zet EW M1;rcases hc with ⟨rfl,-,hm⟩ | ⟨-,-,hno⟩
 case inr=>exact absurd HL.o hno
 obtain ⟨c,u,a,p,box,plan,cl,rfl,hM⟩:=zbX hm;obtain ⟨ca,cc,ua,uc,aa,ac,pa,pc,xa,xc,la,lc,ka,kc,rfl,rfl,rfl,rfl,rfl,rfl,rfl⟩:=hM.slices;have H:=zhd hM;clear hM hm hr;have e2':=zhd e2;replace zab:=zbx zab e2;replace EW:=zhd (EW.o.trans e2);clear e2;go_wp2_with (with_reducible refine zT ?_)
 refine zae rfl 44 zM (by kernel_rfl) (fun b1 w2_ M2=>?_);have zaw:=zld zab M2;have zad:=zmb M2;have zaZ:Hid (w.heap.size<=b1):=by unfold Hid; have q:=zaw.o; have q2:=zbm.o; omega
 obtain ⟨E,HE⟩:∃ E:Nat->Prop,Hid (∀ k,E k↔(((A k/\k < w.heap.size)∨w1_.heap.size<=k)/\k < b1)):=⟨_,fun _=>Iff.rfl⟩;replace H:=zhd ((H.o.widen (B:=E) (fun k hk h=>(HE.o k).2 ⟨h,by have q:=M2.o.at_; omega⟩)).ext M2.o.ext);have zaF:Hid (¬ E b0):=fun h=>by have q:=((HE.o _).1 h).1; have q1:=M1.o.at_; have q2:=M1.o.size; omega
 have zat:Hid (¬ E b1):=fun h=>by have q:=((HE.o _).1 h).2; omega
 go_wp2_with (with_reducible refine zT ?_)
 refine zac rfl 44 (.tmp 6) (.tmp 16) rfl b1 rfl [.slice ca (za1 l).store.cells.length cc,.slice ua (za1 l).store.undo.length uc,.slice aa (za1 l).store.answers.length ac,.slice pa (za1 l).store.past.length pc,I (za1 l).server.gen,.slice xa (za1 l).server.box.length xc,.bool (za1 l).server.busy,I (za1 l).server.now.client,I (za1 l).server.now.token,I (za1 l).server.now.call.kind,I (za1 l).server.now.call.name,I (za1 l).server.now.call.other,I (za1 l).server.now.call.n,.slice la (za1 l).server.plan.length lc,I (za1 l).server.says.err,I (za1 l).server.says.n,.bool (za1 l).up,I (za1 l).pause,I (za1 l).falls,.slice ka (za1 l).clients.length kc] (rfl) zad rfl zaG rfl (fun w3_ M3=>?_);replace zad:=zwb M3;go_wp2_with fail
 replace zab:=zwl M3 (zmo M2 zab) zaw;replace EW:=zwe M3 (zet EW M2) zaZ;replace H:=zHw M3 H zat;go_loopw [8,20] (fun es i wr=>∃ (k:Nat) (E:Nat->Prop) (mk:Mc) (c u a p box plan cl:Value),k<=steps.length/\k<=400/\i=I k/\mk=zcu (za1 l) (steps.take k)/\RdM E wr mk c u a p box plan cl/\(∀ j,E j->j < wr.heap.size/\(A j∨w.heap.size<=j))/\¬ E b0/\¬ E b1/\(∀ g,es.ownBlock=some g->¬ E g)/\wr.heap[b0]?=some (.cells zM 44 (0,0))/\wr.heap[b1]?=some (.cells (zaH mk c u a p box plan cl).toArray 44 (0,0))/\wr.ownsRow (b1+1) 37 1 es k ((zda (za1 l) (steps.take k)).map I)/\Ext w wr) (fun _ i _=>steps.length - (intOf i).toNat)
 case atStart=>exact ⟨0,E,za1 l,_,_,_,_,_,_,_,Nat.zero_le _,Nat.zero_le _,rfl,rfl,H.o,fun j hj=>⟨by have q:=(HE.o j).1 hj; have q2:=(zlt zad); omega,by rcases ((HE.o j).1 hj).1 with h | h; exact .inl h.1; exact .inr (by have q:=M1.o.ext.size; omega)⟩,zaF.o,zat.o,fun g hg=>(by cases hg),zab.o,zad.o,World.ownsRow_nil _ _ _ _,EW.o⟩
 case round =>
  obtain ⟨k,E',mk,c',u',a',p',box',plan',cl',hk,h4,rfl,hmk,hm,hE,n0,n1,hes,hb0,hb1,ho,hex⟩:=hrel;clear zab zad H EW zaF zat HE e2';obtain ⟨ca,cc,ua,uc,aa,ac,pa,pc,xa,xc,la,lc,ka,kc,rfl,rfl,rfl,rfl,rfl,rfl,rfl⟩:=hm.slices;obtain ⟨ea,ecap,rfl⟩:=zdv ho;have HM:=zhd hmk;have H:=zhd hm;have HE:=zhd hE;have zaF:=zhd n0;have zat:=zhd n1;have HES:=zhd hes;have zab:=zhd hb0;have zad:Hid (wr.heap[b1]?=some (.cells #[.slice ca mk.store.cells.length cc,.slice ua mk.store.undo.length uc,.slice aa mk.store.answers.length ac,.slice pa mk.store.past.length pc,I mk.server.gen,.slice xa mk.server.box.length xc,.bool mk.server.busy,I mk.server.now.client,I mk.server.now.token,I mk.server.now.call.kind,I mk.server.now.call.name,I mk.server.now.call.other,I mk.server.now.call.n,.slice la mk.server.plan.length lc,I mk.server.says.err,I mk.server.says.n,.bool mk.up,I mk.pause,I mk.falls,.slice ka mk.clients.length kc] 44 (0,0))):=hb1;have OE:=zhd ho;have EW:=zhd hex;clear hmk hm hE n0 n1 hes hb0 hb1 ho hex;generalize hEr:(E':Nat->Prop)=E at *;clear hEr E';by_cases hlt:k < steps.length
  ·by_cases h400:k=400
   ·subst h400;obtain ⟨sb,so,rfl,c0,c1⟩:=HS3.o 400 hlt;replace c0:=EW.o.cell c0;replace c1:=EW.o.cell c1;generalize steps.getD 400 (0,0)=pp at c0 c1;obtain ⟨kd,sn⟩:=pp;simp only [] at c0 c1;have OE0:=OE;go_wp2_with (with_reducible refine zT ?_)
    clear c0 c1;refine zae rfl 49 #[I 0,I 0] (by kernel_rfl) (fun b2 w41_ M41=>?_);have zaU:=zld zab M41;have zaI:=zld zad M41;have zak:=zmb M41;have zaO:Hid (¬ E b2):=fun h=>by have q:=(HE.o _ h).1; have q1:=M41.o.at_; omega
    have zbp:Hid (w.heap.size<=b2):=by unfold Hid; have q:=zaI.o; have q2:=zaZ.o; omega
    have OEN:Hid ((Value.slice ea 400 ecap).ownBlock≠some b2):=fun e=>by have q:=(OE0.o.lt _ e).2; have q1:=M41.o.at_; omega
    go_wp2_with (with_reducible refine zT ?_)
    refine zac rfl 49 (.tmp 10) (.tmp 24) rfl b2 rfl [I kd,I sn] (rfl) zak rfl zqV rfl (fun w42_ M42=>?_);replace zak:=zwb M42;go_wp2_with (with_reducible refine zT ?_)
    replace zad:=zwl M42 (zmo M41 zad) zaI;refine zah rfl 44 (.tmp 6) rfl b1 rfl zad zaS zaG (fun v39 H_v39=>?_);go_wp2_with (with_reducible refine zT ?_)
    replace zab:=zwl M42 (zmo M41 zab) zaU;refine zac rfl 44 (.tmp 4) (.tmp 39) rfl b0 rfl _ (zcv H_v39) zab rfl zaG rfl (fun w43_ M43=>?_);replace zab:=zwb M43;replace OE:=zhd (M42.o.owns (zhd (zam OE.o M41.o.ext)).o OEN.o);replace OE:=zhd (M43.o.owns OE.o (fun e=>by have q:=(OE.o.lt _ e).1; have q2:=zaw.o; omega));go_wp2
    have z0:=zaq (P:=Tryz.prog) 44 zab.o zaS (by kernel_rfl);refine bodyPost_ret (by simp [results,Tryz.results8,asAddr,z0]; rfl) rfl ?_;have hmm:=HM.o;have hoe:=OE.o;replace H:=zHw M43 (zHw M42 (zhd (H.o.ext M41.o.ext)) zaO) zaF;have r1:=(H.o.widen (B:=fun k=>A k∨w.heap.size<=k) (fun k _ h=>(HE.o k h).2)).mc;rw [hmm] at r1;have r2:=(zdV hoe).widen (B:=fun k=>A k∨w.heap.size<=k) (fun k _ h=>.inr (by have q:=zaZ.o; omega));have hlen:(zda (za1 l) (steps.take 400)).length=400:=by have q:=hoe.1; simpa using q
    replace EW:=zwe M43 (zwe M42 (zet EW M41) zbp) zbm;refine ⟨_,rfl,EW.o,(r1.and r2).imp fun w' h=>⟨_,_,(by rw [<- hmm]),h.1,?_⟩⟩;have h2:=h.2;unfold zby;rw [hlen];exact h2
   ·have h400i:((k:Int) == 400)=false:=by simpa using (fun h:(k:Int)=400=>h400 (by omega))
    have hk4:k < 400:=by omega
    have HT:=zhd (zkX hlt);have FIT:=zhd (zri HL.o steps h4);rw [<- HM.o] at FIT;obtain ⟨sb,so,rfl,c0,c1⟩:=HS3.o k hlt;replace c0:=EW.o.cell c0;replace c1:=EW.o.cell c1;generalize steps.getD k (0,0)=pp at *;obtain ⟨kd,sn⟩:=pp;simp only [] at c0 c1;have OE0:=OE;go_wp2_with (with_reducible refine zT ?_)
    clear c0 c1;refine zae rfl 49 #[I 0,I 0] (by kernel_rfl) (fun b2 w61_ M61=>?_);have zaU:=zld zab M61;have zaI:=zld zad M61;have zak:=zmb M61;have B2AT:Hid (b2=wr.heap.size):=M61.o.at_;have zaO:Hid (¬ E b2):=fun h=>by have q:=(HE.o _ h).1; have q1:=M61.o.at_; omega
    have zbp:Hid (w.heap.size<=b2):=by unfold Hid; have q:=zaI.o; have q2:=zaZ.o; omega
    have OEN:Hid ((Value.slice ea k ecap).ownBlock≠some b2):=fun e=>by have q:=(OE0.o.lt _ e).2; have q1:=M61.o.at_; omega
    go_wp2_with (with_reducible refine zT ?_)
    refine zac rfl 49 (.tmp 10) (.tmp 24) rfl b2 rfl [I kd,I sn] (rfl) zak rfl zqV rfl (fun w62_ M62=>?_);replace zak:=zwb M62;clear h400;go_wp2_with (with_reducible refine zT ?_)
    clear h400i;replace zad:=zwl M62 (zmo M61 zad) zaI;refine zah rfl 44 (.tmp 6) rfl b1 rfl zad zaS zaG (fun v28 H_v28=>?_);have q0:=zaa (i:=0) zak.o rfl;have q1:=zaa (i:=1) zak.o rfl;go_wp2_with fail
    clear q0 q1;rw [show _=Value.agg #[.slice ca mk.store.cells.length cc,.slice ua mk.store.undo.length uc,.slice aa mk.store.answers.length ac,.slice pa mk.store.past.length pc,I mk.server.gen,.slice xa mk.server.box.length xc,.bool mk.server.busy,I mk.server.now.client,I mk.server.now.token,I mk.server.now.call.kind,I mk.server.now.call.name,I mk.server.now.call.other,I mk.server.now.call.n,.slice la mk.server.plan.length lc,I mk.server.says.err,I mk.server.says.n,.bool mk.up,I mk.pause,I mk.falls,.slice ka mk.clients.length kc] from H_v28.o];replace H:=zHw M62 (zhd (H.o.ext M61.o.ext)) zaO;refine (zgA mk _ _ _ _ _ _ _ kd sn w62_ E H.o FIT.o).to fun r w9 e9 hr=>?_;obtain ⟨m2,er,hD⟩:∃ x y,doM mk kd sn=(x,y):=⟨_,_,rfl⟩;rw [hD] at hr;have HD:=zhd hD;clear hD H_v28;simp only [] at hr;obtain ⟨cs,rfl,hcs⟩:=zdC hr;obtain ⟨c2,u2,a2,p2,box2,plan2,cl2,rfl,hm2⟩:=zbX hcs;obtain ⟨ca2,cc2,ua2,uc2,aa2,ac2,pa2,pc2,xa2,xc2,la2,lc2,ka2,kc2,rfl,rfl,rfl,rfl,rfl,rfl,rfl⟩:=hm2.slices;clear hcs hr H;have H:=zhd hm2;clear hm2;have SC:Hid (b2 < w62_.heap.size):=(zlt zak);have SC9:Hid (w62_.heap.size<=w9.heap.size):=e9.size;have OES:Hid (∀ g,(Value.slice ea k ecap).ownBlock=some g->g < b2):=fun g hg=>by have q:=(OE0.o.lt g hg).2; have q1:=(zlt zak); have q2:=B2AT.o; omega
    replace zab:=zbx (zwl M62 (zmo M61 zab) zaU) e9;replace OE:=zhd (zam (zhd (M62.o.owns (zhd (zam OE.o M61.o.ext)).o OEN.o)).o e9);replace EW:=zhd ((zwe M62 (zet EW M61) zbp).o.trans e9);replace zad:=zbx zad e9;replace zak:=zbx zak e9;clear e9;go_wp2_with (with_reducible refine zT ?_)
    refine zae rfl 44 zM (by kernel_rfl) (fun b3 w63_ M63=>?_);have za7:=zld zab M63;have zaY:=zld zad M63;have zbn:=zld zak M63;have zav:=zmb M63;obtain ⟨E2,HE2⟩:∃ X:Nat->Prop,Hid (∀ k,X k↔((E k∨w62_.heap.size<=k)/\k < b3)):=⟨_,fun _=>Iff.rfl⟩;replace H:=zhd ((H.o.widen (B:=E2) (fun k hk h=>(HE2.o k).2 ⟨h,by have q:=M63.o.at_; omega⟩)).ext M63.o.ext);have za9:Hid (¬ E2 b3):=fun h=>by have q:=((HE2.o _).1 h).2; omega
    replace zat:Hid (¬ E2 b1):=fun h=>by rcases ((HE2.o _).1 h).1 with q | q; exact zat.o q; exact absurd q (by have q1:=zaI.o; have q2:=SC.o; omega)
    replace zaF:Hid (¬ E2 b0):=fun h=>by rcases ((HE2.o _).1 h).1 with q | q; exact zaF.o q; exact absurd q (by have q1:=zaw.o; have q3:=zaI.o; have q2:=SC.o; omega)
    have HG:Hid (∀ g,(Value.slice ea k ecap).ownBlock=some g->¬ E2 g):=fun g hg h=>by rcases ((HE2.o _).1 h).1 with q | q; exact HES.o g hg q; exact absurd q (by have q1:=OES.o g hg; have q2:=SC.o; omega)
    have HIN:Hid (∀ j,E2 j->j < b3/\(A j∨w.heap.size<=j)):=fun j h=>⟨((HE2.o _).1 h).2,by rcases ((HE2.o _).1 h).1 with q | q; exact (HE.o j q).2; exact .inr (by have q1:=zbp.o; have q2:=SC.o; omega)⟩;have zcN:Hid (w.heap.size<=b3):=by unfold Hid; have q:=zaY.o; have q2:=zaZ.o; omega
    clear HE2 HES HE zaO;go_wp2_with (with_reducible refine zT ?_)
    refine zac rfl 44 (.tmp 11) (.tmp 31) rfl b3 rfl [.slice ca2 m2.store.cells.length cc2,.slice ua2 m2.store.undo.length uc2,.slice aa2 m2.store.answers.length ac2,.slice pa2 m2.store.past.length pc2,I m2.server.gen,.slice xa2 m2.server.box.length xc2,.bool m2.server.busy,I m2.server.now.client,I m2.server.now.token,I m2.server.now.call.kind,I m2.server.now.call.name,I m2.server.now.call.other,I m2.server.now.call.n,.slice la2 m2.server.plan.length lc2,I m2.server.says.err,I m2.server.says.n,.bool m2.up,I m2.pause,I m2.falls,.slice ka2 m2.clients.length kc2] (rfl) zav rfl zaG rfl (fun w64_ M64=>?_);replace zav:=zwb M64;replace OE:=zhd (zam OE.o M63.o.ext);replace OE:=zhd (M64.o.owns OE.o (fun e=>by have q:=OES.o _ e; have q2:=zbn.o; omega));go_wp2_with (with_reducible refine zT ?_)
    refine zah rfl 44 (.tmp 11) rfl b3 rfl zav zaS zaG (fun v33 H_v33=>?_);go_wp2_with (with_reducible refine zT ?_)
    replace zad:=zwl M64 (zmo M63 zad) zaY;refine zac rfl 44 (.tmp 6) (.tmp 33) rfl b1 rfl _ (zcv H_v33) zad rfl zaG rfl (fun w65_ M65=>?_);replace zad:=zwb M65;replace OE:=zhd (M65.o.owns OE.o (fun e=>by have q:=(OE.o.lt _ e).1; omega));go_wp2_with (with_reducible refine zT ?_)
    unfold Hid;refine zcw rfl 37 1 #[I er] (by kernel_rfl) (fun bl w66_ M66=>?_);replace zab:=zwl M65 (zwl M64 (zmo M63 zab) za7) zaw;replace zak:=zwg M65 (zwl M64 (zmo M63 zak) zbn) zaI;replace zav:=zwg M65 zav zaY;have zqw:=zmb M66;go_wp2_with (first | (at_builtin; refine zbG ?_) | (with_reducible refine zT ?_))
    unfold Hid;have hlit:=Row.of_owns (zdi (base:=0) (size:=1) (n:=1) M66.o (Nat.zero_le _) rfl (by decide));replace zad:=zmo M66 zad;have hszl:b1+1<=w66_.heap.size:=(zlt zad);replace zav:=zmo M66 zav;have SB3:Hid (b3 < w66_.heap.size):=(zlt zav);replace OE:=zhd (zam OE.o M66.o.ext);refine zeG rfl (.tmp 34) (.tmp 36) 45 rfl (b1+1) 37 j0 (.int .i64 0) 1 8 zti HJ.o hy0 hy1 hy2 rfl (by decide) (.slice ea k ecap) k _ rfl OE.o _ rfl 1 _ hlit (zbC rfl) (by omega) (by decide) hszl ?_;intro v37 wq ho hg hfr;clear hlit hszl;have hlo:∀ b,b<=b1->(Value.slice ea k ecap).ownBlock≠some b:=fun b hb e=>by have:=(OE.o.lt b e).1; omega
    replace zab:=zmo M66 zab;have kb0:=zfF hg zab.o (hlo b0 (Nat.le_of_lt zaw.o));have kb1:=zfF hg zad.o (hlo b1 (Nat.le_refl _));replace EW:=zet (zwe M65 (zwe M64 (zet EW M63) zcN) zaZ) M66;have kew:Ext w wq:=EW.o.grown hg (fun b e=>by have q:=(OE.o.lt b e).1; have q2:=zaZ.o; omega);replace H:=zhd ((zHw M65 (zHw M64 H za9) zat).o.ext M66.o.ext);have kh:RdM E2 wq m2 _ _ _ _ _ _ _:=⟨H.o.cells.grown hg HG.o,H.o.undo.grown hg HG.o,H.o.answers.grown hg HG.o,H.o.past.grown hg HG.o,H.o.box.grown hg HG.o,H.o.plan.grown hg HG.o,H.o.clients.grown hg HG.o⟩;have ksz:b3 < wq.heap.size:=Nat.lt_of_lt_of_le SB3.o hg.size
    have KF:Hid (∀ g,v37.ownBlock=some g->¬ E2 g):=fun g hgv h=>by
     rcases hfr with hf | hf
     ·rw [hf] at hgv;exact HG.o g hgv h
     ·have q:=hf g hgv;have q2:=(HIN.o g h).1;have q3:=SB3.o;omega
    clear zab zad zak zav zqw EW H hg hfr hlo OE0;have K0:=zhd kb0;have K1:=zhd kb1;have KE:=zhd kew;have KH:=zhd kh;have KO:=zhd ho;have KS:=zhd ksz;clear kb0 kb1 kew kh ho ksz OE;obtain ⟨na,ncap,rfl⟩:=zdv KO.o;go_wp2
    go_roundw
    case rel =>
     have hp:m2=zcu (za1 l) (steps.take (k+1)):=by
      rw [HT.o,playM_snoc,<- HM.o];exact (congrArg Prod.fst HD.o).symm
     have he:zda (za1 l) (steps.take (k+1))=zda (za1 l) (steps.take k)++[er]:=by
      rw [HT.o,playE_snoc,<- HM.o];have q:=congrArg Prod.snd HD.o;simp only [] at q;rw [q]
     refine ⟨k+1,E2,m2,_,_,_,_,_,_,_,by omega,by omega,by go_num,hp,KH.o,fun j hj=>⟨by have q:=(HIN.o j hj).1; have q2:=KS.o; omega,(HIN.o j hj).2⟩,zaF.o,zat.o,KF.o,K0.o,K1.o,?_,KE.o⟩;rw [he,List.map_append];exact KO.o
    case measure=>simp [intOf]; omega
  ·have hkl:k=steps.length:=by omega
   subst hkl;go_wp2_with (with_reducible refine zT ?_)
   refine zah rfl 44 (.tmp 6) rfl b1 rfl zad zaS zaG (fun v39 H_v39=>?_);go_wp2_with (with_reducible refine zT ?_)
   refine zac rfl 44 (.tmp 4) (.tmp 39) rfl b0 rfl _ (zcv H_v39) zab rfl zaG rfl (fun w41_ M41=>?_);replace zab:=zwb M41;replace OE:=zhd (M41.o.owns OE.o (fun e=>by have q:=(OE.o.lt _ e).1; have q2:=zaw.o; omega));go_wp2
   have z0:=zaq (P:=Tryz.prog) 44 zab.o zaS (by kernel_rfl);refine bodyPost_ret (by simp [results,Tryz.results8,asAddr,z0]; rfl) rfl ?_;have ht:steps.take steps.length=steps.take 400:=by rw [List.take_length,List.take_of_length_le h4]
   have hmm:=HM.o;rw [ht] at hmm;have hoe:=OE.o;rw [ht] at hoe;replace H:=zHw M41 H zaF;have r1:=(H.o.widen (B:=fun k=>A k∨w.heap.size<=k) (fun k _ h=>(HE.o k h).2)).mc;rw [hmm] at r1;have r2:=(zdV hoe).widen (B:=fun k=>A k∨w.heap.size<=k) (fun k _ h=>.inr (by have q:=zaZ.o; omega));have hlen:(zda (za1 l) (steps.take 400)).length=steps.length:=by have q:=hoe.1; simpa using q
   replace EW:=zwe M41 EW zbm;refine ⟨_,rfl,EW.o,(r1.and r2).imp fun w' h=>⟨_,_,(by rw [<- hmm]),h.1,?_⟩⟩;have h2:=h.2;unfold zby;rw [hlen];exact h2

open Go.RowKit Go.Mk

def zov:Prop:=∀ (v:Value) (l:List (List Cl)) (w:World) (A:Nat->Prop),Rd A (fun w=>zas 1 zdI w v l) w->zaK Tryz.prog 19 #[v] w A (zpU l)
def zrz:Prop:=∀ (l:List (List Cl)) (m:Mc) (k:Nat) (c u a p box plan cl:Value) (kind n:Int) (w:World) (A:Nat->Prop),RdM A w m c u a p box plan cl->Gd l m k->k<=500 ->
 zaK Tryz.prog 9 #[.agg (zaH m c u a p box plan cl).toArray,.agg #[I kind,I n]] w A (fun r w'=>zgz zc1 (doM m kind n).1 (doM m kind n).2 r w')

def zeroMc:Mc:=⟨⟨[],[],[],[]⟩,zbM 0 [],false,0,0,[]⟩
def znv (l:List (List Cl)):Mc:=if zfa l=0 then za1 l else zeroMc
theorem zrt {l:List (List Cl)} {r:Value} {A:Nat->Prop} {w:World} (h:Rd A (zpU l r) w):∃ c u a p box plan cl,r=.tuple #[.agg (zaH (znv l) c u a p box plan cl).toArray,I (zfa l)]/\RdM A w (znv l) c u a p box plan cl/\(zfa l=0->za8 l):=by
 obtain ⟨cs,e1,h1⟩:=zrH h
 rcases h1 with ⟨h2,h3,h4⟩ | ⟨rfl,h2,h3⟩
 ·have e:znv l=za1 l:=if_pos h2
  obtain ⟨c,u,a,p,box,plan,cl,rfl,hM⟩:=zbX h4
  rw [e]
  exact ⟨c,u,a,p,box,plan,cl,e1,hM,fun _=>h3⟩
 ·have e:znv l=zeroMc:=if_neg h2
  rw [e]
  exact ⟨.slice none 0 0,.slice none 0 0,.slice none 0 0,.slice none 0 0,.slice none 0 0,.slice none 0 0,.slice none 0 0,e1,⟨Rd.all fun w=>zin w,Rd.all fun w=>zbu w,Rd.all fun w=>zas.nil w,Rd.all fun w=>zas.nil w,Rd.all fun w=>zas.nil w,Rd.all fun w=>zbu w,Rd.all fun w=>zas.nil w⟩,fun h=>absurd h h2⟩
theorem zjf {l:List (List Cl)} {r:Value} {A:Nat->Prop} {w:World} (h:Rd A (zpU l r) w) {N:Mc} (hn:znv l=N):∃ c u a p box plan cl,r=.tuple #[.agg (zaH N c u a p box plan cl).toArray,I (zfa l)]/\RdM A w N c u a p box plan cl/\(zfa l=0->za8 l):=by
 subst hn
 exact zrt h
theorem zsh {l:List (List Cl)} {m:Mc} {k:Nat} (h:Gd l m k) (kind n:Int):Gd l (doM m kind n).1 (k+1):=by
 obtain ⟨h1,⟨ks,bz,h2⟩,h3⟩:=h
 exact ⟨h1,zjt h1 h2 kind n,zmc h3 kind n⟩
theorem Gd.fit {l:List (List Cl)} {m:Mc} {k:Nat} (h:Gd l m k) (hk:k<=1000):Fit m:=by
 obtain ⟨h1,⟨ks,bz,h2⟩,h3⟩:=h
 exact zlA h1 h2 h3 hk

end Go.Proofs.YtdmipnnfoolelafGreat

/- Texts of the proof, merged: N13 N14 N16. -/
import Derived.Test.YtdmipnnfoolelafKTX
import Derived.Test.YtdmipnnfoolelafKTH
import Derived.Test.YtdmipnnfoolelafKTA
import Derived.Test.YtdmipnnfoolelafKTV
set_option maxHeartbeats 4000000
set_option maxRecDepth 100000

namespace Go.Proofs.Ytdmipnnfoolelaf
open Go.RowKit Go.Mk

structure Fit (m:Mc):Prop where
 cells:m.store.cells.length=11
 undo:m.store.undo.length<=1000
 answers:m.store.answers.length<=1000
 past:m.store.past.length<=1000
 right:m.up=true->m.server.busy=false->zfy m.store.cells
 clients:m.clients.length<=1000
 each:∀ c ∈ m.clients,0<=c.at_/\c.at_<=1000000/\c.got.length<=1000/\c.box.length<=1000
 box:m.server.box.length<=1000
 falls:0<=m.falls
 gen:0<=m.server.gen/\m.server.gen<=1000000
 pause:0<=m.pause/\m.pause<=1000000

theorem zi8 (m:Mc) (c u a p box plan cl:Value) (kind n:Int) (w:World) (A:Nat->Prop) (h:RdM A w m c u a p box plan cl) (hf:Fit m) :
  zaU Try.prog 20 #[.agg (zaO m c u a p box plan cl).toArray,.agg #[I kind,I n]] w A (fun r w'=>zhc zec (doM m kind n).1 (doM m kind n).2 r w'):=by
 have hc:=hf.cells
 by_cases h1:kind=1
 ·subst h1
  by_cases hn:n < 0∨(m.clients.length:Int)<=n
  ·exact zgS m c u a p box plan cl n w A h hn
  ·exact ziz m c u a p box plan cl n w A h (by omega) hf.clients (fun c hc=>⟨(hf.each c hc).1,(hf.each c hc).2.1,(hf.each c hc).2.2.1⟩) hf.box
 by_cases h2:kind=2
 ·subst h2
  exact zi0 m c u a p box plan cl n w A h (by omega) (by have:=hf.undo; omega) hf.answers (by have:=hf.past; omega) hf.right hf.clients (fun c hc=>(hf.each c hc).2.2.2)
 by_cases h3:kind=3
 ·subst h3
  exact zkC m c u a p box plan cl n w A h hf.falls
 by_cases h4:kind=4
 ·subst h4
  exact zkB m c u a p box plan cl n w A h (by omega) hf.gen hf.pause
 exact zkk m c u a p box plan cl kind n w A h h1 h2 h3 h4

open Go.RowKit Go.Mk

theorem zol {l:List (List Cl)} (hl:zbm l) {m:Mc} {ks:List Nat} {bz:Option Nat} (h:MInv l m ks bz) {k:Nat} (hs:SizeM m k) (hk:k<=1000):Fit m where
 cells:=h.cells
 undo:=Nat.le_trans hs.undo hk
 answers:=Nat.le_trans hs.answers hk
 past:=Nat.le_trans hs.past hk
 right:=fun hu hb=>by
  have h1:bz=none:=by
   have:=h.busy
   rw [hb] at this
   cases bz with
   | none=>rfl
   | some i=>cases this
  have h2:=h.right
  rw [h.clean hu h1] at h2
  exact znC h2
 clients:=by rw [h.nc]; have:=hl.1; omega
 each:=fun c hc=>by
  obtain ⟨i,hi⟩:=List.mem_iff_getElem?.1 hc
  have h1:=(h.clients i c hi).at_
  have h2:=hs.each c hc
  rw [h1]
  omega
 box:=Nat.le_trans hs.box hk
 falls:=h.falls.1
 gen:=by
  obtain ⟨g1,g2,g3⟩:=h.gens
  have hf:=h.falls
  cases hu:m.up with
  | true=>have:=g2 hu; omega
  | false=>have:=g3 hu; omega
 pause:=by
  cases hu:m.up with
  | true=>have:=h.upp hu; omega
  | false=>have:=h.down hu; omega

open Go.RowKit Go.Mk

def zdD (cvs:List Value):List (List Value):=cvs.map fun cv=>[cv,I 0,.bool false,I 0,.slice none 0 0,.slice none 0 0]
theorem zhw {g n cap b:Nat} (h:g < b):(Value.slice (some ⟨g,0,none⟩) n cap).ownBlock≠some b:=fun e=>by
 have q:g=b:=by simpa [Value.ownBlock] using e
 omega
theorem zgd {w w':World} {row:Option Nat} (hg:w.grownBy w' row) {b:Nat} {o:Obj} (h:w.heap[b]?=some o) (hne:row≠some b):w'.heap[b]?=some o:=by
 rw [hg.block b (Array.getElem?_eq_some_iff.1 h).1 (fun e=>hne e.symm)]
 exact h
theorem zkQ (cvs:List Value) (k:Nat) (cv:Value) (h:cvs[k]?=some cv):(zdD (cvs.take (k+1))).flatten=(zdD (cvs.take k)).flatten++[cv,I 0,.bool false,I 0,.slice none 0 0,.slice none 0 0]:=by
 rw [List.take_add_one,h]
 simp [zdD]

def zgQ:List Value:=[.slice none 0 0,.slice none 0 0,.slice none 0 0,.slice none 0 0,I 0,.slice none 0 0,.bool false,I 0,I 0,I 0,I 0,I 0,I 0,.slice none 0 0,I 0,I 0,.bool false,I 0,I 0,.slice none 0 0]
def zma (l:List (List Cl)) (r:Value) (w:World):Prop:=∃ (cs:List Value) (e:Int),r=.tuple #[.agg cs.toArray,I e]/\((e=0/\zbm l/\zec w cs (newMc l))∨(cs=zgQ/\e≠0/\¬ zbm l))/\e=zfq l

theorem zm5 {w:World} {l:List (List Cl)} {cvs:List Value} (hl:cvs.length=l.length) (h:∀ (k:Nat) (x:List Cl) (cv:Value),l[k]?=some x->cvs[k]?=some cv->zaq 4 zfa w cv x):zcR 6 zdw w (zdD cvs) (l.map zcC):=by
 refine ⟨by simp [zdD,hl],fun i c x hc hx=>?_⟩
 unfold zdD at hc
 rw [List.getElem?_map] at hc hx
 cases h1:cvs[i]? with
 | none=>rw [h1] at hc; cases hc
 | some cv =>
  cases h2:l[i]? with
  | none=>rw [h2] at hx; cases hx
  | some y =>
   rw [h1] at hc
   rw [h2] at hx
   simp at hc hx
   subst hc hx
   exact ⟨rfl,(zdk (c:=zcC y)).2 ⟨h i y cv h2 h1,zaq.nil w,zaq.nil w⟩⟩
theorem zmB {l:List (List Cl)} (h:3 < l.length):¬ zbm l:=fun hr=>by have:=hr.1; omega
theorem zl5 {l:List (List Cl)} {k:Nat} {x:List Cl} (hx:l[k]?=some x) (h:8 < x.length):¬ zbm l:=fun hr=>by have:=(hr.2 x (List.mem_of_getElem? hx)).1; omega
theorem zmN {l:List (List Cl)} {k q:Nat} {x:List Cl} {y:Cl} (hx:l[k]?=some x) (hy:x[q]?=some y) (h:wrongCl y≠0):¬ zbm l:=fun hr=>h ((hr.2 x (List.mem_of_getElem? hx)).2 y (List.mem_of_getElem? hy))
def okL (l:List (List Cl)) (k:Nat):Prop:=∀ (j:Nat) (x:List Cl),j < k->l[j]?=some x->x.length<=8/\∀ y ∈ x,wrongCl y=0

theorem zkr {w:World} {v:Value} {l:List (List Cl)} {css:List (List Value)} (he:zcR 1 zdb w css l) (hr:Row w 1 v l.length css.flatten):∃ ao cap,v=.slice ao l.length cap/\l.length<=cap/\cap<=maxLen/\css.flatten.length=l.length /\
  ∀ k x,l[k]?=some x->∃ b off cv,ao=some ⟨b,off,none⟩/\css.flatten[k]?=some cv/\w.cell? ⟨b,off+k,none⟩=some cv/\zaq 4 zfa w cv x:=by
 obtain ⟨hl,ao,cap,e,h3,h4,h0,h5⟩:=hr
 refine ⟨ao,cap,e,h3,h4,by simpa using hl,fun k x hx=>?_⟩
 have hk:k < css.length:=by rw [he.1]; exact (List.getElem?_eq_some_iff.1 hx).1
 have hc:css[k]?=some css[k]:=List.getElem?_eq_getElem hk
 obtain ⟨h6,cv,h7,h8⟩:=he.2 k _ x hc hx
 have h9:=zcr (by decide) he.sizes hc (j:=0) (u:=cv) (by rw [h7]; rfl)
 rw [Nat.mul_one,Nat.add_zero] at h9
 obtain ⟨b,off,e1,hcell⟩:=h5 k cv h9
 exact ⟨b,off,cv,e1,h9,hcell,h8⟩

theorem zeG (v:Value) (l:List (List Cl)) (w:World) (A:Nat->Prop) (hv:Rd A (fun w=>zaq 1 zdb w v l) w) :
  zaU Try.prog 19 #[v] w A (zma l):=by
 unfold zaU;obtain ⟨css,hcss⟩:=zdg (by decide) hv;obtain ⟨va,vcap,rfl,v1,v2,hcl,v3⟩:=zkr hcss.o.1 hcss.o.2;unfold maxLen at v2;have HE:=zhd hcss.left;have V3:=zhd v3;have HCL:=zhd hcl;generalize hcvs:css.flatten=cvs at *;have HCV:=zhd hcvs;clear v3 hcl hv hcss hcvs;have EW:=zhd (Ext.refl w);by_cases h3:3 < l.length
 case pos =>
  have h3i:(3:Int) < (l.length:Int):=by omega
  have HN:=zhd (zmB h3);have HNE:=zhd (zlU h3);clear h3;go_enter Try.func19,Try.ntmps19
  go_wp2_with (with_reducible refine zT ?_)
  refine zah rfl 43 zM (by kernel_rfl) (fun b0 w1_ M1=>?_);have zab:=zmb M1;have zbD:Hid (w.heap.size<=b0):=by unfold Hid; have q:=M1.o.at_; omega
  go_wp2_with (with_reducible refine zT ?_)
  refine zbd rfl 43 #[] rfl zM (by kernel_rfl) (fun v13 H_v13=>?_);go_wp2_with (with_reducible refine zT ?_)
  refine zaf rfl 43 (.tmp 2) (.tmp 13) rfl b0 rfl _ (zcv H_v13) zab rfl za2 rfl (fun w2_ M2=>?_);replace zab:=zwb M2;go_wp2
  have z0:=zay (P:=Try.prog) 43 zab.o zbf (by kernel_rfl);refine bodyPost_ret (by simp [results,Try.results19,asAddr,z0]; rfl) rfl ?_;replace EW:=zwe M2 (zet EW M1) zbD;exact ⟨_,rfl,EW.o,Rd.all fun w=>⟨_,_,rfl,.inr ⟨rfl,by decide,HN.o⟩,HNE.o.symm⟩⟩
 have h3i:¬ ((3:Int) < (l.length:Int)):=by omega
 have H3:=zhd h3;clear h3;obtain ⟨i0,hi,hz0,hz1,hz2⟩:=info_parts Try.infoInt;have HI:=zhd hi;clear hi;obtain ⟨j0,hj,hy0,hy1,hy2⟩:=info_parts Try.infoClient;have HJ:=zhd hj;clear hj;go_enter Try.func19,Try.ntmps19
 go_wp2_with (with_reducible refine zT ?_)
 refine zah rfl 43 zM (by kernel_rfl) (fun b0 w1_ M1=>?_);have zab:=zmb M1;have zbD:Hid (w.heap.size<=b0):=by unfold Hid; have q:=M1.o.at_; omega
 go_wp2_with (first | (at_make; refine zbl ?_) | (with_reducible refine zT ?_))
 unfold Hid;refine wpList_make_full _ rfl _ _ 25 rfl w1_.heap.size 3 i0 (.int .i64 0) 1 zj8 HI.o hz0 hz1 .i64 .i64 _ _ 11 rfl rfl rfl rfl (by rw [hz2]; decide) (by decide) (Nat.le_refl _) ?_;intro w2 ho hg;have hmc:(madeCells (Value.int .i64 0).cells (11 * 1)).toList=(List.replicate 11 (0:Int)).map I:=by kernel_rfl
 rw [hmc] at ho;clear hmc;have e2:Ext w1_ w2:=(Ext.refl _).grown hg (fun k hk=>by cases hk);clear hg;have zoF:Hid (b0 < w1_.heap.size):=(zlt zab);replace EW:=zet EW M1;have zoW:Hid (w.heap.size<=w1_.heap.size):=EW.o.size;generalize w1_.heap.size=bc at *;have OC:=zhd ho;clear ho;replace zab:=zbx zab e2;replace EW:=zhd (EW.o.trans e2);clear e2;go_wp2_with (with_reducible refine zT ?_)
 refine zbd rfl 30 #[(0,.tmp 14)] rfl #[.slice (some ⟨bc,0,none⟩) 11 11,.slice none 0 0,.slice none 0 0,.slice none 0 0] (by kernel_rfl) (fun v15 H_v15=>?_);have hv15:=H_v15.o;subst hv15;clear H_v15;go_wp2_with (with_reducible refine zT ?_)
 refine zbd rfl 43 #[(0,.tmp 15),(2,.const (.bool true))] rfl #[.slice (some ⟨bc,0,none⟩) 11 11,.slice none 0 0,.slice none 0 0,.slice none 0 0,I 0,.slice none 0 0,.bool false,I 0,I 0,I 0,I 0,I 0,I 0,.slice none 0 0,I 0,I 0,.bool true,I 0,I 0,.slice none 0 0] (by kernel_rfl) (fun v16 H_v16=>?_);go_wp2_with (with_reducible refine zT ?_)
 refine zah rfl 43 zM (by kernel_rfl) (fun b1 w2_ M2=>?_);have zaB:=zld zab M2;have zad:=zmb M2;have zoG:Hid (bc < b1):=by unfold Hid; have q:=(OC.o.lt bc rfl).2; have q2:=M2.o.at_; omega
 have zbu:Hid (w.heap.size<=b1):=by unfold Hid; have q:=zbD.o; have q2:=zaB.o; omega
 have SZ:Hid (b1 < w2_.heap.size):=(zlt zad);go_wp2_with (with_reducible refine zT ?_)
 refine zaf rfl 43 (.tmp 4) (.tmp 16) rfl b1 rfl _ (zcv H_v16) zad rfl za2 rfl (fun w3_ M3=>?_);replace zad:=zwb M3;replace SZ:Hid (b1 < w3_.heap.size):=(zlt zad);go_wp2_with fail
 replace zab:=zwl M3 (zmo M2 zab) zaB;replace EW:=zwe M3 (zet EW M2) zbu;replace OC:=zhd (M3.o.owns (zhd (zaw OC.o M2.o.ext)).o (zhw zoG.o));go_loopw [19] (fun i wr=>∃ (k:Nat) (clv:Value),k<=l.length/\i=I k/\okL l k/\wr.heap[b0]?=some (.cells zM 43 (0,0))/\wr.heap[b1]?=some (.cells #[.slice (some ⟨bc,0,none⟩) 11 11,.slice none 0 0,.slice none 0 0,.slice none 0 0,I 0,.slice none 0 0,.bool false,I 0,I 0,I 0,I 0,I 0,I 0,.slice none 0 0,I 0,I 0,.bool true,I 0,I 0,clv] 43 (0,0))/\wr.ownsRow bc 3 1 (.slice (some ⟨bc,0,none⟩) 11 11) 11 ((List.replicate 11 (0:Int)).map I)/\wr.ownsRow (b1+1) 61 6 clv k (zdD (cvs.take k)).flatten/\Ext w wr) (fun i _=>l.length - (intOf i).toNat)
 case atStart=>exact ⟨0,_,Nat.zero_le _,rfl,fun j x hj=>by omega,zab.o,zad.o,OC.o,World.ownsRow_nil _ _ _ _,EW.o⟩
 case round =>
  obtain ⟨k,clv,hk,rfl,hok,hb0,hb1,hoc,hocl,hex⟩:=hrel;clear zab zad OC EW SZ;have zab:=zhd hb0;have zad:=zhd hb1;have OC:=zhd hoc;have OCL:=zhd hocl;have EW:=zhd hex;have HOK:=zhd hok;obtain ⟨la,lcap,rfl⟩:=zdj hocl;clear hb0 hb1 hoc hocl hex hok;by_cases hlt:k < l.length
  ·obtain ⟨x,hx⟩:∃ x,l[k]?=some x:=⟨l[k],List.getElem?_eq_getElem hlt⟩;obtain ⟨vb,vo,cv,rfl,hcv,hcell,hrow⟩:=V3.o k x hx;have hcw:=EW.o.cell hcell;obtain ⟨xa,xcap,rfl⟩:=zac hrow;have HXF:=zhd (hrow.ext zj5 EW.o);have HX:=zhd hx;have HCVK:=zhd hcv;clear hx hcv hcell hrow;by_cases h8:8 < x.length
   ·have h8i:(8:Int) < (x.length:Int):=by omega
    have HN:=zhd (zl5 HX.o h8);have HNE:=zhd (zlh H3.o HOK.o HX.o h8);clear h8;go_wp2_with (with_reducible refine zT ?_)
    clear hcw;refine zbd rfl 43 #[] rfl zM (by kernel_rfl) (fun v26 H_v26=>?_);go_wp2_with (with_reducible refine zT ?_)
    refine zaf rfl 43 (.tmp 2) (.tmp 26) rfl b0 rfl _ (zcv H_v26) zab rfl za2 rfl (fun w41_ M41=>?_);replace zab:=zwb M41;go_wp2
    have z0:=zay (P:=Try.prog) 43 zab.o zbf (by kernel_rfl);refine bodyPost_ret (by simp [results,Try.results19,asAddr,z0]; rfl) rfl ?_;replace EW:=zwe M41 EW zbD;exact ⟨_,rfl,EW.o,Rd.all fun w=>⟨_,_,rfl,.inr ⟨rfl,by decide,HN.o⟩,HNE.o.symm⟩⟩
   ·have h8i:¬ ((8:Int) < (x.length:Int)):=by omega
    have H8:=zhd h8;clear h8;go_wp2_with fail
    clear hcw h8i;go_loopw [29] (fun i wi=>∃ q:Nat,q<=x.length/\i=I q/\(∀ (j:Nat) (y:Cl),j < q->x[j]?=some y->wrongCl y=0)/\Ext wr wi) (fun i _=>x.length - (intOf i).toNat)
    case atStart=>exact ⟨0,Nat.zero_le _,rfl,fun j y hj=>by omega,Ext.refl _⟩
    case round =>
     obtain ⟨q,hq,rfl,hall,hei⟩:=hrel;have HALL:=zhd hall;have HEI:=zhd hei;clear hall hei;by_cases hql:q < x.length
     ·obtain ⟨y,hy⟩:∃ y,x[q]?=some y:=⟨x[q],List.getElem?_eq_getElem hql⟩;obtain ⟨_,_,e1,_,hxm,_,hf⟩:=HXF.o.form (by decide);simp only [Value.slice.injEq,true_and] at e1;obtain ⟨rfl,rfl⟩:=e1;obtain ⟨yk,ya,yo,yn⟩:=y;obtain ⟨yb,yf,c4,rfl,-,hc4,hcell⟩:=hf q _ hy;have hc4:c4=[I yk,I ya,I yo,I yn]:=hc4;subst hc4;have HY:=zhd hy;have y0:=HEI.o.cell (hcell 0 _ rfl);have y1:=HEI.o.cell (hcell 1 _ rfl);have y2:=HEI.o.cell (hcell 2 _ rfl);have y3:=HEI.o.cell (hcell 3 _ rfl);simp only [Nat.add_zero,<- Nat.add_assoc] at y0 y1 y2 y3;clear hf hcell hy;unfold maxLen at hxm;go_wp2_with fail
      clear y0 y1 y2 y3;refine Calls.exts (zeA yk ya yo yn _) (fun wj ej=>?_);replace ej:=((Ext.refl _).alloc _).trans ej;by_cases hw:wrongCl ⟨yk,ya,yo,yn⟩=0
      ·rw [hw];have HW:=zhd hw;clear hw;go_wp2
       go_roundw
       case rel =>
        refine ⟨q+1,by omega,by go_num,fun j y hj hy=>?_,HEI.o.trans ej⟩;by_cases hjq:j=q
        ·subst hjq;have hy2:x[j]?=some y:=hy;rw [HY.o] at hy2;cases hy2
         exact HW.o
        ·exact HALL.o j y (by omega) hy
       case measure=>simp [intOf]; omega
      ·have hb:(wrongCl ⟨yk,ya,yo,yn⟩ != 0)=true:=by simpa using hw
       have HN:=zhd (zmN HX.o HY.o hw);have HNE:=zhd (zlf H3.o HOK.o HX.o H8.o HALL.o HY.o hw);have HW:=zhd hw;generalize wrongCl ⟨yk,ya,yo,yn⟩=WC at *;clear hw;have eji:=HEI.o.trans ej;replace zab:=zbx zab eji;replace zad:=zbx zad eji;replace EW:=zhd (EW.o.trans eji);clear eji ej;go_wp2_with (with_reducible refine zT ?_)
       refine zbd rfl 43 #[] rfl zM (by kernel_rfl) (fun v37 H_v37=>?_);go_wp2_with (with_reducible refine zT ?_)
       refine zaf rfl 43 (.tmp 2) (.tmp 37) rfl b0 rfl _ (zcv H_v37) zab rfl za2 rfl (fun w41_ M41=>?_);replace zab:=zwb M41;go_wp2
       have z0:=zay (P:=Try.prog) 43 zab.o zbf (by kernel_rfl);refine bodyPost_ret (by simp [results,Try.results19,asAddr,z0]; rfl) rfl ?_;replace EW:=zwe M41 EW zbD;exact ⟨_,rfl,EW.o,Rd.all fun w=>⟨_,_,rfl,.inr ⟨rfl,HW.o,HN.o⟩,HNE.o.symm⟩⟩
     ·have hqx:q=x.length:=by omega
      subst hqx;clear hql hq;have hei:=HEI.o;replace zab:=zbx zab hei;replace zad:=zbx zad hei;replace OC:=zhd (zaw OC.o hei);replace OCL:=zhd (zaw OCL.o hei);replace EW:=zhd (EW.o.trans hei);clear hei;have c19:=zaa (i:=19) zad.o rfl;go_wp2_with (with_reducible refine zT ?_)
      clear c19;refine zbd rfl 61 #[(0,.tmp 42)] rfl #[.slice xa x.length xcap,I 0,.bool false,I 0,.slice none 0 0,.slice none 0 0] (by kernel_rfl) (fun v43 H_v43=>?_);have hv43:=H_v43.o;subst hv43;clear H_v43;go_wp2_with (with_reducible refine zT ?_)
      unfold Hid;refine zbQ rfl 61 1 #[.slice xa x.length xcap,I 0,.bool false,I 0,.slice none 0 0,.slice none 0 0] (by kernel_rfl) (fun bl w41_ M41=>?_);go_wp2_with (first | (at_builtin; refine zbl ?_) | (with_reducible refine zT ?_))
      unfold Hid;have hlit:=Row.of_owns (zbC (base:=0) (size:=6) (n:=1) M41.o (Nat.zero_le _) rfl (by decide));replace zad:=zmo M41 zad;have hszl:b1+1<=w41_.heap.size:=(zlt zad);replace OCL:=zhd (zaw OCL.o M41.o.ext);refine zav _ rfl (.tmp 41) (.tmp 44) 41 rfl (b1+1) 61 j0 (.agg zC) 6 96 zoa HJ.o hy0 hy1 hy2 rfl (by decide) (.slice la k lcap) k _ rfl OCL.o _ rfl 1 _ hlit (zb9 rfl) (by have:=H3.o; omega) (by decide) hszl ?_;intro v45 wq ho hg;clear hlit hszl;have hlo:∀ b,b<=b1->(Value.slice la k lcap).ownBlock≠some b:=fun b hb e=>by have:=(OCL.o.lt b e).1; omega
      replace zab:=zmo M41 zab;have kb0:=zgd hg zab.o (hlo b0 (Nat.le_of_lt zaB.o));have kb1:=zgd hg zad.o (hlo b1 (Nat.le_refl _));replace OC:=zhd (zaw OC.o M41.o.ext);have koc:=OC.o.kept hg (zbW OC.o OCL.o (by decide));replace EW:=zet EW M41;have kew:Ext w wq:=EW.o.grown hg (fun b e=>by have q:=(OCL.o.lt b e).1; have q2:=zbu.o; omega);replace zab:=zhd kb0;replace zad:=zhd kb1;replace OC:=zhd koc;replace EW:=zhd kew;clear kb0 kb1 koc kew hlo hg;have hcsn:=zkQ cvs k _ HCVK.o;have OCN:Hid (wq.ownsRow (b1+1) 61 6 v45 (k+1) (zdD (cvs.take (k+1))).flatten):=by unfold Hid; rw [hcsn]; exact ho
      clear ho OCL hcsn;obtain ⟨na,ncap,rfl⟩:=zdj OCN.o;go_wp2_with (with_reducible refine zT ?_)
      refine zap rfl 41 (.tmp 46) (.tmp 45) rfl b1 19 rfl [.slice na (k+1) ncap] (rfl) zad rfl zn9 rfl [.slice (some ⟨bc,0,none⟩) 11 11,.slice none 0 0,.slice none 0 0,.slice none 0 0,I 0,.slice none 0 0,.bool false,I 0,I 0,I 0,I 0,I 0,I 0,.slice none 0 0,I 0,I 0,.bool true,I 0,I 0,.slice na (k+1) ncap] rfl (fun w42_ M42=>?_);replace zad:=zwb M42;replace OCN:=zhd (M42.o.owns OCN.o (fun e=>by have q:=(OCN.o.lt _ e).1; omega));go_wp2
      replace zab:=zwl M42 zab zaB;replace OC:=zhd (M42.o.owns OC.o (zhw zoG.o));replace EW:=zwe M42 EW zbu;go_roundw
      case rel =>
       refine ⟨k+1,_,by omega,by go_num,fun j x' hj hx'=>?_,zab.o,zad.o,OC.o,OCN.o,EW.o⟩;by_cases hjk:j=k
       ·subst hjk;have hx2:l[j]?=some x':=hx';rw [HX.o] at hx2;cases hx2
        refine ⟨by have:=H8.o; omega,fun y hy=>?_⟩;obtain ⟨q,hq⟩:=List.mem_iff_getElem?.1 hy;exact HALL.o q y (List.getElem?_eq_some_iff.1 hq).1 hq
       ·exact HOK.o j x' (by omega) hx'
      case measure=>simp [intOf]; omega
  ·have hkl:k=l.length:=by omega
   subst hkl
   have hrl:zbm l:=⟨by have:=H3.o; omega,fun c hc=>by
    obtain ⟨j,hj⟩:=List.mem_iff_getElem?.1 hc;exact HOK.o j c (List.getElem?_eq_some_iff.1 hj).1 hj⟩
   have HRL:=zhd hrl;clear hrl;go_wp2_with (with_reducible refine zT ?_)
   refine zai rfl 43 (.tmp 4) rfl b1 rfl zad zbf za2 (fun v48 H_v48=>?_);go_wp2_with (with_reducible refine zT ?_)
   refine zaf rfl 43 (.tmp 2) (.tmp 48) rfl b0 rfl _ (zcv H_v48) zab rfl za2 rfl (fun w41_ M41=>?_);replace zab:=zwb M41;replace OCL:=zhd (M41.o.owns OCL.o (fun e=>by have q:=(OCL.o.lt _ e).1; have q2:=zaB.o; omega));go_wp2
   have z0:=zay (P:=Try.prog) 43 zab.o zbf (by kernel_rfl);refine bodyPost_ret (by simp [results,Try.results19,asAddr,z0]; rfl) rfl ?_;have hocl:=OCL.o;rw [List.take_of_length_le (by rw [HCL.o]; exact Nat.le_refl _)] at hocl;replace EW:=zwe M41 EW zbD
   have hev:Rd A (fun w=>zcR 6 zdw w (zdD cvs) (l.map zcC)) w41_:=(HE.o.ext EW.o).imp fun w hw=>zm5 HCL.o (fun k x cv hx hcv=>by
    have hk:k < css.length:=by rw [hw.1]; exact (List.getElem?_eq_some_iff.1 hx).1
    have hc:css[k]?=some css[k]:=List.getElem?_eq_getElem hk;obtain ⟨_,cv',h7,h8⟩:=hw.2 k _ x hc hx;have h9:=zcr (by decide) hw.sizes hc (j:=0) (u:=cv') (by rw [h7]; rfl);rw [Nat.mul_one,Nat.add_zero,HCV.o,hcv] at h9;cases h9
    exact h8)
   have hcl:=zep (A:=fun k=>A k∨w.heap.size<=k) (fun k h _=>.inr (by have q:=zbu.o; omega)) (hev.widen fun k _ h=>.inl h) hocl (by decide);replace OC:=zhd (M41.o.owns OC.o (zeq zoF.o));have hci:=(zfj OC.o).widen (B:=fun k=>A k∨w.heap.size<=k) (fun k _ h=>.inr (by have q:=zoW.o; omega));refine ⟨_,rfl,EW.o,(RdM.mc (m:=newMc l) (A:=fun k=>A k∨w.heap.size<=k) ⟨hci,Rd.all fun w=>zbJ w,Rd.all fun w=>zaq.nil w,Rd.all fun w=>zaq.nil w,Rd.all fun w=>zaq.nil w,Rd.all fun w=>zbJ w,hcl⟩).imp fun w h=>⟨_,_,rfl,.inl ⟨rfl,HRL.o,h⟩,(zfN HRL.o).symm⟩⟩

theorem zkG {l:List (List Cl)} {r:Value} {A:Nat->Prop} {w:World} (h:Rd A (zma l r) w):∃ (cs:List Value) (e:Int),r=.tuple #[.agg cs.toArray,I e]/\((e=0/\zbm l/\Rd A (fun w=>zec w cs (newMc l)) w)∨(cs=zgQ/\e≠0/\¬ zbm l)):=by
 obtain ⟨cs,e,e1,h1,-⟩:=h.o
 refine ⟨cs,e,e1,?_⟩
 rcases h1 with ⟨h2,h3,_⟩ | h2
 ·refine .inl ⟨h2,h3,h.imp fun w' hw=>?_⟩
  obtain ⟨cs2,e2,e3,h4,-⟩:=hw
  rw [e1] at e3
  have:cs=cs2/\e=e2:=by simpa using e3
  obtain ⟨rfl,rfl⟩:=this
  rcases h4 with ⟨_,_,h5⟩ | ⟨_,_,h5⟩
  ·exact h5
  ·exact absurd h3 h5
 ·exact .inr h2

theorem znp {l:List (List Cl)} {r:Value} {A:Nat->Prop} {w:World} (h:Rd A (zma l r) w):∃ (cs:List Value),r=.tuple #[.agg cs.toArray,I (zfq l)]/\((zfq l=0/\zbm l/\Rd A (fun w=>zec w cs (newMc l)) w)∨(cs=zgQ/\zfq l≠0/\¬ zbm l)):=by
 obtain ⟨_,_,e1,_,he⟩:=h.o
 obtain ⟨cs,e,e2,h2⟩:=zkG h
 rw [e1] at e2
 simp at e2
 obtain ⟨rfl,rfl⟩:=e2
 subst he
 exact ⟨_,e1,h2⟩

theorem zeP (v:Value) (l:List (List Cl)) (w:World) (hv:zaq 1 zdb w v l) :
  Calls Try.prog 6 #[v] w fun e w'=>∃ b,e=.returned (.bool b)/\(b=true↔zbm l)/\Ext w w':=by
 have hrv:Rd (fun k=>k < w.heap.size) (fun w=>zaq 1 zdb w v l) w:=Rd.of (zcS zgb v l) hv;have HV:=zhd hrv;clear hrv hv;go_enter Try.func6,Try.ntmps6
 go_wp2_with fail
 refine (zeG v l w _ HV.o).to fun r w1 e1 hr=>?_;obtain ⟨cs,e,rfl,hcs⟩:=zkG hr;clear hr;have EW:=zhd e1;clear e1;rcases hcs with ⟨rfl,hrl,hcs⟩ | ⟨rfl,hne,hrl⟩
 ·obtain ⟨c',u',a',p',box',plan',cl',rfl,hm⟩:=zeT hcs;obtain ⟨ca',cc',ua',uc',aa',ac',pa',pc',xa',xc',la',lc',ka',kc',rfl,rfl,rfl,rfl,rfl,rfl,rfl⟩:=hm.slices;have HRL:=zhd hrl;clear hcs hm hrl;have Q0:Hid (w.heap.size<=w1.heap.size):=EW.o.size;go_wp2_with (with_reducible refine zT ?_)
  refine zah rfl 43 zM (by kernel_rfl) (fun b0 w1_ M1=>?_);have zab:=zmb M1;have zbD:Hid (w.heap.size<=b0):=by unfold Hid; have q:=M1.o.at_; have q2:=Q0.o; omega
  go_wp2_with (with_reducible refine zT ?_)
  refine zaf rfl 43 (.tmp 3) (.tmp 8) rfl b0 rfl [.slice ca' (newMc l).store.cells.length cc',.slice ua' (newMc l).store.undo.length uc',.slice aa' (newMc l).store.answers.length ac',.slice pa' (newMc l).store.past.length pc',I (newMc l).server.gen,.slice xa' (newMc l).server.box.length xc',.bool (newMc l).server.busy,I (newMc l).server.now.client,I (newMc l).server.now.token,I (newMc l).server.now.call.kind,I (newMc l).server.now.call.name,I (newMc l).server.now.call.other,I (newMc l).server.now.call.n,.slice la' (newMc l).server.plan.length lc',I (newMc l).server.says.err,I (newMc l).server.says.n,.bool (newMc l).up,I (newMc l).pause,I (newMc l).falls,.slice ka' (newMc l).clients.length kc'] (rfl) zab rfl za2 rfl (fun w2_ M2=>?_);replace zab:=zwb M2;go_wp2
  go_ret
  replace EW:=zwe M2 (zet EW M1) zbD;exact ⟨_,rfl,⟨fun _=>HRL.o,fun _=>rfl⟩,EW.o⟩
 ·have hb:(e == 0)=false:=by simpa using hne
  have HRL:=zhd hrl;clear hne hrl;unfold zgQ;have Q0:Hid (w.heap.size<=w1.heap.size):=EW.o.size;go_wp2_with (with_reducible refine zT ?_)
  refine zah rfl 43 zM (by kernel_rfl) (fun b0 w1_ M1=>?_);have zab:=zmb M1;have zbD:Hid (w.heap.size<=b0):=by unfold Hid; have q:=M1.o.at_; have q2:=Q0.o; omega
  go_wp2_with (with_reducible refine zT ?_)
  refine zaf rfl 43 (.tmp 3) (.tmp 8) rfl b0 rfl [.slice none 0 0,.slice none 0 0,.slice none 0 0,.slice none 0 0,I 0,.slice none 0 0,.bool false,I 0,I 0,I 0,I 0,I 0,I 0,.slice none 0 0,I 0,I 0,.bool false,I 0,I 0,.slice none 0 0] (rfl) zab rfl za2 rfl (fun w2_ M2=>?_);replace zab:=zwb M2;go_wp2
  go_ret
  replace EW:=zwe M2 (zet EW M1) zbD;exact ⟨_,rfl,⟨(fun h=>by cases h),fun h=>absurd h HRL.o⟩,EW.o⟩

end Go.Proofs.Ytdmipnnfoolelaf

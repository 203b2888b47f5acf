/- Texts of the proof, merged: N13 N14 N16. -/
import Derived.Test.YtikbhmnjlmbeeafGreatKR4
import Derived.Test.YtikbhmnjlmbeeafGreatKRH
import Derived.Test.YtikbhmnjlmbeeafGreatKRA
import Derived.Test.YtikbhmnjlmbeeafGreatKR1
set_option maxHeartbeats 4000000
set_option maxRecDepth 100000

namespace Go.Proofs.YtikbhmnjlmbeeafGreat
open Go.RowKit Go.Mk

structure Fit (m : Mc) : Prop where
 cells : m.store.cells.length = 11
 undo : m.store.undo.length <= 1000
 answers : m.store.answers.length <= 1000
 past : m.store.past.length <= 1000
 right : m.up = true -> m.server.busy = false -> zeY m.store.cells
 clients : m.clients.length <= 1000
 each : ∀ c ∈ m.clients,0 <= c.at_ /\ c.at_ <= 1000000 /\ c.got.length <= 1000 /\ c.box.length <= 1000
 box : m.server.box.length <= 1000
 falls : 0 <= m.falls
 gen : 0 <= m.server.gen /\ m.server.gen <= 1000000
 pause : 0 <= m.pause /\ m.pause <= 1000000

theorem zlr (m : Mc) (c u a p box plan cl : Value) (kind n : Int) (w : World) (A : Nat -> Prop) (h : RdM A w m c u a p box plan cl) (hf : Fit m) :
  zaS Tryz.prog 11 #[.agg (za0 m c u a p box plan cl).toArray,.agg #[I kind,I n]] w A (fun r w'=>zgw zdM (doM m kind n).1 (doM m kind n).2 r w'):=by
 have hc:=hf.cells
 by_cases h1 : kind = 1
 ·subst h1
  by_cases hn : n < 0 ∨ (m.clients.length : Int) <= n
  ·exact ziV m c u a p box plan cl n w A h hn
  ·exact zj1 m c u a p box plan cl n w A h (by omega) hf.clients (fun c hc=>⟨(hf.each c hc).1,(hf.each c hc).2.1,(hf.each c hc).2.2.1⟩) hf.box
 by_cases h2 : kind = 2
 ·subst h2
  exact zky m c u a p box plan cl n w A h (by omega) (by have:=hf.undo; omega) hf.answers (by have:=hf.past; omega) hf.right hf.clients (fun c hc=>(hf.each c hc).2.2.2)
 by_cases h3 : kind = 3
 ·subst h3
  exact zmj m c u a p box plan cl n w A h hf.falls
 by_cases h4 : kind = 4
 ·subst h4
  exact zlE m c u a p box plan cl n w A h (by omega) hf.gen hf.pause
 exact zlX m c u a p box plan cl kind n w A h h1 h2 h3 h4

open Go.RowKit Go.Mk

theorem znR {l : List (List Cl)} (hl : zbF l) {m : Mc} {ks : List Nat} {bz : Option Nat} (h : MInv l m ks bz) {k : Nat} (hs : SizeM m k) (hk : k <= 1000) : Fit m where
 cells:=h.cells
 undo:=Nat.le_trans hs.undo hk
 answers:=Nat.le_trans hs.answers hk
 past:=Nat.le_trans hs.past hk
 right:=fun hu hb=>by
  have h1 : bz = none:=by
   have:=h.busy
   rw [hb] at this
   cases bz with
   | none=>rfl
   | some i=>cases this
  have h2:=h.right
  rw [h.clean hu h1] at h2
  exact zmn h2
 clients:=by rw [h.nc]; have:=hl.1; omega
 each:=fun c hc=>by
  obtain ⟨i,hi⟩:=List.mem_iff_getElem?.1 hc
  have h1:=(h.clients i c hi).at_
  have h2:=hs.each c hc
  rw [h1]
  omega
 box:=Nat.le_trans hs.box hk
 falls:=h.falls.1
 gen:=by
  obtain ⟨g1,g2,g3⟩:=h.gens
  have hf:=h.falls
  cases hu : m.up with
  | true=>have:=g2 hu; omega
  | false=>have:=g3 hu; omega
 pause:=by
  cases hu : m.up with
  | true=>have:=h.upp hu; omega
  | false=>have:=h.down hu; omega

open Go.RowKit Go.Mk

def zei (cvs : List Value) : List (List Value):=cvs.map fun cv=>[cv,I 0,.bool false,I 0,.slice none 0 0,.slice none 0 0]
theorem zim {g n cap b : Nat} (h : g < b) : (Value.slice (some ⟨g,0,none⟩) n cap).ownBlock ≠ some b:=fun e=>by
 have q : g = b:=by simpa [Value.ownBlock] using e
 omega
theorem ze1 {w w' : World} {row : Option Nat} (hg : w.grownBy w' row) {b : Nat} {o : Obj} (h : w.heap[b]? = some o) (hne : row ≠ some b) : w'.heap[b]? = some o:=by
 rw [hg.block b (Array.getElem?_eq_some_iff.1 h).1 (fun e=>hne e.symm)]
 exact h
theorem zlG (cvs : List Value) (k : Nat) (cv : Value) (h : cvs[k]? = some cv) : (zei (cvs.take (k + 1))).flatten = (zei (cvs.take k)).flatten ++ [cv,I 0,.bool false,I 0,.slice none 0 0,.slice none 0 0]:=by
 rw [List.take_add_one,h]
 simp [zei]

def zia : List Value:=[.slice none 0 0,.slice none 0 0,.slice none 0 0,.slice none 0 0,I 0,.slice none 0 0,.bool false,I 0,I 0,I 0,I 0,I 0,I 0,.slice none 0 0,I 0,I 0,.bool false,I 0,I 0,.slice none 0 0]
def zno (l : List (List Cl)) (r : Value) (w : World) : Prop:=∃ (cs : List Value) (e : Int),r = .tuple #[.agg cs.toArray,I e] /\ ((e = 0 /\ zbF l /\ zdM w cs (zbb l)) ∨ (cs = zia /\ e ≠ 0 /\ ¬ zbF l)) /\ e = zfZ l

theorem zod {w : World} {l : List (List Cl)} {cvs : List Value} (hl : cvs.length = l.length) (h : ∀ (k : Nat) (x : List Cl) (cv : Value),l[k]? = some x -> cvs[k]? = some cv -> zax 4 zdA w cv x) : zde 6 zcJ w (zei cvs) (l.map zbY):=by
 refine ⟨by simp [zei,hl],fun i c x hc hx=>?_⟩
 unfold zei at hc
 rw [List.getElem?_map] at hc hx
 cases h1 : cvs[i]? with
 | none=>rw [h1] at hc; cases hc
 | some cv =>
  cases h2 : l[i]? with
  | none=>rw [h2] at hx; cases hx
  | some y =>
   rw [h1] at hc
   rw [h2] at hx
   simp at hc hx
   subst hc hx
   exact ⟨rfl,(zl0 (c:=zbY y)).2 ⟨h i y cv h2 h1,zax.nil w,zax.nil w⟩⟩
theorem zli {l : List (List Cl)} (h : 3 < l.length) : ¬ zbF l:=fun hr=>by have:=hr.1; omega
theorem zkR {l : List (List Cl)} {k : Nat} {x : List Cl} (hx : l[k]? = some x) (h : 8 < x.length) : ¬ zbF l:=fun hr=>by have:=(hr.2 x (List.mem_of_getElem? hx)).1; omega
theorem zlb {l : List (List Cl)} {k q : Nat} {x : List Cl} {y : Cl} (hx : l[k]? = some x) (hy : x[q]? = some y) (h : wrongCl y ≠ 0) : ¬ zbF l:=fun hr=>h ((hr.2 x (List.mem_of_getElem? hx)).2 y (List.mem_of_getElem? hy))
def okL (l : List (List Cl)) (k : Nat) : Prop:=∀ (j : Nat) (x : List Cl),j < k -> l[j]? = some x -> x.length <= 8 /\ ∀ y ∈ x,wrongCl y = 0

theorem zi6 {w : World} {v : Value} {l : List (List Cl)} {css : List (List Value)} (he : zde 1 ze9 w css l) (hr : Row w 1 v l.length css.flatten) : ∃ ao cap,v = .slice ao l.length cap /\ l.length <= cap /\ cap <= maxLen /\ css.flatten.length = l.length /\
  ∀ k x,l[k]? = some x -> ∃ b off cv,ao = some ⟨b,off,none⟩ /\ css.flatten[k]? = some cv /\ w.cell? ⟨b,off + k,none⟩ = some cv /\ zax 4 zdA w cv x:=by
 obtain ⟨hl,ao,cap,e,h3,h4,h0,h5⟩:=hr
 refine ⟨ao,cap,e,h3,h4,by simpa using hl,fun k x hx=>?_⟩
 have hk : k < css.length:=by rw [he.1]; exact (List.getElem?_eq_some_iff.1 hx).1
 have hc : css[k]? = some css[k]:=List.getElem?_eq_getElem hk
 obtain ⟨h6,cv,h7,h8⟩:=he.2 k _ x hc hx
 have h9:=zc1 (by decide) he.sizes hc (j:=0) (u:=cv) (by rw [h7]; rfl)
 rw [Nat.mul_one,Nat.add_zero] at h9
 obtain ⟨b,off,e1,hcell⟩:=h5 k cv h9
 exact ⟨b,off,cv,e1,h9,hcell,h8⟩

theorem zhb (v : Value) (l : List (List Cl)) (w : World) (A : Nat -> Prop) (hv : Rd A (fun w=>zax 1 ze9 w v l) w) :
  zaS Tryz.prog 10 #[v] w A (zno l):=by
 unfold zaS;obtain ⟨css,hcss⟩:=zdw (by decide) hv;obtain ⟨va,vcap,rfl,v1,v2,hcl,v3⟩:=zi6 hcss.o.1 hcss.o.2;unfold maxLen at v2;have HE:=hd hcss.left;have V3:=hd v3;have HCL:=hd hcl;generalize hcvs : css.flatten = cvs at *;have HCV:=hd hcvs;clear v3 hcl hv hcss hcvs;have EW:=hd (Ext.refl w);by_cases h3 : 3 < l.length
 case pos =>
  have h3i : (3 : Int) < (l.length : Int):=by omega
  have HN:=hd (zli h3);have HNE:=hd (zjR h3);clear h3;go_enter Tryz.func10,Tryz.ntmps10
  go_wp2_with ((with_reducible refine zT ?_ ?_); exact rfl)
  unfold Hid;refine zae rfl 44 zM (by kernel_rfl) (fun b0 w1_ M1=>?_);have zaa:=zmb M1;have za1 : Hid (w.heap.size <= b0):=by unfold Hid; have q:=M1.o.at_; omega
  go_wp2_with ((with_reducible refine zT ?_ ?_); exact rfl)
  unfold Hid;refine zaX rfl 44 #[] rfl zM (by kernel_rfl) (fun v13 H_v13=>?_);go_wp2_with ((with_reducible refine zT ?_ ?_); exact rfl)
  unfold Hid;refine zab rfl 44 (.tmp 2) (.tmp 13) rfl b0 rfl _ (zcv H_v13) zaa rfl zaT rfl (fun w2_ M2=>?_);replace zaa:=zwb M2;go_wp2
  have z0:=zas (P:=Tryz.prog) 44 zaa.o zu44 (by kernel_rfl);refine bodyPost_ret (by simp [results,Tryz.results10,asAddr,z0]; rfl) rfl ?_;replace EW:=zwe M2 (zet EW M1) za1;exact ⟨_,rfl,EW.o,Rd.all fun w=>⟨_,_,rfl,.inr ⟨rfl,by decide,HN.o⟩,HNE.o.symm⟩⟩
 have h3i : ¬ ((3 : Int) < (l.length : Int)):=by omega
 have H3:=hd h3;clear h3;obtain ⟨i0,hi,hz0,hz1,hz2⟩:=info_parts Tryz.infoInt;have HI:=hd hi;clear hi;obtain ⟨j0,hj,hy0,hy1,hy2⟩:=info_parts Tryz.infoClient;have HJ:=hd hj;clear hj;go_enter Tryz.func10,Tryz.ntmps10
 go_wp2_with ((with_reducible refine zT ?_ ?_); exact rfl)
 unfold Hid;refine zae rfl 44 zM (by kernel_rfl) (fun b0 w1_ M1=>?_);have zaa:=zmb M1;have za1 : Hid (w.heap.size <= b0):=by unfold Hid; have q:=M1.o.at_; omega
 go_wp2_with (first | (at_make; refine zbH ?_) | ((with_reducible refine zT ?_ ?_); exact rfl))
 unfold Hid;refine wpList_make_full _ rfl _ _ 26 rfl w1_.heap.size 3 i0 (.int .i64 0) 1 zu26 HI.o hz0 hz1 .i64 .i64 _ _ 11 rfl rfl rfl rfl (by rw [hz2]; decide) (by decide) (Nat.le_refl _) ?_;intro w2 ho hg;have hmc : (madeCells (Value.int .i64 0).cells (11 * 1)).toList = (List.replicate 11 (0 : Int)).map I:=by kernel_rfl
 rw [hmc] at ho;clear hmc;have e2 : Ext w1_ w2:=(Ext.refl _).grown hg (fun k hk=>by cases hk);clear hg;have zqk : Hid (b0 < w1_.heap.size):=(zlt zaa);replace EW:=zet EW M1;have zqy : Hid (w.heap.size <= w1_.heap.size):=EW.o.size;generalize w1_.heap.size = bc at *;have OC:=hd ho;clear ho;replace zaa:=zbx zaa e2;replace EW:=hd (EW.o.trans e2);clear e2;go_wp2_with ((with_reducible refine zT ?_ ?_); exact rfl)
 unfold Hid;refine zaX rfl 31 #[(0,.tmp 14)] rfl #[.slice (some ⟨bc,0,none⟩) 11 11,.slice none 0 0,.slice none 0 0,.slice none 0 0] (by kernel_rfl) (fun v15 H_v15=>?_);have hv15:=H_v15.o;subst hv15;clear H_v15;go_wp2_with ((with_reducible refine zT ?_ ?_); exact rfl)
 unfold Hid;refine zaX rfl 44 #[(0,.tmp 15),(2,.const (.bool true))] rfl #[.slice (some ⟨bc,0,none⟩) 11 11,.slice none 0 0,.slice none 0 0,.slice none 0 0,I 0,.slice none 0 0,.bool false,I 0,I 0,I 0,I 0,I 0,I 0,.slice none 0 0,I 0,I 0,.bool true,I 0,I 0,.slice none 0 0] (by kernel_rfl) (fun v16 H_v16=>?_);go_wp2_with ((with_reducible refine zT ?_ ?_); exact rfl)
 unfold Hid;refine zae rfl 44 zM (by kernel_rfl) (fun b1 w2_ M2=>?_);have zao:=zld zaa M2;have zad:=zmb M2;have zqj : Hid (bc < b1):=by unfold Hid; have q:=(OC.o.lt bc rfl).2; have q2:=M2.o.at_; omega
 have zaV : Hid (w.heap.size <= b1):=by unfold Hid; have q:=za1.o; have q2:=zao.o; omega
 have SZ : Hid (b1 < w2_.heap.size):=(zlt zad);go_wp2_with ((with_reducible refine zT ?_ ?_); exact rfl)
 unfold Hid;refine zab rfl 44 (.tmp 4) (.tmp 16) rfl b1 rfl _ (zcv H_v16) zad rfl zaT rfl (fun w3_ M3=>?_);replace zad:=zwb M3;replace SZ : Hid (b1 < w3_.heap.size):=(zlt zad);go_wp2_with fail
 replace zaa:=zwl M3 (zmo M2 zaa) zao;replace EW:=zwe M3 (zet EW M2) zaV;replace OC:=hd (M3.o.owns (hd (zal OC.o M2.o.ext)).o (zim zqj.o));go_loopw [19] (fun i wr=>∃ (k : Nat) (clv : Value),k <= l.length /\ i = I k /\ okL l k /\ wr.heap[b0]? = some (.cells zM 44 (0,0)) /\ wr.heap[b1]? = some (.cells #[.slice (some ⟨bc,0,none⟩) 11 11,.slice none 0 0,.slice none 0 0,.slice none 0 0,I 0,.slice none 0 0,.bool false,I 0,I 0,I 0,I 0,I 0,I 0,.slice none 0 0,I 0,I 0,.bool true,I 0,I 0,clv] 44 (0,0)) /\ wr.ownsRow bc 3 1 (.slice (some ⟨bc,0,none⟩) 11 11) 11 ((List.replicate 11 (0 : Int)).map I) /\ wr.ownsRow (b1 + 1) 55 6 clv k (zei (cvs.take k)).flatten /\ Ext w wr) (fun i _=>l.length - (intOf i).toNat)
 case atStart=>exact ⟨0,_,Nat.zero_le _,rfl,fun j x hj=>by omega,zaa.o,zad.o,OC.o,World.ownsRow_nil _ _ _ _,EW.o⟩
 case round =>
  obtain ⟨k,clv,hk,rfl,hok,hb0,hb1,hoc,hocl,hex⟩:=hrel;clear zaa zad OC EW SZ;have zaa:=hd hb0;have zad:=hd hb1;have OC:=hd hoc;have OCL:=hd hocl;have EW:=hd hex;have HOK:=hd hok;obtain ⟨la,lcap,rfl⟩:=zc2 hocl;clear hb0 hb1 hoc hocl hex hok;by_cases hlt : k < l.length
  ·obtain ⟨x,hx⟩ : ∃ x,l[k]? = some x:=⟨l[k],List.getElem?_eq_getElem hlt⟩;obtain ⟨vb,vo,cv,rfl,hcv,hcell,hrow⟩:=V3.o k x hx;have hcw:=EW.o.cell hcell;obtain ⟨xa,xcap,rfl⟩:=zaf hrow;have HXF:=hd (hrow.ext zed EW.o);have HX:=hd hx;have HCVK:=hd hcv;clear hx hcv hcell hrow;by_cases h8 : 8 < x.length
   ·have h8i : (8 : Int) < (x.length : Int):=by omega
    have HN:=hd (zkR HX.o h8);have HNE:=hd (zjX H3.o HOK.o HX.o h8);clear h8;go_wp2_with ((with_reducible refine zT ?_ ?_); exact rfl)
    unfold Hid;clear hcw;refine zaX rfl 44 #[] rfl zM (by kernel_rfl) (fun v26 H_v26=>?_);go_wp2_with ((with_reducible refine zT ?_ ?_); exact rfl)
    unfold Hid;refine zab rfl 44 (.tmp 2) (.tmp 26) rfl b0 rfl _ (zcv H_v26) zaa rfl zaT rfl (fun w41_ M41=>?_);replace zaa:=zwb M41;go_wp2
    have z0:=zas (P:=Tryz.prog) 44 zaa.o zu44 (by kernel_rfl);refine bodyPost_ret (by simp [results,Tryz.results10,asAddr,z0]; rfl) rfl ?_;replace EW:=zwe M41 EW za1;exact ⟨_,rfl,EW.o,Rd.all fun w=>⟨_,_,rfl,.inr ⟨rfl,by decide,HN.o⟩,HNE.o.symm⟩⟩
   ·have h8i : ¬ ((8 : Int) < (x.length : Int)):=by omega
    have H8:=hd h8;clear h8;go_wp2_with fail
    clear hcw h8i;go_loopw [29] (fun i wi=>∃ q : Nat,q <= x.length /\ i = I q /\ (∀ (j : Nat) (y : Cl),j < q -> x[j]? = some y -> wrongCl y = 0) /\ Ext wr wi) (fun i _=>x.length - (intOf i).toNat)
    case atStart=>exact ⟨0,Nat.zero_le _,rfl,fun j y hj=>by omega,Ext.refl _⟩
    case round =>
     obtain ⟨q,hq,rfl,hall,hei⟩:=hrel;have HALL:=hd hall;have HEI:=hd hei;clear hall hei;by_cases hql : q < x.length
     ·obtain ⟨y,hy⟩ : ∃ y,x[q]? = some y:=⟨x[q],List.getElem?_eq_getElem hql⟩;obtain ⟨_,_,e1,_,hxm,_,hf⟩:=HXF.o.form (by decide);simp only [Value.slice.injEq,true_and] at e1;obtain ⟨rfl,rfl⟩:=e1;obtain ⟨yk,ya,yo,yn⟩:=y;obtain ⟨yb,yf,c4,rfl,-,hc4,hcell⟩:=hf q _ hy;have hc4 : c4 = [I yk,I ya,I yo,I yn]:=hc4;subst hc4;have HY:=hd hy;have y0:=HEI.o.cell (hcell 0 _ rfl);have y1:=HEI.o.cell (hcell 1 _ rfl);have y2:=HEI.o.cell (hcell 2 _ rfl);have y3:=HEI.o.cell (hcell 3 _ rfl);simp only [Nat.add_zero,<- Nat.add_assoc] at y0 y1 y2 y3;clear hf hcell hy;unfold maxLen at hxm;go_wp2_with fail
      clear y0 y1 y2 y3;refine Calls.exts (zfc yk ya yo yn _) (fun wj ej=>?_);replace ej:=((Ext.refl _).alloc _).trans ej;by_cases hw : wrongCl ⟨yk,ya,yo,yn⟩ = 0
      ·rw [hw];have HW:=hd hw;clear hw;go_wp2
       go_roundw
       case rel =>
        refine ⟨q + 1,by omega,by go_num,fun j y hj hy=>?_,HEI.o.trans ej⟩;by_cases hjq : j = q
        ·subst hjq;have hy2 : x[j]? = some y:=hy;rw [HY.o] at hy2;cases hy2
         exact HW.o
        ·exact HALL.o j y (by omega) hy
       case measure=>simp [intOf]; omega
      ·have hb : (wrongCl ⟨yk,ya,yo,yn⟩ != 0) = true:=by simpa using hw
       have HN:=hd (zlb HX.o HY.o hw);have HNE:=hd (zjw H3.o HOK.o HX.o H8.o HALL.o HY.o hw);have HW:=hd hw;generalize wrongCl ⟨yk,ya,yo,yn⟩ = WC at *;clear hw;have eji:=HEI.o.trans ej;replace zaa:=zbx zaa eji;replace zad:=zbx zad eji;replace EW:=hd (EW.o.trans eji);clear eji ej;go_wp2_with ((with_reducible refine zT ?_ ?_); exact rfl)
       unfold Hid;refine zaX rfl 44 #[] rfl zM (by kernel_rfl) (fun v37 H_v37=>?_);go_wp2_with ((with_reducible refine zT ?_ ?_); exact rfl)
       unfold Hid;refine zab rfl 44 (.tmp 2) (.tmp 37) rfl b0 rfl _ (zcv H_v37) zaa rfl zaT rfl (fun w41_ M41=>?_);replace zaa:=zwb M41;go_wp2
       have z0:=zas (P:=Tryz.prog) 44 zaa.o zu44 (by kernel_rfl);refine bodyPost_ret (by simp [results,Tryz.results10,asAddr,z0]; rfl) rfl ?_;replace EW:=zwe M41 EW za1;exact ⟨_,rfl,EW.o,Rd.all fun w=>⟨_,_,rfl,.inr ⟨rfl,HW.o,HN.o⟩,HNE.o.symm⟩⟩
     ·have hqx : q = x.length:=by omega
      subst hqx;clear hql hq;have hei:=HEI.o;replace zaa:=zbx zaa hei;replace zad:=zbx zad hei;replace OC:=hd (zal OC.o hei);replace OCL:=hd (zal OCL.o hei);replace EW:=hd (EW.o.trans hei);clear hei;have c19:=zac (i:=19) zad.o rfl;go_wp2_with ((with_reducible refine zT ?_ ?_); exact rfl)
      unfold Hid;clear c19;refine zaX rfl 55 #[(0,.tmp 42)] rfl #[.slice xa x.length xcap,I 0,.bool false,I 0,.slice none 0 0,.slice none 0 0] (by kernel_rfl) (fun v43 H_v43=>?_);have hv43:=H_v43.o;subst hv43;clear H_v43;go_wp2_with ((with_reducible refine zT ?_ ?_); exact rfl)
      unfold Hid;refine zbR rfl 55 1 #[.slice xa x.length xcap,I 0,.bool false,I 0,.slice none 0 0,.slice none 0 0] (by kernel_rfl) (fun bl w41_ M41=>?_);go_wp2_with (first | (at_builtin; refine zbH ?_) | ((with_reducible refine zT ?_ ?_); exact rfl))
      unfold Hid;have hlit:=Row.of_owns (zfd (base:=0) (size:=6) (n:=1) M41.o (Nat.zero_le _) rfl (by decide));replace zad:=zmo M41 zad;have hszl : b1 + 1 <= w41_.heap.size:=(zlt zad);replace OCL:=hd (zal OCL.o M41.o.ext);refine zaF _ rfl (.tmp 41) (.tmp 44) 42 rfl (b1 + 1) 55 j0 (.agg zC) 6 96 zu42 HJ.o hy0 hy1 hy2 rfl (by decide) (.slice la k lcap) k _ rfl OCL.o _ rfl 1 _ hlit (zbw rfl) (by have:=H3.o; omega) (by decide) hszl ?_;intro v45 wq ho hg;clear hlit hszl;have hlo : ∀ b,b <= b1 -> (Value.slice la k lcap).ownBlock ≠ some b:=fun b hb e=>by have:=(OCL.o.lt b e).1; omega
      replace zaa:=zmo M41 zaa;have kb0:=ze1 hg zaa.o (hlo b0 (Nat.le_of_lt zao.o));have kb1:=ze1 hg zad.o (hlo b1 (Nat.le_refl _));replace OC:=hd (zal OC.o M41.o.ext);have koc:=OC.o.kept hg (zdx OC.o OCL.o (by decide));replace EW:=zet EW M41;have kew : Ext w wq:=EW.o.grown hg (fun b e=>by have q:=(OCL.o.lt b e).1; have q2:=zaV.o; omega);replace zaa:=hd kb0;replace zad:=hd kb1;replace OC:=hd koc;replace EW:=hd kew;clear kb0 kb1 koc kew hlo hg;have hcsn:=zlG cvs k _ HCVK.o;have OCN : Hid (wq.ownsRow (b1 + 1) 55 6 v45 (k + 1) (zei (cvs.take (k + 1))).flatten):=by unfold Hid; rw [hcsn]; exact ho
      clear ho OCL hcsn;obtain ⟨na,ncap,rfl⟩:=zc2 OCN.o;go_wp2_with ((with_reducible refine zT ?_ ?_); exact rfl)
      unfold Hid;refine zai rfl 42 (.tmp 46) (.tmp 45) rfl b1 19 rfl [.slice na (k + 1) ncap] (rfl) zad rfl zpB rfl [.slice (some ⟨bc,0,none⟩) 11 11,.slice none 0 0,.slice none 0 0,.slice none 0 0,I 0,.slice none 0 0,.bool false,I 0,I 0,I 0,I 0,I 0,I 0,.slice none 0 0,I 0,I 0,.bool true,I 0,I 0,.slice na (k + 1) ncap] rfl (fun w42_ M42=>?_);replace zad:=zwb M42;replace OCN:=hd (M42.o.owns OCN.o (fun e=>by have q:=(OCN.o.lt _ e).1; omega));go_wp2
      replace zaa:=zwl M42 zaa zao;replace OC:=hd (M42.o.owns OC.o (zim zqj.o));replace EW:=zwe M42 EW zaV;go_roundw
      case rel =>
       refine ⟨k + 1,_,by omega,by go_num,fun j x' hj hx'=>?_,zaa.o,zad.o,OC.o,OCN.o,EW.o⟩;by_cases hjk : j = k
       ·subst hjk;have hx2 : l[j]? = some x':=hx';rw [HX.o] at hx2;cases hx2
        refine ⟨by have:=H8.o; omega,fun y hy=>?_⟩;obtain ⟨q,hq⟩:=List.mem_iff_getElem?.1 hy;exact HALL.o q y (List.getElem?_eq_some_iff.1 hq).1 hq
       ·exact HOK.o j x' (by omega) hx'
      case measure=>simp [intOf]; omega
  ·have hkl : k = l.length:=by omega
   subst hkl
   have hrl : zbF l:=⟨by have:=H3.o; omega,fun c hc=>by
    obtain ⟨j,hj⟩:=List.mem_iff_getElem?.1 hc;exact HOK.o j c (List.getElem?_eq_some_iff.1 hj).1 hj⟩
   have HRL:=hd hrl;clear hrl;go_wp2_with ((with_reducible refine zT ?_ ?_); exact rfl)
   unfold Hid;refine zah rfl 44 (.tmp 4) rfl b1 rfl zad zu44 zaT (fun v48 H_v48=>?_);go_wp2_with ((with_reducible refine zT ?_ ?_); exact rfl)
   unfold Hid;refine zab rfl 44 (.tmp 2) (.tmp 48) rfl b0 rfl _ (zcv H_v48) zaa rfl zaT rfl (fun w41_ M41=>?_);replace zaa:=zwb M41;replace OCL:=hd (M41.o.owns OCL.o (fun e=>by have q:=(OCL.o.lt _ e).1; have q2:=zao.o; omega));go_wp2
   have z0:=zas (P:=Tryz.prog) 44 zaa.o zu44 (by kernel_rfl);refine bodyPost_ret (by simp [results,Tryz.results10,asAddr,z0]; rfl) rfl ?_;have hocl:=OCL.o;rw [List.take_of_length_le (by rw [HCL.o]; exact Nat.le_refl _)] at hocl;replace EW:=zwe M41 EW za1
   have hev : Rd A (fun w=>zde 6 zcJ w (zei cvs) (l.map zbY)) w41_:=(HE.o.ext EW.o).imp fun w hw=>zod HCL.o (fun k x cv hx hcv=>by
    have hk : k < css.length:=by rw [hw.1]; exact (List.getElem?_eq_some_iff.1 hx).1
    have hc : css[k]? = some css[k]:=List.getElem?_eq_getElem hk;obtain ⟨_,cv',h7,h8⟩:=hw.2 k _ x hc hx;have h9:=zc1 (by decide) hw.sizes hc (j:=0) (u:=cv') (by rw [h7]; rfl);rw [Nat.mul_one,Nat.add_zero,HCV.o,hcv] at h9;cases h9
    exact h8)
   have hcl:=ze0 (A:=fun k=>A k ∨ w.heap.size <= k) (fun k h _=>.inr (by have q:=zaV.o; omega)) (hev.widen fun k _ h=>.inl h) hocl (by decide);replace OC:=hd (M41.o.owns OC.o (zfe zqk.o));have hci:=(zdC OC.o).widen (B:=fun k=>A k ∨ w.heap.size <= k) (fun k _ h=>.inr (by have q:=zqy.o; omega));refine ⟨_,rfl,EW.o,(RdM.mc (m:=zbb l) (A:=fun k=>A k ∨ w.heap.size <= k) ⟨hci,Rd.all fun w=>zbh w,Rd.all fun w=>zax.nil w,Rd.all fun w=>zax.nil w,Rd.all fun w=>zax.nil w,Rd.all fun w=>zbh w,hcl⟩).imp fun w h=>⟨_,_,rfl,.inl ⟨rfl,HRL.o,h⟩,(zfz HRL.o).symm⟩⟩

theorem zlH {l : List (List Cl)} {r : Value} {A : Nat -> Prop} {w : World} (h : Rd A (zno l r) w) : ∃ (cs : List Value) (e : Int),r = .tuple #[.agg cs.toArray,I e] /\ ((e = 0 /\ zbF l /\ Rd A (fun w=>zdM w cs (zbb l)) w) ∨ (cs = zia /\ e ≠ 0 /\ ¬ zbF l)):=by
 obtain ⟨cs,e,e1,h1,-⟩:=h.o
 refine ⟨cs,e,e1,?_⟩
 rcases h1 with ⟨h2,h3,_⟩ | h2
 ·refine .inl ⟨h2,h3,h.imp fun w' hw=>?_⟩
  obtain ⟨cs2,e2,e3,h4,-⟩:=hw
  rw [e1] at e3
  have : cs = cs2 /\ e = e2:=by simpa using e3
  obtain ⟨rfl,rfl⟩:=this
  rcases h4 with ⟨_,_,h5⟩ | ⟨_,_,h5⟩
  ·exact h5
  ·exact absurd h3 h5
 ·exact .inr h2

theorem zpj {l : List (List Cl)} {r : Value} {A : Nat -> Prop} {w : World} (h : Rd A (zno l r) w) : ∃ (cs : List Value),r = .tuple #[.agg cs.toArray,I (zfZ l)] /\ ((zfZ l = 0 /\ zbF l /\ Rd A (fun w=>zdM w cs (zbb l)) w) ∨ (cs = zia /\ zfZ l ≠ 0 /\ ¬ zbF l)):=by
 obtain ⟨_,_,e1,_,he⟩:=h.o
 obtain ⟨cs,e,e2,h2⟩:=zlH h
 rw [e1] at e2
 simp at e2
 obtain ⟨rfl,rfl⟩:=e2
 subst he
 exact ⟨_,e1,h2⟩

theorem zkh (v : Value) (l : List (List Cl)) (w : World) (hv : zax 1 ze9 w v l) :
  Calls Tryz.prog 5 #[v] w fun e w'=>∃ b,e = .returned (.bool b) /\ (b = true ↔ zbF l) /\ Ext w w':=by
 have hrv : Rd (fun k=>k < w.heap.size) (fun w=>zax 1 ze9 w v l) w:=Rd.of (zfE zka v l) hv;have HV:=hd hrv;clear hrv hv;go_enter Tryz.func5,Tryz.ntmps5
 go_wp2_with fail
 refine (zhb v l w _ HV.o).to fun r w1 e1 hr=>?_;obtain ⟨cs,e,rfl,hcs⟩:=zlH hr;clear hr;have EW:=hd e1;clear e1;rcases hcs with ⟨rfl,hrl,hcs⟩ | ⟨rfl,hne,hrl⟩
 ·obtain ⟨c',u',a',p',box',plan',cl',rfl,hm⟩:=zc3 hcs;obtain ⟨ca',cc',ua',uc',aa',ac',pa',pc',xa',xc',la',lc',ka',kc',rfl,rfl,rfl,rfl,rfl,rfl,rfl⟩:=hm.slices;have HRL:=hd hrl;clear hcs hm hrl;have Q0 : Hid (w.heap.size <= w1.heap.size):=EW.o.size;go_wp2_with ((with_reducible refine zT ?_ ?_); exact rfl)
  unfold Hid;refine zae rfl 44 zM (by kernel_rfl) (fun b0 w1_ M1=>?_);have zaa:=zmb M1;have za1 : Hid (w.heap.size <= b0):=by unfold Hid; have q:=M1.o.at_; have q2:=Q0.o; omega
  go_wp2_with ((with_reducible refine zT ?_ ?_); exact rfl)
  unfold Hid;refine zab rfl 44 (.tmp 3) (.tmp 8) rfl b0 rfl [.slice ca' (zbb l).store.cells.length cc',.slice ua' (zbb l).store.undo.length uc',.slice aa' (zbb l).store.answers.length ac',.slice pa' (zbb l).store.past.length pc',I (zbb l).server.gen,.slice xa' (zbb l).server.box.length xc',.bool (zbb l).server.busy,I (zbb l).server.now.client,I (zbb l).server.now.token,I (zbb l).server.now.call.kind,I (zbb l).server.now.call.name,I (zbb l).server.now.call.other,I (zbb l).server.now.call.n,.slice la' (zbb l).server.plan.length lc',I (zbb l).server.says.err,I (zbb l).server.says.n,.bool (zbb l).up,I (zbb l).pause,I (zbb l).falls,.slice ka' (zbb l).clients.length kc'] (rfl) zaa rfl zaT rfl (fun w2_ M2=>?_);replace zaa:=zwb M2;go_wp2
  go_ret
  replace EW:=zwe M2 (zet EW M1) za1;exact ⟨_,rfl,⟨fun _=>HRL.o,fun _=>rfl⟩,EW.o⟩
 ·have hb : (e == 0) = false:=by simpa using hne
  have HRL:=hd hrl;clear hne hrl;unfold zia;have Q0 : Hid (w.heap.size <= w1.heap.size):=EW.o.size;go_wp2_with ((with_reducible refine zT ?_ ?_); exact rfl)
  unfold Hid;refine zae rfl 44 zM (by kernel_rfl) (fun b0 w1_ M1=>?_);have zaa:=zmb M1;have za1 : Hid (w.heap.size <= b0):=by unfold Hid; have q:=M1.o.at_; have q2:=Q0.o; omega
  go_wp2_with ((with_reducible refine zT ?_ ?_); exact rfl)
  unfold Hid;refine zab rfl 44 (.tmp 3) (.tmp 8) rfl b0 rfl [.slice none 0 0,.slice none 0 0,.slice none 0 0,.slice none 0 0,I 0,.slice none 0 0,.bool false,I 0,I 0,I 0,I 0,I 0,I 0,.slice none 0 0,I 0,I 0,.bool false,I 0,I 0,.slice none 0 0] (rfl) zaa rfl zaT rfl (fun w2_ M2=>?_);replace zaa:=zwb M2;go_wp2
  go_ret
  replace EW:=zwe M2 (zet EW M1) za1;exact ⟨_,rfl,⟨(fun h=>by cases h),fun h=>absurd h HRL.o⟩,EW.o⟩

end Go.Proofs.YtikbhmnjlmbeeafGreat

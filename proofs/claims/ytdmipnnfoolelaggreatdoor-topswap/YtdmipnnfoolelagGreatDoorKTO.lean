/- zbb of the proof, merged: N4a N4 N5 R1 R2 R3 R4 R5 R6 R7 D4 D5 D5b D5c D5d D5e N6a N6 N7 N9 V2 V3 G1. -/
import Derived.Test.YtdmipnnfoolelagGreatDoorKTA
import Derived.Test.YtdmipnnfoolelagGreatDoorKTE
import Derived.Test.YtdmipnnfoolelagGreatDoorKTN
import Derived.Test.YtdmipnnfoolelagGreatDoorKTM
import Derived.Test.YtdmipnnfoolelagGreatDoorKTD
import Derived.Test.YtdmipnnfoolelagGreatDoorKTI
import Derived.Test.YtdmipnnfoolelagGreatDoorKTC
import Derived.Lib.Hide
set_option maxHeartbeats 4000000
set_option maxRecDepth 100000

namespace Go.Proofs.YtdmipnnfoolelagGreatDoor
open Go.RowKit Go.Mk

def zcj (l:List Rp):List Value:=l.flatMap fun x=>[I x.err,I x.n]
theorem zj8 (l:List Rp):(zcj l).length=l.length * 2:=by
 unfold zcj
 induction l with
 | nil=>rfl
 | cons p l ih=>simp [List.flatMap_cons,ih]; omega
theorem zjZ (l m:List Rp):zcj (l++m)=zcj l++zcj m:=by simp [zcj]
theorem zom (l:List Rp):∀ u ∈ zcj l,u.oneCell'=true:=by
 intro u hu
 unfold zcj at hu
 rw [List.mem_flatMap] at hu
 obtain ⟨p,_,hp⟩:=hu
 simp at hp
 rcases hp with rfl | rfl <;> rfl
theorem zk2 {w:World} {v:Value} {l:List Rp}:zaj 2 zeT w v l↔Row w 2 v l.length (zcj l):=zcc (f:=fun (x:Rp)=>[I x.err,I x.n]) (fun _=>rfl)
theorem zhQ {base e n:Nat} {v:Value} {l:List Rp} {w:World} (h:w.ownsRow base e 2 v n (zcj l)):Rd (fun k=>base<=k) (fun w=>zaj 2 zeT w v l) w:=by
 have hl:l.length=n:=by have:=h.1; rw [zj8] at this; omega
 subst hl
 exact (zdy h).imp fun w h=>zk2.2 h

def zpA {X:Type} (R:El X) (x:X) (b:List UInt8) (e:Int) (r:Value) (w:World):Prop:=∃ (cs:List Value) (bv:Value),r=.tuple #[.agg cs.toArray,bv,I e]/\R w cs x/\za4 w bv b
theorem zpw {X:Type} {R:El X} {x:X} {b:List UInt8} {e:Int} {r:Value} {A:Nat->Prop} {w:World} (h:Rd A (zpA R x b e r) w):∃ (cs:List Value) (bv:Value),r=.tuple #[.agg cs.toArray,bv,I e]/\Rd A (fun w=>R w cs x) w/\Rd A (fun w=>za4 w bv b) w:=by
 obtain ⟨cs,bv,e1,_⟩:=h.o
 have key:∀ w',zpA R x b e r w'->R w' cs x/\za4 w' bv b:=fun w' ⟨cs2,bv2,e2,h3⟩=>by
  rw [e1] at e2
  have:cs=cs2/\bv=bv2:=by simpa using e2
  obtain ⟨rfl,rfl⟩:=this
  exact h3
 exact ⟨cs,bv,e1,h.imp fun w' hw=>(key w' hw).1,h.imp fun w' hw=>(key w' hw).2⟩
theorem zlh {X:Type} {R:El X} {x:X} {b:List UInt8} {e:Int} {cs:List Value} {bv:Value} {A:Nat->Prop} {w:World} (h:Rd A (fun w=>R w cs x) w) (h2:Rd A (fun w=>za4 w bv b) w):Rd A (zpA R x b e (.tuple #[.agg cs.toArray,bv,I e])) w:=(h.and h2).imp fun _ h=>⟨cs,bv,rfl,h.1,h.2⟩

theorem zk7 {A:Nat->Prop} {w:World} {v:Value} {b:List UInt8} {l:List (List UInt8)} (h:Rd A (fun w=>zaj 1 zcI w v (b::l)) w):∃ xb xo xc bv,v=.slice (some ⟨xb,xo,none⟩) (l.length+1) xc/\l.length+1<=xc/\xc<=maxLen/\Rd A (fun w=>w.cell? ⟨xb,xo,none⟩=some bv/\za4 w bv b) w/\Rd A (fun w=>zaj 1 zcI w (.slice (some ⟨xb,xo+1,none⟩) l.length (xc - 1)) l) w:=by
 obtain ⟨css,h2⟩:=zdo (by decide) h
 obtain ⟨he,hl,ao,xc,e,h3,h4,h0,h5⟩:=h2.o
 obtain ⟨c,css',rfl⟩:∃ c css',css=c::css':=by
  cases css with
  | nil=>have:=he.1; simp at this
  | cons c css'=>exact ⟨c,css',rfl⟩
 obtain ⟨hc,bv,rfl,hb⟩:=he.2 0 c b rfl rfl
 obtain ⟨xb,xo,rfl,hcell⟩:=h5 0 bv rfl
 refine ⟨xb,xo,xc,bv,e,by simpa using h3,h4,h2.imp fun w' hw=>?_,h.imp fun w' hw=>?_⟩
 ·obtain ⟨he',hl',ao',xc',e',_,_,_,h5'⟩:=hw
  obtain ⟨_,bv',e1,hb'⟩:=he'.2 0 _ b rfl rfl
  simp at e1
  subst e1
  obtain ⟨xb',xo',ea,hcell'⟩:=h5' 0 bv rfl
  rw [e,ea] at e'
  simp only [Value.slice.injEq,Option.some.injEq,Addr.mk.injEq,and_true] at e'
  obtain ⟨⟨rfl,rfl⟩,_⟩:=e'
  exact ⟨hcell',hb'⟩
 ·rw [e] at hw
  have:=zaj.drop (by decide) hw 1 (by simp)
  simpa using this

open Go.RowKit Go.Mk

open Go.RowKit Go.Mk

theorem Tryz.infoRp:(Tryz.prog.info? 38).map (fun i=>(i.zero,i.size,i.bytes))=some (some (.agg #[.int .i64 0,.int .i64 0]),2,16):=by kernel_rfl

open Go.RowKit Go.Mk

open Go.RowKit Go.Mk

open Go.RowKit Go.Mk

open Go.RowKit Go.Mk

open Go.RowKit Go.Mk

open Go.RowKit Go.Mk

open Go.RowKit Go.Mk

open Go.RowKit Go.Mk

open Go.RowKit Go.Mk

open Go.RowKit Go.Mk

open Go.RowKit Go.Mk

open Go.RowKit Go.Mk

open Go.RowKit Go.Mk

open Go.RowKit Go.Mk

def zrh (s:St) (v:Sv) (b:List UInt8) (e:Int) (r:Value) (w:World):Prop:=∃ (cs ds:List Value) (bv:Value),r=.tuple #[.agg cs.toArray,.agg ds.toArray,bv,I e]/\zc7 w cs s/\zg3 w ds v/\za4 w bv b
theorem ztB {s:St} {v:Sv} {b:List UInt8} {e:Int} {r:Value} {A:Nat->Prop} {w:World} (h:Rd A (zrh s v b e r) w):∃ (cs ds:List Value) (bv:Value),r=.tuple #[.agg cs.toArray,.agg ds.toArray,bv,I e]/\Rd A (fun w=>zc7 w cs s) w/\Rd A (fun w=>zg3 w ds v) w/\Rd A (fun w=>za4 w bv b) w:=by
 obtain ⟨cs,ds,bv,e1,_⟩:=h.o
 have key:∀ w',zrh s v b e r w'->zc7 w' cs s/\zg3 w' ds v/\za4 w' bv b:=fun w' ⟨cs2,ds2,bv2,e2,h3⟩=>by
  rw [e1] at e2
  have:cs=cs2/\ds=ds2/\bv=bv2:=by simpa using e2
  obtain ⟨rfl,rfl,rfl⟩:=this
  exact h3
 exact ⟨cs,ds,bv,e1,h.imp fun w' hw=>(key w' hw).1,h.imp fun w' hw=>(key w' hw).2.1,h.imp fun w' hw=>(key w' hw).2.2⟩
theorem ziE {s:St} {v:Sv} {b:List UInt8} {e:Int} {cs ds:List Value} {bv:Value} {A:Nat->Prop} {w:World} (h:Rd A (fun w=>zc7 w cs s) w) (h2:Rd A (fun w=>zg3 w ds v) w) (h3:Rd A (fun w=>za4 w bv b) w):Rd A (zrh s v b e (.tuple #[.agg cs.toArray,.agg ds.toArray,bv,I e])) w :=
 (h.and (h2.and h3)).imp fun _ h=>⟨cs,ds,bv,rfl,h.1,h.2.1,h.2.2⟩

theorem zoL {A:Nat->Prop} {w:World} {v:Value} {p:Int×Int} {l:List (Int×Int)} (h:Rd A (fun w=>zar w v (p::l)) w):∃ lb lo lc,v=.slice (some ⟨lb,lo,none⟩) (l.length+1) lc/\l.length+1<=lc/\lc<=maxLen/\Rd A (fun w=>w.cell? ⟨lb,lo,none⟩=some (I p.1)/\w.cell? ⟨lb,lo+1,none⟩=some (I p.2)) w/\Rd A (fun w=>zar w (.slice (some ⟨lb,lo+2,none⟩) l.length (lc - 1)) l) w:=by
 obtain ⟨hl,ao,lc,e,h3,h4,h0,h5⟩:=h.o
 obtain ⟨lb,lo,rfl,-⟩:=h5 0 (I p.1) rfl
 have key:∀ w',zar w' v (p::l)->∀ j u,(zaC (p::l))[j]?=some u->w'.cell? ⟨lb,lo+j,none⟩=some u:=fun w' hw j u hj=>by
  obtain ⟨_,ao',lc',e',_,_,_,h5'⟩:=hw
  obtain ⟨b,o,ea,hc⟩:=h5' j u hj
  rw [e,ea] at e'
  simp only [Value.slice.injEq,Option.some.injEq,Addr.mk.injEq,and_true] at e'
  obtain ⟨⟨rfl,rfl⟩,_⟩:=e'
  exact hc
 refine ⟨lb,lo,lc,e,by simpa using h3,h4,h.imp fun w' hw=>⟨key w' hw 0 _ rfl,key w' hw 1 _ rfl⟩,h.imp fun w' hw=>?_⟩
 refine ⟨zcd l,_,_,rfl,by simp at h3; omega,by omega,(fun h=>by cases h),fun j u hj=>⟨lb,lo+2,rfl,?_⟩⟩
 have:=key w' hw (j+2) u (by simpa [zaC] using hj)
 rw [show lo+2+j=lo+(j+2) by omega]
 exact this
theorem zlo (w:World) (b off cap:Nat) (hc:cap<=maxLen):zar w (.slice (some ⟨b,off,none⟩) 0 cap) []:=zqt w b off cap hc

theorem zop {b:List UInt8} (h:(readRq b).2=0):zbI (readRq b).1=0:=by
 unfold readRq at *
 split at h
 ·exact absurd h (by decide)
 ·split at h
  ·rename_i h2 h3; exact absurd h h3
  ·rename_i h2 h3
   rw [if_neg h2,if_neg h3]
   exact Classical.byContradiction h3
theorem Has.rd {base:Nat} {w:World} {u:Value} {l:List (Int×Int)} (h:Has base w u l):Rd (fun k=>base<=k) (fun w=>zar w u l) w:=by
 obtain ⟨x,m,lo,h1,h2⟩:=h
 intro w2 hw
 refine h2 w2 ⟨h1.1,?_⟩
 rcases h1.2 with h | ⟨g,cap,cur,e,hb,hg,hr⟩
 ·exact .inl h
 ·exact .inr ⟨g,cap,cur,e,hb,by rw [hw g hb (Array.getElem?_eq_some_iff.1 hg).1]; exact hg,hr⟩

open Go.RowKit Go.Mk

open Go.RowKit Go.Mk

open Go.RowKit Go.Mk

abbrev zeP (v:Sv) (box plan:Value):List Value:=[I v.gen,box,.bool v.busy,I v.now.client,I v.now.token,I v.now.call.kind,I v.now.call.name,I v.now.call.other,I v.now.call.n,plan,I v.says.err,I v.says.n]

open Go.RowKit Go.Mk

structure OwnSv (base:Nat) (w:World) (box plan:Value) (v:Sv):Prop where
 box:zcH base w box v.box
 plan:w.ownsRow base 52 2 plan v.plan.length (zaC v.plan)
theorem OwnSv.ext {base:Nat} {w w':World} {box plan:Value} {v:Sv} (h:OwnSv base w box plan v) (he:Ext w w'):OwnSv base w' box plan v:=⟨h.box.ext he,zai h.plan he⟩
theorem OwnSv.low {base b2:Nat} {w:World} {box plan:Value} {v:Sv} (h:OwnSv base w box plan v) (hb:b2<=base):OwnSv b2 w box plan v:=⟨h.box.low hb,zaL h.plan hb⟩
theorem zcH.slice {base:Nat} {w:World} {u:Value} {bl:List (List UInt8)} (h:zcH base w u bl):∃ ao cap,u=.slice ao bl.length cap:=by
 obtain ⟨evs,h1,_⟩:=h
 exact zaD h1

def zjV (v:Sv):Prop:=v.box.length<=1000/\(∀ b ∈ v.box,b.length<=140737488355328)/\v.plan.length<=1000

theorem zg9 (v:Sv) (box plan:Value) (w:World) (hb:zaj 1 zcI w box v.box) (hp:zar w plan v.plan) (hs:zjV v) :
  zaw Tryz.prog 47 #[.agg (zeP v box plan).toArray] w fun r w'=>∃ box' plan',r=.agg (zeP v box' plan').toArray/\OwnSv w.heap.size w' box' plan' v/\∃ g,box'=.slice (some ⟨g,0,none⟩) v.box.length v.box.length:=by
 unfold zaw;have HS:=zhd hs;clear hs;obtain ⟨xa,xc,rfl⟩:=zaf hb;obtain ⟨la,lc,rfl⟩:=zao hp;have HB:=zhd hb;have HP:=zhd hp;clear hb hp;have EW:=zhd (Ext.refl w);go_enter Tryz.func47,Tryz.ntmps47
 go_wp2_with (with_reducible refine zT ?_)
 refine zam rfl 40 (.tmp 0) rfl #[I v.gen,.slice xa v.box.length xc,.bool v.busy,I v.now.client,I v.now.token,I v.now.call.kind,I v.now.call.name,I v.now.call.other,I v.now.call.n,.slice la v.plan.length lc,I v.says.err,I v.says.n] rfl (fun b0 w1_ M1=>?_);have zab:=zmb M1;have zcO:Hid (w.heap.size<=b0):=by unfold Hid; have q:=M1.o.at_; omega
 go_wp2_with (with_reducible refine zT ?_)
 refine zac rfl 40 zS (by kernel_rfl) (fun b1 w2_ M2=>?_);have zaQ:=zld zab M2;have zad:=zmb M2;have za9:Hid (w.heap.size<=b1):=by unfold Hid; have q:=zaQ.o; have q2:=zcO.o; omega
 replace zab:=zmo M2 zab;have c1:=zae (i:=1) zab.o rfl;go_wp2_with fail
 clear c1;replace EW:=zet (zet EW M1) M2;refine (ziS _ v.box w2_ (HB.o.ext zdK EW.o) (by have:=HS.o.1; omega) HS.o.2.1).to fun r w2 e2 hr=>?_;obtain ⟨hr,yg,rfl⟩:=hr;have OB:=zhd (hr.low (b2:=w.heap.size) EW.o.size);clear hr;replace zab:=zbx zab e2;replace zad:=zbx zad e2;replace EW:=zhd (EW.o.trans e2);clear e2;go_wp2_with (with_reducible refine zT ?_)
 refine zaq rfl 31 (.tmp 6) (.tmp 5) rfl b0 1 rfl [.slice (some ⟨yg,0,none⟩) v.box.length v.box.length] (rfl) zab rfl zqR rfl [I v.gen,.slice (some ⟨yg,0,none⟩) v.box.length v.box.length,.bool v.busy,I v.now.client,I v.now.token,I v.now.call.kind,I v.now.call.name,I v.now.call.other,I v.now.call.n,.slice la v.plan.length lc,I v.says.err,I v.says.n] rfl (fun w3_ M3=>?_);replace OB:=zhd (OB.o.kept M3.o.grown zab.o (by decide) (by decide));replace zab:=zwb M3;have c9:=zae (i:=9) zab.o rfl;go_wp2_with fail
 clear c9;replace EW:=zwe M3 EW zcO;refine (zny _ v.plan w3_ (HP.o.ext EW.o) (by have:=HS.o.2.2; omega)).to fun r w4 e4 hr=>?_;obtain ⟨za,zc,rfl⟩:=zaD hr;have OP:=zhd (zaL hr (b2:=w.heap.size) EW.o.size);clear hr;replace zad:=zbx (zwg M3 zad zaQ) e4;replace zab:=zbx zab e4;replace OB:=zhd (OB.o.ext e4);replace EW:=zhd (EW.o.trans e4);clear e4;go_wp2_with (with_reducible refine zT ?_)
 refine zaq rfl 26 (.tmp 10) (.tmp 9) rfl b0 9 rfl [.slice za v.plan.length zc] (rfl) zab rfl ztc rfl [I v.gen,.slice (some ⟨yg,0,none⟩) v.box.length v.box.length,.bool v.busy,I v.now.client,I v.now.token,I v.now.call.kind,I v.now.call.name,I v.now.call.other,I v.now.call.n,.slice za v.plan.length zc,I v.says.err,I v.says.n] rfl (fun w4_ M4=>?_);replace OP:=zhd (OP.o.kept M4.o.grown (.inr (zaH OP.o zab.o (by decide))));replace OB:=zhd (OB.o.kept M4.o.grown zab.o (by decide) (by decide));replace zab:=zwb M4;go_wp2_with (with_reducible refine zT ?_)
 refine zah rfl 40 (.tmp 1) rfl b0 rfl zab zda zdp (fun v11 H_v11=>?_);go_wp2_with (with_reducible refine zT ?_)
 replace zad:=zwg M4 zad zaQ;refine zaa rfl 40 (.tmp 2) (.tmp 11) rfl b1 rfl _ (zcv H_v11) zad rfl zdp rfl (fun w5_ M5=>?_);replace OP:=zhd (OP.o.kept M5.o.grown (.inr (zaH OP.o zad.o (by decide))));replace OB:=zhd (OB.o.kept M5.o.grown zad.o (by decide) (by decide));replace zad:=zwb M5;go_wp2
 have z0:=zau (P:=Tryz.prog) 40 zad.o zda (by kernel_rfl);refine bodyPost_ret (by simp [results,Tryz.results47,asAddr,z0,Act.put]; rfl) rfl ?_;replace EW:=zwe M5 (zwe M4 EW zcO) za9;exact ⟨_,rfl,EW.o,_,_,rfl,⟨OB.o,OP.o⟩,_,rfl⟩

open Go.RowKit Go.Mk

theorem OwnSv.rd {base:Nat} {w:World} {box plan:Value} {v:Sv} {B:Nat->Prop} (h:OwnSv base w box plan v) (hB:∀ g,base<=g->(∀ cs t,w.heap[g]?=some (.cells cs t (0,0))->t=70∨t=5∨t=52)->B g) :
  Rd B (fun w=>zaj 1 zcI w box v.box) w/\Rd B (fun w=>zar w plan v.plan) w:=by
 refine ⟨h.box.rd fun g hg ht=>hB g hg fun cs t hc=>?_,zct h.plan fun g hg=>hB g (h.plan.lt g hg).1 fun cs t hc=>?_⟩
 ·rcases ht cs t hc with e | e
  ·exact .inl e
  ·exact .inr (.inl e)
 ·by_cases hne:(52:Nat)=t
  ·exact .inr (.inr hne.symm)
  ·exact absurd hg (zaH h.plan hc hne)
theorem zcH.snoc {base:Nat} {w:World} {u ev:Value} {bl:List (List UInt8)} {b:List UInt8} {evs:List Value} (h:∀ (i:Nat) (b:List UInt8),bl[i]?=some b->∃ ev,evs[i]?=some ev/\w.ownsRow base 5 1 ev b.length (b.map U)) (hl:evs.length=bl.length) (hu:w.ownsRow base 70 1 u (bl.length+1) (evs++[ev])) (he:w.ownsRow base 5 1 ev b.length (b.map U)):zcH base w u (bl++[b]):=by
 refine ⟨evs++[ev],by rw [List.length_append]; exact hu,fun i x hx=>?_⟩
 by_cases hi:i < bl.length
 ·rw [List.getElem?_append_left hi] at hx
  obtain ⟨e2,h3,h4⟩:=h i x hx
  exact ⟨e2,by rw [List.getElem?_append_left (by omega)]; exact h3,h4⟩
 ·rw [List.getElem?_append_right (by omega)] at hx
  have h0:i - bl.length=0:=by
   have:=(List.getElem?_eq_some_iff.1 hx).1
   simp at this
   omega
  rw [h0] at hx
  simp at hx
  subst hx
  exact ⟨ev,by rw [List.getElem?_append_right (by omega),show i - evs.length=0 by omega]; rfl,he⟩
theorem zcH.list {base:Nat} {w:World} {u:Value} {bl:List (List UInt8)} (h:zcH base w u bl):∃ evs:List Value,evs.length=bl.length/\w.ownsRow base 70 1 u bl.length evs/\∀ (i:Nat) (b:List UInt8),bl[i]?=some b->∃ ev,evs[i]?=some ev/\w.ownsRow base 5 1 ev b.length (b.map U):=by
 obtain ⟨evs,h1,h2⟩:=h
 exact ⟨evs,by have:=h1.1; simpa using this,h1,h2⟩
theorem ziR (base:Nat) (bl:List (List UInt8)):∀ v,zb9 (fun w=>zcH base w v bl):=fun _ _ _ he h=>h.ext he

theorem zsw (v:Sv) (box plan bv:Value) (b:List UInt8) (w:World) (hb:zaj 1 zcI w box v.box) (hp:zar w plan v.plan) (hv:za4 w bv b) (hs:zjV v) (hbl:b.length<=140737488355328) :
  zaw Tryz.prog 101 #[.agg (zeP v box plan).toArray,bv] w fun r w'=>∃ box' plan',r=.tuple #[.agg (zeP (zbZ v b).1 box' plan').toArray,I (zbZ v b).2]/\OwnSv w.heap.size w' box' plan' (zbZ v b).1:=by
 unfold zaw;have HS:=zhd hs;have HBL:=zhd hbl;clear hs hbl;obtain ⟨xa,xc,rfl⟩:=zaf hb;obtain ⟨la,lc,rfl⟩:=zao hp;obtain ⟨va,vc,rfl⟩:=zao hv;have HB:=zhd hb;have HP:=zhd hp;have HV:=zhd hv;clear hb hp hv;have EW:=zhd (Ext.refl w);obtain ⟨i0,hi,hz0,hz1,hz2⟩:=info_parts Tryz.infoBs;have HI:=zhd hi;clear hi;have hX:zbZ v b=if 3<=v.box.length then (v,9) else ({ v with box:=v.box++[b] },0):=rfl;rw [hX];clear hX;by_cases h3:3<=v.box.length
 case pos =>
  rw [if_pos h3];have h3i:(3:Int)<=(v.box.length:Int):=by omega
  clear h3;go_enter Tryz.func101,Tryz.ntmps101
  go_wp2_with (with_reducible refine zT ?_)
  refine zam rfl 40 (.tmp 0) rfl #[I v.gen,.slice xa v.box.length xc,.bool v.busy,I v.now.client,I v.now.token,I v.now.call.kind,I v.now.call.name,I v.now.call.other,I v.now.call.n,.slice la v.plan.length lc,I v.says.err,I v.says.n] rfl (fun b0 w1_ M1=>?_);have zab:=zmb M1;have zcO:Hid (w.heap.size<=b0):=by unfold Hid; have q:=M1.o.at_; omega
  go_wp2_with (with_reducible refine zT ?_)
  refine zac rfl 40 zS (by kernel_rfl) (fun b1 w2_ M2=>?_);have zaQ:=zld zab M2;have zad:=zmb M2;have za9:Hid (w.heap.size<=b1):=by unfold Hid; have q:=zaQ.o; have q2:=zcO.o; omega
  go_wp2_with (with_reducible refine zT ?_)
  replace zab:=zmo M2 zab;refine zah rfl 40 (.tmp 2) rfl b0 rfl zab zda zdp (fun v7 H_v7=>?_);go_wp2_with fail
  rw [H_v7.o];replace EW:=zet (zet EW M1) M2;refine (zg9 v _ _ w2_ (HB.o.ext zdK EW.o) (HP.o.ext EW.o) HS.o).to fun r w2 e2 hr=>?_;obtain ⟨box',plan',rfl,ho,yg,rfl⟩:=hr;obtain ⟨za,zc,rfl⟩:=zaD ho.plan;have OS:=zhd (ho.low (b2:=w.heap.size) EW.o.size);clear ho H_v7;replace zab:=zbx zab e2;replace zad:=zbx zad e2;replace EW:=zhd (EW.o.trans e2);clear e2;go_wp2_with (with_reducible refine zT ?_)
  refine zac rfl 40 zS (by kernel_rfl) (fun b2 w3_ M3=>?_);have zbt:=zld zab M3;have zaW:=zld zad M3;have zal:=zmb M3;have zcg:Hid (w.heap.size<=b2):=by unfold Hid; have q:=zbt.o; have q2:=zcO.o; omega
  go_wp2_with (with_reducible refine zT ?_)
  refine zaa rfl 40 (.tmp 6) (.tmp 8) rfl b2 rfl [I v.gen,.slice (some ⟨yg,0,none⟩) v.box.length v.box.length,.bool v.busy,I v.now.client,I v.now.token,I v.now.call.kind,I v.now.call.name,I v.now.call.other,I v.now.call.n,.slice za v.plan.length zc,I v.says.err,I v.says.n] (rfl) zal rfl zdp rfl (fun w4_ M4=>?_);replace OS:=zhd (OS.o.ext M3.o.ext);replace OS:=zhd ((⟨OS.o.box.kept M4.o.grown zal.o (by decide) (by decide),OS.o.plan.kept M4.o.grown (.inr (zaH OS.o.plan zal.o (by decide)))⟩:OwnSv _ _ _ _ _));replace zal:=zwb M4;replace zab:=zwl M4 (zmo M3 zab) zbt;have c1:=zae (i:=1) zab.o rfl;go_wp2_with (with_reducible refine zT ?_)
  clear c1 h3i;refine zah rfl 40 (.tmp 6) rfl b2 rfl zal zda zdp (fun v13 H_v13=>?_);go_wp2_with (with_reducible refine zT ?_)
  replace zad:=zwl M4 (zmo M3 zad) zaW;refine zaa rfl 40 (.tmp 4) (.tmp 13) rfl b1 rfl _ (zcv H_v13) zad rfl zdp rfl (fun w5_ M5=>?_);replace OS:=zhd ((⟨OS.o.box.kept M5.o.grown zad.o (by decide) (by decide),OS.o.plan.kept M5.o.grown (.inr (zaH OS.o.plan zad.o (by decide)))⟩:OwnSv _ _ _ _ _));replace zad:=zwb M5;go_wp2
  have z0:=zau (P:=Tryz.prog) 40 zad.o zda (by kernel_rfl);refine bodyPost_ret (by simp [results,Tryz.results101,asAddr,z0]; rfl) rfl ?_;replace EW:=zwe M5 (zwe M4 (zet EW M3) zcg) za9;exact ⟨_,rfl,EW.o,_,_,rfl,OS.o⟩
 rw [if_neg h3];have h3i:¬ ((3:Int)<=(v.box.length:Int)):=by omega
 clear h3;go_enter Tryz.func101,Tryz.ntmps101
 go_wp2_with (with_reducible refine zT ?_)
 refine zam rfl 40 (.tmp 0) rfl #[I v.gen,.slice xa v.box.length xc,.bool v.busy,I v.now.client,I v.now.token,I v.now.call.kind,I v.now.call.name,I v.now.call.other,I v.now.call.n,.slice la v.plan.length lc,I v.says.err,I v.says.n] rfl (fun b0 w1_ M1=>?_);have zab:=zmb M1;have zcO:Hid (w.heap.size<=b0):=by unfold Hid; have q:=M1.o.at_; omega
 go_wp2_with (with_reducible refine zT ?_)
 refine zac rfl 40 zS (by kernel_rfl) (fun b1 w2_ M2=>?_);have zaQ:=zld zab M2;have zad:=zmb M2;have za9:Hid (w.heap.size<=b1):=by unfold Hid; have q:=zaQ.o; have q2:=zcO.o; omega
 go_wp2_with (with_reducible refine zT ?_)
 replace zab:=zmo M2 zab;refine zah rfl 40 (.tmp 2) rfl b0 rfl zab zda zdp (fun v7 H_v7=>?_);go_wp2_with fail
 rw [H_v7.o];replace EW:=zet (zet EW M1) M2;refine (zg9 v _ _ w2_ (HB.o.ext zdK EW.o) (HP.o.ext EW.o) HS.o).to fun r w2 e2 hr=>?_;obtain ⟨box',plan',rfl,ho,yg,rfl⟩:=hr;obtain ⟨za,zc,rfl⟩:=zaD ho.plan;have OS:=zhd (ho.low (b2:=w.heap.size) EW.o.size);clear ho H_v7;replace zab:=zbx zab e2;replace zad:=zbx zad e2;replace EW:=zhd (EW.o.trans e2);clear e2;go_wp2_with (with_reducible refine zT ?_)
 refine zac rfl 40 zS (by kernel_rfl) (fun b2 w3_ M3=>?_);have zbt:=zld zab M3;have zaW:=zld zad M3;have zal:=zmb M3;have zcg:Hid (w.heap.size<=b2):=by unfold Hid; have q:=zbt.o; have q2:=zcO.o; omega
 go_wp2_with (with_reducible refine zT ?_)
 refine zaa rfl 40 (.tmp 6) (.tmp 8) rfl b2 rfl [I v.gen,.slice (some ⟨yg,0,none⟩) v.box.length v.box.length,.bool v.busy,I v.now.client,I v.now.token,I v.now.call.kind,I v.now.call.name,I v.now.call.other,I v.now.call.n,.slice za v.plan.length zc,I v.says.err,I v.says.n] (rfl) zal rfl zdp rfl (fun w4_ M4=>?_);replace OS:=zhd (OS.o.ext M3.o.ext);replace OS:=zhd ((⟨OS.o.box.kept M4.o.grown zal.o (by decide) (by decide),OS.o.plan.kept M4.o.grown (.inr (zaH OS.o.plan zal.o (by decide)))⟩:OwnSv _ _ _ _ _));replace zal:=zwb M4;replace zab:=zwl M4 (zmo M3 zab) zbt;have c1:=zae (i:=1) zab.o rfl;go_wp2_with fail
 clear c1 h3i;have c1:=zae (i:=1) zal.o rfl;have hcw:=c1;replace zad:=zwl M4 (zmo M3 zad) zaW;replace EW:=zwe M4 (zet EW M3) zcg;refine zap 7 [none,none,none,some (.inr (fun r wx=>wx.ownsRow w.heap.size 5 1 r b.length (b.map U))),some (.inr (fun r wx=>∃ ev,Row wx 1 r 1 [ev]/\ev.oneCell'=true/\wx.ownsRow w.heap.size 5 1 ev b.length (b.map U))),some (.inr (fun r wx=>zcH w.heap.size wx r (v.box++[b]))),none] (by kernel_rfl) (by kernel_rfl) ?_ ?_
 ·exact ⟨trivial,trivial,trivial,zev _ _ _ _ _,fun _ _ _ he ⟨ev,h1,h2,h3⟩=>⟨ev,h1.ext he,h2,zai h3 he⟩,ziR _ _,trivial,trivial⟩
 (refine zat (fun K hK=>?_); go_simp; first | refine hK _ ?_ | refine ⟨(fun h=>by cases h),hK _ ?_⟩; clear hK K)
 refine zaK (.slice (some ⟨yg,0,none⟩) v.box.length v.box.length) rfl (fun w' hw'=>by have q0:=hw'.cell hcw; go_simp) ?_;refine zan fun K h=>?_; go_simp; refine h _ ?_; clear h K;(refine zat (fun K hK=>?_); go_simp; first | refine hK _ ?_ | refine ⟨(fun h=>by cases h),hK _ ?_⟩; clear hK K)
 refine zbq _ rfl (fun w' hw' hk=>?_) (fun v17=>?_)
 ·have hg:=(zjv _ b w' (HV.o.ext (EW.o.trans hw')) HBL.o).mono (fun r wx _ h=>zaL (b2:=w.heap.size) h (Nat.le_trans EW.o.size hw'.size));clear hk;unfold za0;go_simp
  exact ⟨Ext.refl _,hg⟩
 refine zan fun K h=>?_; go_simp; refine h _ ?_; clear h K;refine zbq _ rfl (fun w' hw' hk=>?_) (fun v18=>?_)
 ·have h17:w'.ownsRow w.heap.size 5 1 v17 b.length (b.map U):=hk 17 (by decide);obtain ⟨ea,ec,rfl⟩:=zaD h17;clear hk;unfold za0;go_simp
  exact ⟨(Ext.refl _).alloc _,_,Row.of_owns (World.ownsRow_lit (base:=0) (size:=1) w' _ 1 (Nat.zero_le _) (by decide) rfl),rfl,h17.alloc _⟩
 refine zan fun K h=>?_; go_simp; refine h _ ?_; clear h K;refine zbq _ rfl (fun w' hw' hk=>?_) (fun v19=>?_)
 ·obtain ⟨ev,h1,h2,h3⟩:∃ ev,Row w' 1 v18 1 [ev]/\ev.oneCell'=true/\w'.ownsRow w.heap.size 5 1 ev b.length (b.map U):=hk 18 (by decide);obtain ⟨evs,hl,hr1,hr2⟩:=(OS.o.box.ext hw').list;obtain ⟨vv,ww,hrun,hoo,hee⟩:=zdZ (P:=Tryz.prog) w' w.heap.size 31 31 70 i0 _ 1 24 zul HI.o hz0 hz1 hz2 rfl (by decide) (.slice (some ⟨yg,0,none⟩) v.box.length v.box.length) v.box.length evs ⟨yg,rfl,hr1⟩ v18 1 [ev] h1 (fun u hu=>by rw [List.mem_singleton.1 hu]; exact h2) (by have:=HS.o.1; omega) (by decide) (Nat.le_trans EW.o.size hw'.size);exact zhr rfl rfl rfl hrun hee (zcH.snoc (fun i x hx=>by obtain ⟨e2,q1,q2⟩:=hr2 i x hx; exact ⟨e2,q1,zai q2 hee⟩) hl hoo (zai h3 hee))
 refine zan fun K h=>?_; go_simp; refine h _ ?_; clear h K;(refine zat (fun K hK=>?_); go_simp; first | refine hK _ ?_ | refine ⟨(fun h=>by cases h),hK _ ?_⟩; clear hK K)
 refine za5 ?_;intro w5 e5 hF;have ob:zcH w.heap.size w5 v19 (v.box++[b]):=hF 19;obtain ⟨na,nc,en⟩:=ob.slice;rw [show (v.box++[b]).length=v.box.length+1 by simp] at en;subst en;have OB:=zhd ob;clear hF ob hcw c1;replace zab:=zbx zab e5;replace zad:=zbx zad e5;replace zal:=zbx zal e5;replace OS:=zhd (OS.o.ext e5);replace EW:=zhd (EW.o.trans e5);clear e5;refine zfD ?_;refine zaq rfl 31 (.tmp 20) (.tmp 19) rfl b2 1 rfl [.slice na (v.box.length+1) nc] (rfl) zal rfl zqR rfl [I v.gen,.slice na (v.box.length+1) nc,.bool v.busy,I v.now.client,I v.now.token,I v.now.call.kind,I v.now.call.name,I v.now.call.other,I v.now.call.n,.slice za v.plan.length zc,I v.says.err,I v.says.n] rfl (fun w5_ M5=>?_);replace OS:=zhd ((⟨OS.o.box.kept M5.o.grown zal.o (by decide) (by decide),OS.o.plan.kept M5.o.grown (.inr (zaH OS.o.plan zal.o (by decide)))⟩:OwnSv _ _ _ _ _));replace OB:=zhd (OB.o.kept M5.o.grown zal.o (by decide) (by decide));replace zal:=zwb M5;go_wp2_with (with_reducible refine zT ?_)
 refine zah rfl 40 (.tmp 6) rfl b2 rfl zal zda zdp (fun v21 H_v21=>?_);go_wp2_with (with_reducible refine zT ?_)
 replace zad:=zwl M5 zad zaW;refine zaa rfl 40 (.tmp 4) (.tmp 21) rfl b1 rfl _ (zcv H_v21) zad rfl zdp rfl (fun w6_ M6=>?_);replace OS:=zhd ((⟨OS.o.box.kept M6.o.grown zad.o (by decide) (by decide),OS.o.plan.kept M6.o.grown (.inr (zaH OS.o.plan zad.o (by decide)))⟩:OwnSv _ _ _ _ _));replace OB:=zhd (OB.o.kept M6.o.grown zad.o (by decide) (by decide));replace zad:=zwb M6;go_wp2
 have z0:=zau (P:=Tryz.prog) 40 zad.o zda (by kernel_rfl);refine bodyPost_ret (by simp [results,Tryz.results101,asAddr,z0]; rfl) rfl ?_;replace EW:=zwe M6 (zwe M5 EW zcg) za9;exact ⟨_,rfl,EW.o,_,_,rfl,(⟨OB.o,OS.o.plan⟩:OwnSv _ _ _ _ { v with box:=v.box++[b] })⟩

theorem zoj (v:Sv) (box plan bv:Value) (b:List UInt8) (w:World) (hb:zaj 1 zcI w box v.box) (hp:zar w plan v.plan) (hv:za4 w bv b) (hs:zjV v) (hbl:b.length<=140737488355328) :
  za3 Tryz.prog 101 #[.agg (zeP v box plan).toArray,bv] w (fun _=>False) (fun r w'=>zmS zg3 (zbZ v b).1 (zbZ v b).2 r w') :=
 (zsw v box plan bv b w hb hp hv hs hbl).to fun r w' he h=>by
  obtain ⟨x,y,rfl,ho⟩:=h
  obtain ⟨r1,r2⟩:=ho.rd (B:=fun k=>False∨w.heap.size<=k) fun g hg _=>.inr hg
  exact ⟨_,rfl,he,zfc (zgB r1 r2)⟩

open Go.RowKit Go.Mk

theorem Tryz.infoCallG:(Tryz.prog.info? 33).map (fun i=>(i.zero,i.size,i.bytes))=some (some (.agg #[.int .i64 0,.int .i64 0,.int .i64 0,.int .i64 0]),4,32):=by kernel_rfl
theorem Tryz.infoReplyG:(Tryz.prog.info? 38).map (fun i=>(i.zero,i.size,i.bytes))=some (some (.agg #[.int .i64 0,.int .i64 0]),2,16):=by kernel_rfl
def zaR (l:List Cl):List Value:=l.flatMap fun x=>[I x.kind,I x.name,I x.other,I x.n]
theorem zjf (l:List Cl):(zaR l).length=l.length * 4:=by
 unfold zaR
 induction l with
 | nil=>rfl
 | cons p l ih=>simp [List.flatMap_cons,ih]; omega
theorem zgb (l:List Cl):∀ u ∈ zaR l,u.oneCell'=true:=by
 intro u hu
 unfold zaR at hu
 rw [List.mem_flatMap] at hu
 obtain ⟨p,_,hp⟩:=hu
 simp at hp
 rcases hp with rfl | rfl | rfl | rfl <;> rfl
theorem zkx {w:World} {v:Value} {l:List Cl}:zaj 4 zbX w v l↔Row w 4 v l.length (zaR l):=zcc (f:=fun (x:Cl)=>[I x.kind,I x.name,I x.other,I x.n]) (fun _=>rfl)
theorem zfV {base e n:Nat} {v:Value} {l:List Cl} {w:World} (h:w.ownsRow base e 4 v n (zaR l)):Rd (fun k=>base<=k) (fun w=>zaj 4 zbX w v l) w:=by
 have hl:l.length=n:=by have:=h.1; rw [zjf] at this; omega
 subst hl
 exact (zdy h).imp fun w h=>zkx.2 h

theorem zoU (v:Value) (xs:List Cl) (w:World) (hv:zaj 4 zbX w v xs) (hr:xs.length * 32<=140737488355328) :
  zaw Tryz.prog 67 #[v] w fun r w'=>w'.ownsRow w.heap.size 33 4 r xs.length (zaR xs)/\r=.slice (some ⟨w.heap.size,0,none⟩) xs.length xs.length:=by
 unfold zaw;obtain ⟨i0,hi,hz0,hz1,hz2⟩:=info_parts Tryz.infoCallG;have hsz:(Tryz.prog.info? 33).map (·.size)=some 4:=by rw [hi]; simp [hz1]
 have hrow:Row w 4 v xs.length (zaR xs):=zkx.1 hv;clear hv;obtain ⟨hlen,ao,cap,rfl,h1,h2,h0,h3⟩:=hrow;unfold maxLen at h2;go_enter Tryz.func67,Tryz.ntmps67
 go_wp2_with (at_make; refine wpList_make_full _ rfl _ _ 46 rfl w.heap.size 33 i0 (.agg #[.int .i64 0,.int .i64 0,.int .i64 0,.int .i64 0]) 4 zof hi hz0 hz1 .i64 .i64 _ _ xs.length rfl rfl rfl rfl (by rw [hz2]; omega) (by unfold maxLen; omega) (Nat.le_refl _) ?_; intro w1 hown hgrow)
 have he1:Ext w w1:=(Ext.refl w).grown hgrow (fun k hk=>by cases hk);obtain ⟨w2,hrun,hown2,hgrow2⟩:=zbn (P:=Tryz.prog) w1 46 3 33 4 zof hsz w.heap.size w.heap.size xs.length _ (zaR xs) _ hown (Row.ext ⟨hlen,ao,cap,rfl,h1,h2,h0,h3⟩ he1) (zgb xs);have he2:Ext w w2:=he1.grown hgrow2 (fun k hk=>by cases hk; exact Nat.le_refl _);rw [hrun];clear hrun hown hgrow hgrow2 he1 h3;go_wp2
 go_ret
 exact ⟨_,rfl,he2,hown2,rfl⟩

theorem zl8 (v:Value) (xs:List Rp) (w:World) (hv:zaj 2 zeT w v xs) (hr:xs.length * 16<=140737488355328) :
  zaw Tryz.prog 69 #[v] w fun r w'=>w'.ownsRow w.heap.size 38 2 r xs.length (zcj xs)/\r=.slice (some ⟨w.heap.size,0,none⟩) xs.length xs.length:=by
 unfold zaw;obtain ⟨i0,hi,hz0,hz1,hz2⟩:=info_parts Tryz.infoReplyG;have hsz:(Tryz.prog.info? 38).map (·.size)=some 2:=by rw [hi]; simp [hz1]
 have hrow:Row w 2 v xs.length (zcj xs):=zk2.1 hv;clear hv;obtain ⟨hlen,ao,cap,rfl,h1,h2,h0,h3⟩:=hrow;unfold maxLen at h2;go_enter Tryz.func69,Tryz.ntmps69
 go_wp2_with (at_make; refine wpList_make_full _ rfl _ _ 47 rfl w.heap.size 38 i0 (.agg #[.int .i64 0,.int .i64 0]) 2 zuJ hi hz0 hz1 .i64 .i64 _ _ xs.length rfl rfl rfl rfl (by rw [hz2]; omega) (by unfold maxLen; omega) (Nat.le_refl _) ?_; intro w1 hown hgrow)
 have he1:Ext w w1:=(Ext.refl w).grown hgrow (fun k hk=>by cases hk);obtain ⟨w2,hrun,hown2,hgrow2⟩:=zbn (P:=Tryz.prog) w1 47 3 38 2 zuJ hsz w.heap.size w.heap.size xs.length _ (zcj xs) _ hown (Row.ext ⟨hlen,ao,cap,rfl,h1,h2,h0,h3⟩ he1) (zom xs);have he2:Ext w w2:=he1.grown hgrow2 (fun k hk=>by cases hk; exact Nat.le_refl _);rw [hrun];clear hrun hown hgrow hgrow2 he1 h3;go_wp2
 go_ret
 exact ⟨_,rfl,he2,hown2,rfl⟩

theorem zlN (v:Value) (n:Nat) (cs:List Value) (w:World) (hv:Row w 6 v n cs) (h1s:∀ u ∈ cs,u.oneCell'=true) (hr:n * 96<=140737488355328) :
  zaw Tryz.prog 48 #[v] w fun r w'=>w'.ownsRow w.heap.size 49 6 r n cs/\r=.slice (some ⟨w.heap.size,0,none⟩) n n:=by
 unfold zaw;obtain ⟨i0,hi,hz0,hz1,hz2⟩:=info_parts Tryz.infoClient;have hsz:(Tryz.prog.info? 49).map (·.size)=some 6:=by rw [hi]; simp [hz1]
 have hrow:Row w 6 v n cs:=hv;clear hv;obtain ⟨hlen,ao,cap,rfl,h1,h2,h0,h3⟩:=hrow;unfold maxLen at h2;go_enter Tryz.func48,Tryz.ntmps48
 go_wp2_with (at_make; refine wpList_make_full _ rfl _ _ 41 rfl w.heap.size 49 i0 (.agg zC) 6 zuA hi hz0 hz1 .i64 .i64 _ _ n rfl rfl rfl rfl (by rw [hz2]; omega) (by unfold maxLen; omega) (Nat.le_refl _) ?_; intro w1 hown hgrow)
 have he1:Ext w w1:=(Ext.refl w).grown hgrow (fun k hk=>by cases hk);obtain ⟨w2,hrun,hown2,hgrow2⟩:=zbn (P:=Tryz.prog) w1 41 3 49 6 zuA hsz w.heap.size w.heap.size n _ cs _ hown (Row.ext ⟨hlen,ao,cap,rfl,h1,h2,h0,h3⟩ he1) h1s;have he2:Ext w w2:=he1.grown hgrow2 (fun k hk=>by cases hk; exact Nat.le_refl _);rw [hrun];clear hrun hown hgrow hgrow2 he1 h3;go_wp2
 go_ret
 exact ⟨_,rfl,he2,hown2,rfl⟩

def zlv (c:Cn):Prop:=c.calls.length<=1000000/\c.box.length<=1000000/\(∀ b ∈ c.box,b.length<=140737488355328)/\c.got.length<=1000000

structure OwnCn (base:Nat) (w:World) (calls box got:Value) (c:Cn):Prop where
 calls:w.ownsRow base 33 4 calls c.calls.length (zaR c.calls)
 box:zcH base w box c.box
 got:w.ownsRow base 38 2 got c.got.length (zcj c.got)

theorem zcB (c:Cn) (calls box got:Value) (w:World) (h1:zaj 4 zbX w calls c.calls) (h2:zaj 1 zcI w box c.box) (h3:zaj 2 zeT w got c.got) (hs:zlv c) :
  zaw Tryz.prog 45 #[.agg #[calls,I c.at_,.bool c.sent,I c.gen,box,got]] w fun r w'=>∃ kg xg gg,r=.agg #[.slice (some ⟨kg,0,none⟩) c.calls.length c.calls.length,I c.at_,.bool c.sent,I c.gen,.slice (some ⟨xg,0,none⟩) c.box.length c.box.length,.slice (some ⟨gg,0,none⟩) c.got.length c.got.length]/\OwnCn w.heap.size w' (.slice (some ⟨kg,0,none⟩) c.calls.length c.calls.length) (.slice (some ⟨xg,0,none⟩) c.box.length c.box.length) (.slice (some ⟨gg,0,none⟩) c.got.length c.got.length) c:=by
 unfold zaw;have HS:=zhd hs;clear hs;obtain ⟨ka,kc,rfl⟩:=zaf h1;obtain ⟨xa,xc,rfl⟩:=zaf h2;obtain ⟨ga,gc,rfl⟩:=zaf h3;have H1:=zhd h1;have H2:=zhd h2;have H3:=zhd h3;clear h1 h2 h3;have EW:=zhd (Ext.refl w);go_enter Tryz.func45,Tryz.ntmps45
 go_wp2_with (with_reducible refine zT ?_)
 refine zam rfl 49 (.tmp 0) rfl #[.slice ka c.calls.length kc,I c.at_,.bool c.sent,I c.gen,.slice xa c.box.length xc,.slice ga c.got.length gc] rfl (fun b0 w1_ M1=>?_);have zab:=zmb M1;go_wp2_with (with_reducible refine zT ?_)
 refine zac rfl 49 zC (by kernel_rfl) (fun b1 w2_ M2=>?_);have zaQ:=zld zab M2;have zad:=zmb M2;have zcO:Hid (w.heap.size<=b0):=by unfold Hid; have q:=M1.o.at_; omega
 have za9:Hid (w.heap.size<=b1):=by unfold Hid; have q:=zaQ.o; have q2:=zcO.o; omega
 replace zab:=zmo M2 zab;have cq:=zae (i:=0) zab.o rfl;go_wp2_with fail
 clear cq;replace EW:=zet (zet EW M1) M2;refine (zoU _ c.calls w2_ (H1.o.ext zbl EW.o) (by have:=HS.o.1; omega)).to fun r wa ea hr=>?_;obtain ⟨kg,rfl⟩:∃ g,r=.slice (some ⟨g,0,none⟩) c.calls.length c.calls.length:=⟨_,hr.2⟩;have OPa:=zhd (zaL (b2:=w.heap.size) hr.1 EW.o.size);clear hr;replace zab:=zbx zab ea;replace zad:=zbx zad ea;replace EW:=zhd (EW.o.trans ea);clear ea;go_wp2_with (with_reducible refine zT ?_)
 refine zaq rfl 46 (.tmp 6) (.tmp 5) rfl b0 0 rfl [.slice (some ⟨kg,0,none⟩) c.calls.length c.calls.length] (rfl) zab rfl zvq rfl [.slice (some ⟨kg,0,none⟩) c.calls.length c.calls.length,I c.at_,.bool c.sent,I c.gen,.slice xa c.box.length xc,.slice ga c.got.length gc] rfl (fun w3_ M3=>?_);replace OPa:=zhd (OPa.o.kept M3.o.grown (.inr (zaH OPa.o zab.o (by decide))));replace zab:=zwb M3;have cq:=zae (i:=4) zab.o rfl;go_wp2_with fail
 clear cq;replace EW:=zwe M3 EW zcO;refine (ziS _ c.box w3_ (H2.o.ext zdK EW.o) (by have:=HS.o.2.1; omega) HS.o.2.2.1).to fun r wb eb hr=>?_;obtain ⟨xg,rfl⟩:=hr.2;have OB:=zhd (hr.1.low (b2:=w.heap.size) EW.o.size);clear hr;replace zad:=zbx (zwg M3 zad zaQ) eb;replace zab:=zbx zab eb;replace OPa:=zhd (zai OPa.o eb);replace EW:=zhd (EW.o.trans eb);clear eb;go_wp2_with (with_reducible refine zT ?_)
 refine zaq rfl 31 (.tmp 10) (.tmp 9) rfl b0 4 rfl [.slice (some ⟨xg,0,none⟩) c.box.length c.box.length] (rfl) zab rfl zqR rfl [.slice (some ⟨kg,0,none⟩) c.calls.length c.calls.length,I c.at_,.bool c.sent,I c.gen,.slice (some ⟨xg,0,none⟩) c.box.length c.box.length,.slice ga c.got.length gc] rfl (fun w4_ M4=>?_);replace OPa:=zhd (OPa.o.kept M4.o.grown (.inr (zaH OPa.o zab.o (by decide))));replace OB:=zhd (OB.o.kept M4.o.grown zab.o (by decide) (by decide));replace zab:=zwb M4;have cq:=zae (i:=5) zab.o rfl;go_wp2_with fail
 clear cq;replace EW:=zwe M4 EW zcO;refine (zl8 _ c.got w4_ (H3.o.ext zf9 EW.o) (by have:=HS.o.2.2.2; omega)).to fun r wc ec hr=>?_;obtain ⟨gg,rfl⟩:∃ g,r=.slice (some ⟨g,0,none⟩) c.got.length c.got.length:=⟨_,hr.2⟩;have OPg:=zhd (zaL (b2:=w.heap.size) hr.1 EW.o.size);clear hr;replace zad:=zbx (zwg M4 zad zaQ) ec;replace zab:=zbx zab ec;replace OPa:=zhd (zai OPa.o ec);replace OB:=zhd (OB.o.ext ec);replace EW:=zhd (EW.o.trans ec);clear ec;go_wp2_with (with_reducible refine zT ?_)
 refine zaq rfl 47 (.tmp 14) (.tmp 13) rfl b0 5 rfl [.slice (some ⟨gg,0,none⟩) c.got.length c.got.length] (rfl) zab rfl zvj rfl [.slice (some ⟨kg,0,none⟩) c.calls.length c.calls.length,I c.at_,.bool c.sent,I c.gen,.slice (some ⟨xg,0,none⟩) c.box.length c.box.length,.slice (some ⟨gg,0,none⟩) c.got.length c.got.length] rfl (fun w5_ M5=>?_);replace OPa:=zhd (OPa.o.kept M5.o.grown (.inr (zaH OPa.o zab.o (by decide))));replace OPg:=zhd (OPg.o.kept M5.o.grown (.inr (zaH OPg.o zab.o (by decide))));replace OB:=zhd (OB.o.kept M5.o.grown zab.o (by decide) (by decide));replace zab:=zwb M5;go_wp2_with (with_reducible refine zT ?_)
 refine zah rfl 49 (.tmp 1) rfl b0 rfl zab zcK zcm (fun v15 H_v15=>?_);go_wp2_with (with_reducible refine zT ?_)
 replace zad:=zwg M5 zad zaQ;refine zaa rfl 49 (.tmp 2) (.tmp 15) rfl b1 rfl _ (zcv H_v15) zad rfl zcm rfl (fun w6_ M6=>?_);replace OPa:=zhd (OPa.o.kept M6.o.grown (.inr (zaH OPa.o zad.o (by decide))));replace OPg:=zhd (OPg.o.kept M6.o.grown (.inr (zaH OPg.o zad.o (by decide))));replace OB:=zhd (OB.o.kept M6.o.grown zad.o (by decide) (by decide));replace zad:=zwb M6;go_wp2
 have z0:=zau (P:=Tryz.prog) 49 zad.o zcK (by kernel_rfl);refine bodyPost_ret (by simp [results,Tryz.results45,asAddr,z0,Act.put]; rfl) rfl ?_;replace EW:=zwe M6 (zwe M5 EW zcO) za9;exact ⟨_,rfl,EW.o,_,_,_,rfl,⟨OPa.o,OB.o,OPg.o⟩⟩

theorem zfH (c:Cn) (calls box got:Value) (w:World) (h1:zaj 4 zbX w calls c.calls) (h2:zaj 1 zcI w box c.box) (h3:zaj 2 zeT w got c.got) (hs:zlv c) :
  za3 Tryz.prog 45 #[.agg #[calls,I c.at_,.bool c.sent,I c.gen,box,got]] w (fun _=>False) (fun r w'=>Agg zcG c r w') :=
 (zcB c calls box got w h1 h2 h3 hs).to fun r w' he h=>by
  obtain ⟨_,_,_,rfl,ho⟩:=h
  exact ⟨_,rfl,he,zcM (zgA (c:=c) ((zfV ho.calls).widen fun _ _ h=>.inr h) (ho.box.rd fun _ h _=>.inr h) ((zhQ ho.got).widen fun _ _ h=>.inr h))⟩

end Go.Proofs.YtdmipnnfoolelagGreatDoor

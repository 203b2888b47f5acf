/- zbb of the proof, merged: N16 N17 J1 N20 U1 C2 N19 N21 Q1 Y1 Y2 Y3. -/
import Derived.Test.YtdmipnnfoolelagGreatDoorKTA
import Derived.Test.YtdmipnnfoolelagGreatDoorKTR
import Derived.Test.YtdmipnnfoolelagGreatDoorKTF
import Derived.Test.YtdmipnnfoolelagGreatDoorKTE
import Derived.Test.YtdmipnnfoolelagGreatDoorKTG
import Derived.Test.YtdmipnnfoolelagGreatDoorKTH
import Derived.Test.YtdmipnnfoolelagGreatDoorKTO
import Derived.Test.YtdmipnnfoolelagGreatDoorKTN
import Derived.Test.YtdmipnnfoolelagGreatDoorKTM
import Derived.Test.YtdmipnnfoolelagGreatDoorKTB
set_option maxHeartbeats 16000000
set_option maxRecDepth 100000

namespace Go.Proofs.YtdmipnnfoolelagGreatDoor
open Go.RowKit Go.Mk

theorem znx {w w':World} {row:Option Nat} (hg:w.grownBy w' row) {b:Nat} {o:Obj} (h:w.heap[b]?=some o) (hne:row≠some b):w'.heap[b]?=some o:=by
 rw [hg.block b (Array.getElem?_eq_some_iff.1 h).1 (fun e=>hne e.symm)]
 exact h
def zl4:List Value:=[.slice none 0 0,.slice none 0 0,.slice none 0 0,.slice none 0 0,I 0,.slice none 0 0,.bool false,I 0,I 0,I 0,I 0,I 0,I 0,.slice none 0 0,I 0,I 0,.bool false,I 0,I 0,.slice none 0 0]
def zsK (l:List (List Cl)) (r:Value) (w:World):Prop:=∃ (cs:List Value) (e:Int),r=.tuple #[.agg cs.toArray,I e]/\((e=0/\zaG l/\zdi w cs (zcJ l))∨(cs=zl4/\e≠0/\¬ zaG l))/\e=ze4 l

theorem zjc {w:World} {v:Value} {l:List (List Cl)} (h:zaj 1 zeB w v l):∃ ao cap,v=.slice ao l.length cap/\l.length<=cap/\cap<=maxLen/\∃ cvs:List Value,cvs.length=l.length/\∀ k x,l[k]?=some x->∃ b off cv,ao=some ⟨b,off,none⟩/\cvs[k]?=some cv/\w.cell? ⟨b,off+k,none⟩=some cv/\zaj 4 zbX w cv x:=by
 obtain ⟨css,he,hl,ao,cap,e,h3,h4,h0,h5⟩:=h
 refine ⟨ao,cap,e,h3,h4,css.flatten,by simpa using hl,fun k x hx=>?_⟩
 have hk:k < css.length:=by rw [he.1]; exact (List.getElem?_eq_some_iff.1 hx).1
 have hc:css[k]?=some css[k]:=List.getElem?_eq_getElem hk
 obtain ⟨h6,cv,h7,h8⟩:=he.2 k _ x hc hx
 have h9:=zcW (by decide) he.sizes hc (j:=0) (u:=cv) (by rw [h7]; rfl)
 rw [Nat.mul_one,Nat.add_zero] at h9
 obtain ⟨b,off,e1,hcell⟩:=h5 k cv h9
 exact ⟨b,off,cv,e1,h9,hcell,h8⟩
theorem zru {l:List (List Cl)} (h:3 < l.length):¬ zaG l:=fun hr=>by have:=hr.1; omega
theorem zsH {l:List (List Cl)} {k:Nat} {x:List Cl} (hx:l[k]?=some x) (h:8 < x.length):¬ zaG l:=fun hr=>by have:=(hr.2 x (List.mem_of_getElem? hx)).1; omega
theorem zrt {l:List (List Cl)} {k q:Nat} {x:List Cl} {y:Cl} (hx:l[k]?=some x) (hy:x[q]?=some y) (h:wrongCl y≠0):¬ zaG l:=fun hr=>h ((hr.2 x (List.mem_of_getElem? hx)).2 y (List.mem_of_getElem? hy))
def okL (l:List (List Cl)) (k:Nat):Prop:=∀ (j:Nat) (x:List Cl),j < k->l[j]?=some x->x.length<=8/\∀ y ∈ x,wrongCl y=0

theorem zn0 {w:World} {v:Value} {l:List (List Cl)} {css:List (List Value)} (he:zc8 1 zeB w css l) (hr:Row w 1 v l.length css.flatten):∃ ao cap,v=.slice ao l.length cap/\l.length<=cap/\cap<=maxLen/\css.flatten.length=l.length /\
  ∀ k x,l[k]?=some x->∃ b off cv,ao=some ⟨b,off,none⟩/\css.flatten[k]?=some cv/\w.cell? ⟨b,off+k,none⟩=some cv/\zaj 4 zbX w cv x:=by
 obtain ⟨hl,ao,cap,e,h3,h4,h0,h5⟩:=hr
 refine ⟨ao,cap,e,h3,h4,by simpa using hl,fun k x hx=>?_⟩
 have hk:k < css.length:=by rw [he.1]; exact (List.getElem?_eq_some_iff.1 hx).1
 have hc:css[k]?=some css[k]:=List.getElem?_eq_getElem hk
 obtain ⟨h6,cv,h7,h8⟩:=he.2 k _ x hc hx
 have h9:=zcW (by decide) he.sizes hc (j:=0) (u:=cv) (by rw [h7]; rfl)
 rw [Nat.mul_one,Nat.add_zero] at h9
 obtain ⟨b,off,e1,hcell⟩:=h5 k cv h9
 exact ⟨b,off,cv,e1,h9,hcell,h8⟩

theorem zt3 {l:List (List Cl)} {r:Value} {A:Nat->Prop} {w:World} (h:Rd A (zsK l r) w):∃ (cs:List Value) (e:Int),r=.tuple #[.agg cs.toArray,I e]/\((e=0/\zaG l/\Rd A (fun w=>zdi w cs (zcJ l)) w)∨(cs=zl4/\e≠0/\¬ zaG l)):=by
 obtain ⟨cs,e,e1,h1,-⟩:=h.o
 refine ⟨cs,e,e1,?_⟩
 rcases h1 with ⟨h2,h3,_⟩ | h2
 ·refine .inl ⟨h2,h3,h.imp fun w' hw=>?_⟩
  obtain ⟨cs2,e2,e3,h4,-⟩:=hw
  rw [e1] at e3
  have:cs=cs2/\e=e2:=by simpa using e3
  obtain ⟨rfl,rfl⟩:=this
  rcases h4 with ⟨_,_,h5⟩ | ⟨_,_,h5⟩
  ·exact h5
  ·exact absurd h3 h5
 ·exact .inr h2

theorem zs1 {l:List (List Cl)} {r:Value} {A:Nat->Prop} {w:World} (h:Rd A (zsK l r) w):∃ (cs:List Value),r=.tuple #[.agg cs.toArray,I (ze4 l)]/\((ze4 l=0/\zaG l/\Rd A (fun w=>zdi w cs (zcJ l)) w)∨(cs=zl4/\ze4 l≠0/\¬ zaG l)):=by
 obtain ⟨_,_,e1,_,he⟩:=h.o
 obtain ⟨cs,e,e2,h2⟩:=zt3 h
 rw [e1] at e2
 simp at e2
 obtain ⟨rfl,rfl⟩:=e2
 subst he
 exact ⟨_,e1,h2⟩

open Go.RowKit Go.Mk

theorem Tryz.infoErrno:(Tryz.prog.info? 36).map (fun i=>(i.zero,i.size,i.bytes))=some (some (.int .i64 0),1,8):=by kernel_rfl

def zdV (m:Mc):List (Int×Int)->List Int
 | []=>[]
 | p::l=>(doM m p.1 p.2).2::zdV (doM m p.1 p.2).1 l
theorem playE_snoc (p:Int×Int):∀ (l:List (Int×Int)) (m:Mc),zdV m (l++[p])=zdV m l++[(doM (zcS m l) p.1 p.2).2]
 | [],m=>rfl
 | q::l,m=>by
  show (doM m q.1 q.2).2::zdV (doM m q.1 q.2).1 (l++[p])=_
  rw [playE_snoc p l]
  rfl
theorem playM_snoc (p:Int×Int) (l:List (Int×Int)) (m:Mc):zcS m (l++[p])=(doM (zcS m l) p.1 p.2).1:=by
 unfold zcS
 rw [List.foldl_append]
 rfl
theorem zp9 {l:List (Int×Int)} {k:Nat} (h:k < l.length):l.take (k+1)=l.take k++[l.getD k (0,0)]:=by
 rw [List.take_add_one,List.getElem?_eq_getElem h,List.getD_eq_getElem?_getD,List.getElem?_eq_getElem h]
 rfl
open Go.RowKit Go.Mk

def ztO:Prop:=∀ (v:Value) (l:List (List Cl)) (w:World) (A:Nat->Prop),Rd A (fun w=>zaj 1 zeB w v l) w->za3 Tryz.prog 22 #[v] w A (zsK l)
def zuW:Prop:=∀ (l:List (List Cl)) (m:Mc) (k:Nat) (c u a p box plan cl:Value) (kind n:Int) (w:World) (A:Nat->Prop),RdM A w m c u a p box plan cl->Gd l m k->k<=500 ->
 za3 Tryz.prog 46 #[.agg (zaM m c u a p box plan cl).toArray,.agg #[I kind,I n]] w A (fun r w'=>zmS zdi (doM m kind n).1 (doM m kind n).2 r w')

def zeroMc:Mc:=⟨⟨[],[],[],[]⟩,zbQ 0 [],false,0,0,[]⟩
def zpV (l:List (List Cl)):Mc:=if ze4 l=0 then zcJ l else zeroMc
theorem zsZ {l:List (List Cl)} {r:Value} {A:Nat->Prop} {w:World} (h:Rd A (zsK l r) w):∃ c u a p box plan cl,r=.tuple #[.agg (zaM (zpV l) c u a p box plan cl).toArray,I (ze4 l)]/\RdM A w (zpV l) c u a p box plan cl/\(ze4 l=0->zaG l):=by
 obtain ⟨cs,e1,h1⟩:=zs1 h
 rcases h1 with ⟨h2,h3,h4⟩ | ⟨rfl,h2,h3⟩
 ·have e:zpV l=zcJ l:=if_pos h2
  obtain ⟨c,u,a,p,box,plan,cl,rfl,hM⟩:=zcu h4
  rw [e]
  exact ⟨c,u,a,p,box,plan,cl,e1,hM,fun _=>h3⟩
 ·have e:zpV l=zeroMc:=if_neg h2
  rw [e]
  exact ⟨.slice none 0 0,.slice none 0 0,.slice none 0 0,.slice none 0 0,.slice none 0 0,.slice none 0 0,.slice none 0 0,e1,⟨Rd.all fun w=>zhy w,Rd.all fun w=>zbr w,Rd.all fun w=>zaj.nil w,Rd.all fun w=>zaj.nil w,Rd.all fun w=>zaj.nil w,Rd.all fun w=>zbr w,Rd.all fun w=>zaj.nil w⟩,fun h=>absurd h h2⟩
theorem ztu {l:List (List Cl)} {r:Value} {A:Nat->Prop} {w:World} (h:Rd A (zsK l r) w) {N:Mc} (hn:zpV l=N):∃ c u a p box plan cl,r=.tuple #[.agg (zaM N c u a p box plan cl).toArray,I (ze4 l)]/\RdM A w N c u a p box plan cl/\(ze4 l=0->zaG l):=by
 subst hn
 exact zsZ h
theorem Gd.fit {l:List (List Cl)} {m:Mc} {k:Nat} (h:Gd l m k) (hk:k<=1000):Fit m:=by
 obtain ⟨h1,⟨ks,bz,h2⟩,h3⟩:=h
 exact zuF h1 h2 h3 hk

open Go.RowKit Go.Mk

def zjO (m:Mc) (k:Nat):Mc:=(List.range k).foldl (fun m (n:Nat)=>(doM m 1 (n:Int)).1) (zbP m)
theorem zml (m:Mc) (k:Nat):zjO m (k+1)=(doM (zjO m k) 1 (k:Int)).1:=by
 unfold zjO
 rw [List.range_succ,List.foldl_append]
 rfl
theorem round_all (m:Mc):roundM m=(doM (zjO m (zbP m).clients.length) 2 0).1:=rfl
open Go.RowKit Go.Mk

def zcr (l:List (List Cl)) (steps:List (Int×Int)):Int:=if ze4 l≠0 then ze4 l else if 400 < steps.length then 5 else 0
def znN (l:List (List Cl)) (steps:List (Int×Int)) (r:Value) (w:World):Prop:=∃ (cs:List Value) (es:Value),r=.tuple #[.agg cs.toArray,es,I (zcr l steps)] /\
 (zcr l steps=0->zaG l/\zdi w cs (zcS (zcJ l) steps)/\zc2 w es (zdV (zcJ l) steps))/\(zcr l steps≠0->∃ M:Mc,M.clients=[]/\zdi w cs M/\zc2 w es [])
def zfL:Prop:=∀ (v sv:Value) (l:List (List Cl)) (steps:List (Int×Int)) (w:World) (A:Nat->Prop),Rd A (fun w=>zaj 1 zeB w v l) w->zar w sv steps->za3 Tryz.prog 12 #[v,sv] w A (znN l steps)
def zlz:Prop:=∀ (l:List (List Cl)) (m:Mc) (c u a p box plan cl:Value) (w:World) (A:Nat->Prop),RdM A w m c u a p box plan cl->GzM l m->za3 Tryz.prog 25 #[.agg (zaM m c u a p box plan cl).toArray] w A (fun r w'=>Agg zdi (roundM m) r w')
def zdS:Prop:=∀ (l:List (List Cl)) (m:Mc) (c u a p box plan cl:Value) (w:World) (A:Nat->Prop),RdM A w m c u a p box plan cl->GzM l m->za3 Tryz.prog 13 #[.agg (zaM m c u a p box plan cl).toArray] w A (fun r w'=>zmS zdi (zba 300 m).1 ((zba 300 m).2:Int) r w')

theorem zsF {l:List (List Cl)} {steps:List (Int×Int)} {r:Value} {A:Nat->Prop} {w:World} (h:Rd A (znN l steps r) w):∃ (cs:List Value) (es:Value),r=.tuple #[.agg cs.toArray,es,I (zcr l steps)] /\
  (zcr l steps=0->zaG l/\Rd A (fun w=>zdi w cs (zcS (zcJ l) steps)) w/\Rd A (fun w=>zc2 w es (zdV (zcJ l) steps)) w)/\(zcr l steps≠0->∃ M:Mc,M.clients=[]/\zdi w cs M/\zc2 w es []):=by
 obtain ⟨cs,es,e1,h1,h2⟩:=h.o
 have key:∀ w',znN l steps r w'->zcr l steps=0->zdi w' cs (zcS (zcJ l) steps)/\zc2 w' es (zdV (zcJ l) steps):=fun w' hw h0=>by
  obtain ⟨cs',es',e1',h3,-⟩:=hw
  rw [e1] at e1'
  simp only [Value.tuple.injEq,Array.mk.injEq,List.cons.injEq,Value.agg.injEq,and_true] at e1'
  obtain ⟨q1,q2⟩:=e1'
  have q1:cs=cs':=by simpa using q1
  subst q1 q2
  exact (h3 h0).2
 exact ⟨cs,es,e1,fun h0=>⟨(h1 h0).1,h.imp fun w' hw=>(key w' hw h0).1,h.imp fun w' hw=>(key w' hw h0).2⟩,h2⟩
theorem znE {l:List (List Cl)} {m:Mc} (h:GzM l m):Gd l m 24:=⟨h.right,h.inv,h.size⟩
theorem zsP {l:List (List Cl)} {m:Mc} (h:GzM l m):Fit m:=(znE h).fit (by decide)
theorem zin {m:Mc} (n:Nat) (h:n=0∨zdE m=true):zba n m=(m,0):=by
 cases n with
 | zero=>rfl
 | succ n =>
  rcases h with h | h
  ·cases h
  ·unfold zba; rw [if_pos h]
theorem zmH {m:Mc} (n:Nat) (h:zdE m=false):zba (n+1) m=((zba n (roundM m)).1,(zba n (roundM m)).2+1):=by
 conv=>lhs; unfold zba
 rw [if_neg (by rw [h]; exact Bool.false_ne_true)]

open Go.RowKit Go.Mk

structure GoodC (c:Cn):Prop where
 at0:0<=c.at_
 at1:c.at_<=900
 calls:c.calls.length<=8/\∀ x ∈ c.calls,wrongCl x=0
 got:c.got.length<=900
 box:c.box.length<=900
 bytes:∀ b ∈ c.box,b.length<=140737488355328

def zvD:Prop:=∀ (c:Cn) (calls box got:Value) (me gen:Int) (up:Bool) (w:World) (A:Nat->Prop),Rd A (fun w=>zaj 4 zbX w calls c.calls) w->Rd A (fun w=>zaj 1 zcI w box c.box) w->Rd A (fun w=>zaj 2 zeT w got c.got) w->GoodC c->0<=me->me<=2 ->
 za3 Tryz.prog 100 #[.agg #[calls,I c.at_,.bool c.sent,I c.gen,box,got],I me,I gen,.bool up] w A (fun r w'=>zpA zcG (zde c me gen up).1 (zde c me gen up).2.1 (zde c me gen up).2.2 r w')

theorem zi6 {l:List (List Cl)} (hl:zaG l) {m:Mc} {ks:List Nat} {bz:Option Nat} (h:MInv l m ks bz) {k:Nat} (hs:SizeM m k) (hk:k<=800):∀ c ∈ m.clients,GoodC c/\c.box.length<=1:=fun c hc=>by
 obtain ⟨i,hi⟩:=List.mem_iff_getElem?.1 hc
 have hci:=h.clients i c hi
 have h6:=hs.each c hc
 have hat:=hci.at_
 have hb:c.box.length<=1/\∀ b ∈ c.box,b.length<=140737488355328:=by
  cases hci.phase with
  | rest _ _ _ e _=>rw [e]; exact ⟨Nat.zero_le _,fun b hb=>by cases hb⟩
  | wait _ _ _ _ e _=>rw [e]; exact ⟨Nat.zero_le _,fun b hb=>by cases hb⟩
  | work _ _ _ _ e _ _=>rw [e]; exact ⟨Nat.zero_le _,fun b hb=>by cases hb⟩
  | lost _ _ _ e _ _=>rw [e]; exact ⟨Nat.zero_le _,fun b hb=>by cases hb⟩
  | hear _ _ _ _ e =>
   rw [e]
   refine ⟨Nat.le_refl _,fun b hb=>?_⟩
   rw [List.mem_singleton.1 hb]
   exact Nat.le_trans (Nat.le_of_eq rfl) (by decide:(8:Nat)<=140737488355328)
 refine ⟨⟨by omega,by omega,?_,by omega,by omega,hb.2⟩,hb.1⟩
 rw [hci.calls,List.getD_eq_getElem?_getD]
 cases e:l[i]? with
 | none=>exact ⟨Nat.zero_le _,fun x hx=>by cases hx⟩
 | some y=>exact hl.2 y (List.mem_of_getElem? e)
open Go.RowKit Go.Mk

open Go.RowKit Go.Mk

open Go.RowKit Go.Mk

structure LookM (m:Mc):Prop where
 cells:m.store.cells.length=11
 most:0<=(zav m.store.cells m.store.undo).getD 0 0/\(zav m.store.cells m.store.undo).getD 0 0<=5
 past:∀ r ∈ m.store.past,wrongCl r.call=0
 len:m.store.past.length<=1000
 small:zg1 m
 each:∀ c ∈ m.clients,GoodC c

def zpu:Prop:=∀ (m:Mc) (c u a p box plan cl:Value) (w:World) (A:Nat->Prop),RdM A w m c u a p box plan cl->LookM m->zaw Tryz.prog 9 #[.agg (zaM m c u a p box plan cl).toArray] w fun r w'=>zar w' r (zbg (zav m.store.cells m.store.undo))
def zfN:Prop:=∀ (m:Mc) (c u a p box plan cl:Value) (w:World) (A:Nat->Prop),RdM A w m c u a p box plan cl->LookM m->zaw Tryz.prog 14 #[.agg (zaM m c u a p box plan cl).toArray] w fun r _=>r=.bool (zdE m)
theorem zpa {l:List (List Cl)} {m:Mc} {k:Nat} (h:Gd l m k) (hk:k<=800):LookM m:=by
 obtain ⟨h1,⟨ks,bz,h2⟩,h3⟩:=h
 obtain ⟨_,q1,q2,_⟩:=(zgf _).1 h2.right
 exact ⟨h2.cells,⟨q1,q2⟩,fun r hr=>by obtain ⟨i,t,hi,ht,rfl⟩:=h2.past r hr; exact zel h1 hi ht,by have:=h3.past; omega,zkv h1 h2 h3 (by omega),fun c hc=>(zi6 h1 h2 h3 hk c hc).1⟩
open Go.RowKit Go.Mk

abbrev SS (l:List UInt8):Value:=.string ⟨l.toArray⟩
def zlu (w:World) (v:Value) (l:List (List UInt8)):Prop:=Row w 1 v l.length (l.map SS)
structure TextOk (TV:World->Prop):Prop where
 ext:∀ w w',TV w->Ext w w'->TV w'
 parse:∀ (s:List UInt8) (w:World),TV w->s.length<=100000->zaw Tryz.prog 11 #[SS s] w fun r w'=>∃ v,r=.tuple #[v,I (zb2 s).2]/\w'.ownsRow w.heap.size 33 4 v (zb2 s).1.length (zaR (zb2 s).1)
 len:∀ l:List Cl,(∀ c ∈ l,wrongCl c=0)->(printCl l).length<=61 * l.length
 print:∀ (v:Value) (l:List Cl) (w:World),TV w->zaj 4 zbX w v l->(∀ c ∈ l,wrongCl c=0)->l.length<=1000->zaw Tryz.prog 10 #[v] w fun r _=>r=SS (printCl l)
def zbb (ss:List (List UInt8)) (ls:List (List Cl)):Prop:=ss.length=ls.length/\∀ (i:Nat) (s:List UInt8),ss[i]?=some s->s.length<=100000/\zb2 s=(ls.getD i [],0)

theorem zlu.form {w:World} {v:Value} {l:List (List UInt8)} (h:zlu w v l):∃ ao cap,v=.slice ao l.length cap/\l.length<=cap/\cap<=maxLen/\∀ k s,l[k]?=some s->∃ b off,ao=some ⟨b,off,none⟩/\w.cell? ⟨b,off+k,none⟩=some (SS s):=by
 obtain ⟨hl,ao,cap,e,h3,h4,_,h5⟩:=h
 exact ⟨ao,cap,e,h3,h4,fun k s hs=>h5 k (SS s) (by rw [List.getElem?_map,hs]; rfl)⟩

def zjn (base:Nat) (w:World) (v:Value) (ls:List (List Cl)):Prop:=∃ evs:List Value,w.ownsRow base 46 1 v ls.length evs/\∀ (i:Nat) (c:List Cl),ls[i]?=some c->∃ ev,evs[i]?=some ev/\w.ownsRow base 33 4 ev c.length (zaR c)
theorem zjn.ext {base:Nat} {w w':World} {v:Value} {ls:List (List Cl)} (h:zjn base w v ls) (he:Ext w w'):zjn base w' v ls:=by
 obtain ⟨evs,h1,h2⟩:=h
 refine ⟨evs,zai h1 he,fun i c hc=>?_⟩
 obtain ⟨ev,e1,e2⟩:=h2 i c hc
 exact ⟨ev,e1,zai e2 he⟩
theorem zjn.nil (w:World) (base:Nat):zjn base w (.slice none 0 0) []:=⟨[],World.ownsRow_nil _ _ _ _,fun i c hc=>by simp at hc⟩
theorem zk0 {base e e2 size n m:Nat} {v u:Value} {xs ys:List Value} {w w':World} (hv:w.ownsRow base e size v n xs) {base2 size2:Nat} (hu:w.ownsRow base2 e2 size2 u m ys) (hg:w.grownBy w' u.ownBlock) (hne:e≠e2):w'.ownsRow base e size v n xs:=by
 cases hb:u.ownBlock with
 | none =>
  rw [hb] at hg
  exact zai hv ((Ext.refl w).grown hg (fun k hk=>by cases hk))
 | some g =>
  rw [hb] at hg
  rcases hu.2 with ⟨rfl,_⟩ | ⟨g',cap,cur,rfl,_,hcur,_⟩
  ·cases hb
  ·have q:g'=g:=by simpa [Value.ownBlock] using hb
   subst q
   exact hv.kept hg (.inr (zaH hv hcur hne))
theorem zjn.snoc {base:Nat} {w w':World} {v v' ev:Value} {ls:List (List Cl)} {c:List Cl} {evs:List Value} (h1:w.ownsRow base 46 1 v ls.length evs) (h2:∀ (i:Nat) (c:List Cl),ls[i]?=some c->∃ ev,evs[i]?=some ev/\w.ownsRow base 33 4 ev c.length (zaR c))
  (hg:w.grownBy w' v.ownBlock) (ho:w'.ownsRow base 46 1 v' (ls.length+1) (evs++[ev])) (hev:w.ownsRow base 33 4 ev c.length (zaR c)):zjn base w' v' (ls++[c]):=by
 have hl:evs.length=ls.length:=by have:=h1.1; omega
 refine ⟨evs++[ev],by rw [List.length_append]; exact ho,fun i x hx=>?_⟩
 by_cases hi:i < ls.length
 ·rw [List.getElem?_append_left hi] at hx
  obtain ⟨u,e1,e2⟩:=h2 i x hx
  exact ⟨u,by rw [List.getElem?_append_left (by omega)]; exact e1,zk0 e2 h1 hg (by decide)⟩
 ·rw [List.getElem?_append_right (by omega)] at hx
  obtain rfl:i=ls.length:=by
   have:=(List.getElem?_eq_some_iff.1 hx).1
   simp at this
   omega
  simp at hx
  subst hx
  exact ⟨ev,by rw [<- hl,List.getElem?_append_right (Nat.le_refl _)]; simp,zk0 hev h1 hg (by decide)⟩
theorem zlT (l:List Value):(l.map fun u=>[u]).flatten=l:=by
 induction l with
 | nil=>rfl
 | cons a l ih=>simp [ih]
theorem zjn.rd {base:Nat} {w:World} {v:Value} {ls:List (List Cl)} (h:zjn base w v ls):Rd (fun k=>base<=k) (fun w=>zaj 1 zeB w v ls) w:=fun w2 hw2=>by
 obtain ⟨evs,h1,h2⟩:=h
 have hl:evs.length=ls.length:=by have:=h1.1; omega
 refine ⟨evs.map fun u=>[u],⟨by rw [List.length_map,hl],fun i c x hc hx=>?_⟩,?_⟩
 ·obtain ⟨ev,e1,e2⟩:=h2 i x hx
  rw [List.getElem?_map,e1] at hc
  cases hc
  exact ⟨rfl,ev,rfl,zfV e2 w2 hw2⟩
 ·have q:=zdy h1 w2 hw2
  rw [zlT]
  exact q

def zlA (ls:List (List Cl)) (steps:List (Int×Int)):Mc:=(zba 300 (zcS (zcJ ls) steps)).1
structure FixOk (ls:List (List Cl)) (S:Mc):Prop where
 gz:GzM ls S
 idle:zdE S=true
 done:∃ ks bz,MInv ls S ks bz
theorem zgJ {ls:List (List Cl)} (hr:zaG ls) (steps:List (Int×Int)):FixOk ls (zlA ls steps):=by
 have hg:=zlW hr steps
 obtain ⟨h1,⟨ks,bz,h2⟩,h3⟩:=id hg
 obtain ⟨q1,-,q3⟩:=zty h1 h2
 exact ⟨zkw 300 hg,q1,q3⟩
theorem FixOk.look {ls:List (List Cl)} {S:Mc} (h:FixOk ls S):LookM S:=zpa (znE h.gz) (by decide)
theorem FixOk.nc {ls:List (List Cl)} {S:Mc} (h:FixOk ls S):S.clients.length=ls.length:=by
 obtain ⟨ks,bz,h2⟩:=h.done
 exact h2.nc
theorem FixOk.got {ls:List (List Cl)} {S:Mc} (h:FixOk ls S) {i:Nat} {c:Cn} (hc:S.clients[i]?=some c):c.got.length=(ls.getD i []).length/\c.got=told S.store.past i:=by
 obtain ⟨ks,bz,h2⟩:=h.done
 obtain ⟨q1,-,q3⟩:=zhq h2 h.idle hc
 exact ⟨q1,q3⟩
theorem FixOk.names {ls:List (List Cl)} {S:Mc} (h:FixOk ls S):zbg (zav S.store.cells S.store.undo)=names S.store.past:=by
 obtain ⟨ks,bz,h2⟩:=h.done
 exact h2.nm
theorem FixOk.donep {ls:List (List Cl)} {S:Mc} (h:FixOk ls S):Done ls S.store.past:=by
 obtain ⟨ks,bz,h2⟩:=h.done
 exact ztx h2 h.idle

open Go.RowKit Go.Mk

theorem Tryz.infoCallsY:(Tryz.prog.info? 46).map (fun i=>(i.zero,i.size,i.bytes))=some (some (.slice none 0 0),1,24):=by kernel_rfl
theorem zsJ {w w':World} {b:Nat} {v:Value} {e:TypeId} (h:Made w w' b (.cells #[v] e)):Row w' 1 (.slice (some ⟨b,0,none⟩) 1 1) 1 [v]:=Row.of_owns (zbB (base:=0) h (Nat.zero_le _) rfl (by decide))

theorem zdj {TV:World->Prop} (hText:TextOk TV) (hPlay:zfL) (hSettle:zdS) (hIdle:zfN) (v0 v1:Value) (ss:List (List UInt8)) (ls:List (List Cl)) (steps:List (Int×Int)) (w:World) (hTV:TV w) (h0:zlu w v0 ss) (h1:zar w v1 steps) (ht:zbb ss ls) (hr:zaG ls) (h4:steps.length<=400) :
  zaw Tryz.prog 8 #[v0,v1] w fun r w'=>∃ cs:List Value,r=.tuple #[.agg cs.toArray,.bool true]/\zdi w' cs (zlA ls steps):=by
 unfold zaw;have HSS:=zhd h0;have HSTP:=zhd h1;have HTS:=zhd ht;have HRL:=zhd hr;have H400:=zhd h4;have hfx:=zgJ hr steps;obtain ⟨S,hS⟩:∃ x,zlA ls steps=x:=⟨_,rfl⟩;rw [hS] at hfx ⊢;have FX:=zhd hfx;have HFM:=zhd hS;clear hfx hS;obtain ⟨za,zc,rfl,-⟩:=zlu.form h0;obtain ⟨ta,tc,rfl⟩:=zao h1;clear h0 h1 ht hr h4;have HTX:=zhd hText;have HPL:=zhd hPlay;have HSE:=zhd hSettle;have HIO:=zhd hIdle;have HTV:=zhd hTV;clear hText hPlay hSettle hIdle hTV;have EW:=zhd (Ext.refl w);obtain ⟨B,HB0⟩:∃ B:Nat->Prop,Hid (∀ k,B k↔True):=⟨_,fun _=>Iff.rfl⟩;go_enter Tryz.func8,Tryz.ntmps8
 go_wp2_with (with_reducible refine zT ?_)
 refine zac rfl 43 zM (by kernel_rfl) (fun b4 w1_ M1=>?_);obtain ⟨B1,HB1⟩:=zEx B b4;have zdb:=zNn HB1;have zew:=zOn M1 EW;have zaE:=zmb M1;obtain ⟨i0,hi,hz0,hz1,hz2⟩:=info_parts Tryz.infoCallsY;have HI:=zhd (And.intro hi (And.intro hz0 (And.intro hz1 hz2)));clear hi hz0 hz1 hz2;go_wp2_with fail
 have SZ4:=zhd (zlt zaE);replace EW:=zet EW M1;have E0:=EW;replace EW:=zhd (Ext.refl w1_);have HLN:Hid (ss.length=ls.length):=HTS.o.1;go_loopw [6,18] (fun es i wr=>∃ j:Nat,j<=ss.length/\i=I j/\zjn w1_.heap.size wr es (ls.take j)/\Ext w1_ wr) (fun _ i _=>ss.length - (intOf i).toNat)
 case atStart=>exact ⟨0,Nat.zero_le _,rfl,zjn.nil _ _,Ext.refl _⟩
 case round =>
  obtain ⟨j,hj,rfl,ho,hex⟩:=hrel;replace zaE:=zbx zaE hex;replace EW:=zhd (EW.o.trans hex);clear hex;by_cases hlt:j < ss.length
  case pos =>
   obtain ⟨s,hs⟩:∃ x,ss[j]?=some x:=⟨ss[j],List.getElem?_eq_getElem hlt⟩;obtain ⟨hs1,hs2⟩:=HTS.o.2 j s hs;obtain ⟨evs,ho1,ho2⟩:=ho;have hjl:(ls.take j).length=j:=by rw [List.length_take]; have q:=HLN.o; omega
   rw [hjl] at ho1;obtain ⟨ea,ecap,rfl⟩:=zcR ho1;have OE:=zhd ho1;have OD:=zhd ho2;have HJL:=zhd hjl;obtain ⟨_,_,e1,_,hmx,hf⟩:=zlu.form HSS.o;simp only [Value.slice.injEq,true_and] at e1;obtain ⟨rfl,rfl⟩:=e1;obtain ⟨sb,so,rfl,d0⟩:=hf j s hs;replace d0:=(E0.o.trans EW.o).cell d0;have HP:=zhd hs2;have HB:=zhd hs1;have HLT:=zhd hlt;have HMX:=zhd hmx;have hli:(j:Int) < (ss.length:Int):=by omega
   have hl0:(0:Int)<=(j:Int):=by omega
   clear hf hs hlt hj ho1 ho2 hs1 hs2 hjl hmx;go_wp2_with fail
   clear d0 hli hl0;refine (HTX.o.parse s wr (HTX.o.ext _ _ HTV.o (E0.o.trans EW.o)) HB.o).to fun r w2 e2 hr=>?_;obtain ⟨v,rfl,ho⟩:=hr;rw [HP.o] at ho;rw [HP.o];replace ho:w2.ownsRow wr.heap.size 33 4 v (ls.getD j []).length (zaR (ls.getD j [])):=ho;obtain ⟨va,vc,rfl⟩:=zcR ho;have HEV:Hid (w2.ownsRow w1_.heap.size 33 4 (.slice va (ls.getD j []).length vc) (ls.getD j []).length (zaR (ls.getD j []))):=zaL ho EW.o.size
   have OD2:Hid (∀ (i:Nat) (c:List Cl),(ls.take j)[i]?=some c->∃ ev,evs[i]?=some ev/\w2.ownsRow w1_.heap.size 33 4 ev c.length (zaR c)):=fun i c hc=>by
    obtain ⟨ev,q1,q2⟩:=OD.o i c hc;exact ⟨ev,q1,zai q2 e2⟩
   clear ho OD;replace OE:=zhd (zai OE.o e2);replace zaE:=zbx zaE e2;replace EW:=zhd (EW.o.trans e2);clear e2;go_wp2_with (with_reducible refine zT ?_)
   unfold Hid;refine zbe rfl 46 1 #[.slice va (ls.getD j []).length vc] (by kernel_rfl) (fun b32 w601_ M601=>?_)
   replace OD2:Hid (∀ (i:Nat) (c:List Cl),(ls.take j)[i]?=some c->∃ ev,evs[i]?=some ev/\w601_.ownsRow w1_.heap.size 33 4 ev c.length (zaR c)):=fun i c hc=>by
    obtain ⟨ev,q1,q2⟩:=OD2.o i c hc;exact ⟨ev,q1,zai q2 M601.o.ext⟩
   have hlit:=zsJ M601.o;obtain ⟨hi,hz0,hz1,hz2⟩:=HI.o;go_wp2_with (first | (at_builtin; refine zb7 ?_) | (with_reducible refine zT ?_))
   unfold Hid;replace EW:=zet EW M601;replace OE:=zhd (zai OE.o M601.o.ext);refine zaJ _ rfl (.tmp 30) (.tmp 32) 57 rfl w1_.heap.size 46 i0 (.slice none 0 0) 1 24 zvB hi hz0 hz1 hz2 rfl (by decide) _ j evs rfl OE.o _ rfl 1 _ hlit (fun u hu=>by rw [List.mem_singleton.1 hu]; rfl) (by have q:=HLT.o; have q2:=HLN.o; have q3:=HRL.o.1; omega) (by decide) EW.o.size ?_;intro v33 wz ho hg;have hew:Ext w1_ wz:=EW.o.grown hg (fun k hk=>(OE.o.lt k hk).1);replace HEV:=zhd (zai HEV.o M601.o.ext)
   have hsn:zjn w1_.heap.size wz v33 (ls.take (j+1)):=by
    have q:=HLT.o;have q2:=HLN.o
    have e1:ls.take (j+1)=ls.take j++[ls.getD j []]:=by
     rw [List.take_add_one,List.getD_eq_getElem?_getD,List.getElem?_eq_getElem (by omega)];rfl
    rw [e1];exact zjn.snoc (by rw [HJL.o]; exact OE.o) OD2.o hg (by rw [HJL.o]; exact ho) HEV.o
   have hkb:j < 2000:=by have q:=HLT.o; have q2:=HLN.o; have q3:=HRL.o.1; omega
   clear hi hz0 hz1 hz2 hlit hg ho;go_wp2
   go_roundw
   case rel=>exact ⟨j+1,HLT.o,by go_num,hsn,hew⟩
   case measure=>have:=HLT.o; simp [intOf]; omega
  obtain rfl:j=ss.length:=by omega
  rw [HLN.o,List.take_of_length_le (Nat.le_refl _)] at ho;have hro:=ho.rd;obtain ⟨ea,ecap,rfl⟩:=zaf hro.o;have HV:=zhd hro;clear hlt hj ho;go_wp2_with fail
  obtain ⟨P,HP⟩:∃ X:Nat->Prop,Hid (∀ k,X k↔w1_.heap.size<=k):=⟨_,fun _=>Iff.rfl⟩;have hin:∀ k,k < wr.heap.size->w1_.heap.size<=k->P k:=fun k _ h=>(HP.o k).2 h;have zdb:Hid (¬ P b4):=fun h=>by have q:=(HP.o _).1 h; have q2:=SZ4.o; omega
  refine (HPL.o _ _ ls steps wr P (HV.o.widen hin) (HSTP.o.ext (E0.o.trans EW.o))).to fun r wp ep hr=>?_;obtain ⟨cs,es,rfl,hok,-⟩:=zsF hr
  have hpe:zcr ls steps=0:=by
   unfold zcr;rw [zjG HRL.o,if_neg (by simp),if_neg (by have q:=H400.o; omega)]
  obtain ⟨-,hm,hes⟩:=hok hpe;rw [hpe];obtain ⟨mk,hmk⟩:∃ mk,zcS (zcJ ls) steps=mk:=⟨_,rfl⟩;have hgz:=zlW HRL.o steps;rw [hmk] at hm hgz;have HSF:Hid ((zba 300 mk).1=S):=by rw [<- HFM.o,<- hmk]; rfl
  obtain ⟨c,u,a,p,box,plan,cl,rfl,hM⟩:=zcu hm;obtain ⟨ca,cc,ua,uc,aa,ac,pa,pc,xa,xc,la,lc,ka,kc,rfl,rfl,rfl,rfl,rfl,rfl,rfl⟩:=hM.slices;have GZ:=zhd hgz;obtain ⟨esa,esc,rfl⟩:=zao hes.o;have H:=zhd (hM.widen (B:=P) fun k _ h=>by rcases h with h | h; exact h; exact (HP.o k).2 (Nat.le_trans EW.o.size h));clear hM hm hr hes hok hpe hmk hgz HV;replace zaE:=zbx zaE ep;replace EW:=zhd (EW.o.trans ep);clear ep hin;go_wp2_with (with_reducible refine zT ?_)
  refine zac rfl 43 zM (by kernel_rfl) (fun b11 w2_ M2=>?_);have zrU:=zld zaE M2;obtain ⟨P1,HP1⟩:=zEx P b11;have zhH:=zNn HP1;replace EW:=zhd (E0.o.trans EW.o);have znj:=zOn M2 EW;have zbJ:=zmb M2;go_wp2_with (with_reducible refine zT ?_)
  refine zaa rfl 43 (.tmp 11) (.tmp 39) rfl b11 rfl [.slice ca mk.store.cells.length cc,.slice ua mk.store.undo.length uc,.slice aa mk.store.answers.length ac,.slice pa mk.store.past.length pc,I mk.server.gen,.slice xa mk.server.box.length xc,.bool mk.server.busy,I mk.server.now.client,I mk.server.now.token,I mk.server.now.call.kind,I mk.server.now.call.name,I mk.server.now.call.other,I mk.server.now.call.n,.slice la mk.server.plan.length lc,I mk.server.says.err,I mk.server.says.n,.bool mk.up,I mk.pause,I mk.falls,.slice ka mk.clients.length kc] (rfl) zbJ rfl zaT rfl (fun w3_ M3=>?_);replace zbJ:=zwb M3;go_wp2_with (with_reducible refine zT ?_)
  refine zah rfl 43 (.tmp 11) rfl b11 rfl zbJ za2 zaT (fun v46 H_v46=>?_);go_wp2_with fail
  rw [H_v46.o];clear H_v46;obtain ⟨K,HK⟩:∃ X:Nat->Prop,Hid (∀ k,X k↔(P1 k∨w3_.heap.size<=k)):=⟨_,fun _=>Iff.rfl⟩;replace H:=zHw M3 (zhd ((zMD HP1 M2 H).o.ext M2.o.ext)) zhH;replace H:=zhd (H.o.widen (B:=K) fun k _ h=>(HK.o k).2 (.inl h));replace zdb:=znw HP1 zdb;replace zaE:=zwl M3 (zmo M2 zaE) zrU;replace zdb:Hid (¬ K b4):=zu7 HK zdb zaE;replace zhH:Hid (¬ K b11):=zu7 HK zhH zbJ;refine (HSE.o ls mk _ _ _ _ _ _ _ w3_ K H.o GZ.o).to fun r ws es9 hr=>?_;obtain ⟨cs,rfl,hcs⟩:=ziG hr;rw [HSF.o] at hcs;generalize ((zba 300 mk).2:Int)=SN;obtain ⟨c9,u9,a9,p9,box9,plan9,cl9,rfl,hM⟩:=zcu hcs;obtain ⟨ca9,cc9,ua9,uc9,aa9,ac9,pa9,pc9,xa9,xc9,la9,lc9,ka9,kc9,rfl,rfl,rfl,rfl,rfl,rfl,rfl⟩:=hM.slices;have X9:=zhd (hM.widen (B:=K) fun k _ h=>(HK.o k).2 (by rcases h with h | h; exact (HK.o k).1 h; exact .inr h));clear hr hcs hM;replace EW:=zhd ((zwe M3 (zet EW M2) znj).o.trans es9);replace zaE:=zbx zaE es9;replace zbJ:=zbx zbJ es9;replace H:=zhd (H.o.ext es9);clear es9;go_wp2_with (with_reducible refine zT ?_)
  refine zac rfl 43 zM (by kernel_rfl) (fun b14 w4_ M4=>?_);have zmK:=zld zaE M4;have zqk:=zld zbJ M4;obtain ⟨K1,HK1⟩:=zEx K b14;have zm6:=zNn HK1;have zse:=zOn M4 EW;have ze7:=zmb M4;go_wp2_with (with_reducible refine zT ?_)
  refine zaa rfl 43 (.tmp 14) (.tmp 48) rfl b14 rfl [.slice ca9 S.store.cells.length cc9,.slice ua9 S.store.undo.length uc9,.slice aa9 S.store.answers.length ac9,.slice pa9 S.store.past.length pc9,I S.server.gen,.slice xa9 S.server.box.length xc9,.bool S.server.busy,I S.server.now.client,I S.server.now.token,I S.server.now.call.kind,I S.server.now.call.name,I S.server.now.call.other,I S.server.now.call.n,.slice la9 S.server.plan.length lc9,I S.server.says.err,I S.server.says.n,.bool S.up,I S.pause,I S.falls,.slice ka9 S.clients.length kc9] (rfl) ze7 rfl zaT rfl (fun w5_ M5=>?_);replace ze7:=zwb M5;go_wp2_with fail
  have HNC:Hid (S.clients.length=ss.length):=FX.o.nc.trans HLN.o.symm;refine zbL (S:=fun w'=>w'.heap[b14]?=some (.cells #[.slice ca9 S.store.cells.length cc9,.slice ua9 S.store.undo.length uc9,.slice aa9 S.store.answers.length ac9,.slice pa9 S.store.past.length pc9,I S.server.gen,.slice xa9 S.server.box.length xc9,.bool S.server.busy,I S.server.now.client,I S.server.now.token,I S.server.now.call.kind,I S.server.now.call.name,I S.server.now.call.other,I S.server.now.call.n,.slice la9 S.server.plan.length lc9,I S.server.says.err,I S.server.says.n,.bool S.up,I S.pause,I S.falls,.slice ka9 S.clients.length kc9] 43 (0,0))) (by kernel_rfl) (fun wd ed _=>?_);replace ze7:=zbx ze7 ed;have HSS:Hid (wd.heap[b14]?=some (.cells #[.slice ca9 S.store.cells.length cc9,.slice ua9 S.store.undo.length uc9,.slice aa9 S.store.answers.length ac9,.slice pa9 S.store.past.length pc9,I S.server.gen,.slice xa9 S.server.box.length xc9,.bool S.server.busy,I S.server.now.client,I S.server.now.token,I S.server.now.call.kind,I S.server.now.call.name,I S.server.now.call.other,I S.server.now.call.n,.slice la9 S.server.plan.length lc9,I S.server.says.err,I S.server.says.n,.bool S.up,I S.pause,I S.falls,.slice ka9 S.clients.length kc9] 43 (0,0))):=ze7.o;refine za8 0 rfl (by kernel_rfl) (by kernel_rfl) (by kernel_rfl) (fun _ _ _ _ h=>h) rfl 43 (.tmp 14) rfl b14 rfl (fun w' hS=>hS) za2 (by kernel_rfl) HSS ?_;refine zag fun K h=>?_; go_simp; refine h _ ?_; clear h K;refine za8 1 rfl (by kernel_rfl) (by kernel_rfl) (by kernel_rfl) (fun _ _ _ _ h=>h) rfl 43 (.tmp 14) rfl b14 rfl (fun w' hS=>hS) za2 (by kernel_rfl) HSS ?_;refine zag fun K h=>?_; go_simp; refine h _ ?_; clear h K;refine zcZ 2 (by kernel_rfl) rfl rfl 14 #[.agg #[.slice ca9 S.store.cells.length cc9,.slice ua9 S.store.undo.length uc9,.slice aa9 S.store.answers.length ac9,.slice pa9 S.store.past.length pc9,I S.server.gen,.slice xa9 S.server.box.length xc9,.bool S.server.busy,I S.server.now.client,I S.server.now.token,I S.server.now.call.kind,I S.server.now.call.name,I S.server.now.call.other,I S.server.now.call.n,.slice la9 S.server.plan.length lc9,I S.server.says.err,I S.server.says.n,.bool S.up,I S.pause,I S.falls,.slice ka9 S.clients.length kc9]] (by go_simp) ?_;replace X9:=zhd ((zHw M5 (zhd ((zMD HK1 M4 X9).o.ext M4.o.ext)) zm6).o.ext ed);refine (HIO.o S _ _ _ _ _ _ _ wd K1 X9.o FX.o.look).to fun r wg eg hr=>?_;rw [FX.o.idle] at hr;subst hr;replace H:=zhd ((zhd ((zHw M5 (zhd ((zMD HK1 M4 H).o.ext M4.o.ext)) zm6).o.ext ed)).o.ext eg);replace zaE:=zbx (zbx (zwl M5 (zmo M4 zaE) zmK) ed) eg;replace zbJ:=zbx (zbx (zwl M5 (zmo M4 zbJ) zqk) ed) eg;replace EW:=zhd ((zhd ((zwe M5 (zet EW M4) zse).o.trans ed)).o.trans eg);replace ze7:=zbx ze7 eg;replace X9:=zhd (X9.o.ext eg)
  clear HSS eg;refine ⟨_,rfl,ze7.o,?_⟩;have HSS:Hid (wg.heap[b14]?=some (.cells #[.slice ca9 S.store.cells.length cc9,.slice ua9 S.store.undo.length uc9,.slice aa9 S.store.answers.length ac9,.slice pa9 S.store.past.length pc9,I S.server.gen,.slice xa9 S.server.box.length xc9,.bool S.server.busy,I S.server.now.client,I S.server.now.token,I S.server.now.call.kind,I S.server.now.call.name,I S.server.now.call.other,I S.server.now.call.n,.slice la9 S.server.plan.length lc9,I S.server.says.err,I S.server.says.n,.bool S.up,I S.pause,I S.falls,.slice ka9 S.clients.length kc9] 43 (0,0))):=ze7.o;refine zag fun K h=>?_; go_simp; refine h _ ?_; clear h K;refine zak 3 rfl (by kernel_rfl) (by kernel_rfl) (by kernel_rfl) (fun _ _ _ _ h=>h) rfl HSS.o (fun K hK=>?_); go_simp; refine hK _ ?_; clear hK K;refine zak 4 rfl (by kernel_rfl) (by kernel_rfl) (by kernel_rfl) (fun _ _ _ _ h=>h) rfl HSS.o (fun K hK=>?_); go_simp; refine hK _ ?_; clear hK K;refine zbG 5 rfl (by kernel_rfl) (by kernel_rfl) (by kernel_rfl) (fun _ _ _ _ h=>h) (.slice ka9 ss.length kc9) rfl (fun w' hS=>by have q0:=zae (i:=19) hS rfl; rw [HNC.o] at q0; go_simp) HSS.o ?_;refine zag fun K h=>?_; go_simp; refine h _ ?_; clear h K;refine zak 6 rfl (by kernel_rfl) (by kernel_rfl) (by kernel_rfl) (fun _ _ _ _ h=>h) rfl HSS.o (fun K hK=>?_); go_simp; refine hK _ ?_; clear hK K;refine zak 7 rfl (by kernel_rfl) (by kernel_rfl) (by kernel_rfl) (fun _ _ _ _ h=>h) rfl HSS.o (fun K hK=>?_); go_simp; refine hK _ ?_; clear hK K;refine zak 8 rfl (by kernel_rfl) (by kernel_rfl) (by kernel_rfl) (fun _ _ _ _ h=>h) rfl HSS.o (fun K hK=>?_); go_simp; refine hK _ ?_; clear hK K;refine zak 9 rfl (by kernel_rfl) (by kernel_rfl) (by kernel_rfl) (fun _ _ _ _ h=>h) rfl HSS.o (fun K hK=>?_); go_simp; refine hK _ ?_; clear hK K;refine zak 10 rfl (by kernel_rfl) (by kernel_rfl) (by kernel_rfl) (fun _ _ _ _ h=>h) rfl HSS.o (fun K hK=>?_); go_simp; refine hK _ ?_; clear hK K;replace zdb:=znw HK1 zdb;refine za7 11 (by kernel_rfl) rfl rfl 43 (.tmp 4) (.tmp 50) rfl b4 rfl [.slice ca9 S.store.cells.length cc9,.slice ua9 S.store.undo.length uc9,.slice aa9 S.store.answers.length ac9,.slice pa9 S.store.past.length pc9,I S.server.gen,.slice xa9 S.server.box.length xc9,.bool S.server.busy,I S.server.now.client,I S.server.now.token,I S.server.now.call.kind,I S.server.now.call.name,I S.server.now.call.other,I S.server.now.call.n,.slice la9 S.server.plan.length lc9,I S.server.says.err,I S.server.says.n,.bool S.up,I S.pause,I S.falls,.slice ka9 S.clients.length kc9] (rfl) zaE rfl (by kernel_rfl) rfl (fun w6_ M6=>⟨?_,?_⟩)
  ·exact M6.o.old ze7.o (Nat.ne_of_gt zmK.o)
  replace zaE:=zwb M6;clear HSS;replace ze7:=zwg M6 ze7 zmK;have HSS:Hid (w6_.heap[b14]?=some (.cells #[.slice ca9 S.store.cells.length cc9,.slice ua9 S.store.undo.length uc9,.slice aa9 S.store.answers.length ac9,.slice pa9 S.store.past.length pc9,I S.server.gen,.slice xa9 S.server.box.length xc9,.bool S.server.busy,I S.server.now.client,I S.server.now.token,I S.server.now.call.kind,I S.server.now.call.name,I S.server.now.call.other,I S.server.now.call.n,.slice la9 S.server.plan.length lc9,I S.server.says.err,I S.server.says.n,.bool S.up,I S.pause,I S.falls,.slice ka9 S.clients.length kc9] 43 (0,0))):=ze7.o;refine zag fun K h=>?_; go_simp; refine h _ ?_; clear h K;refine zaF 12 (by kernel_rfl) rfl rfl _ rfl HSS.o ?_;refine zag fun K h=>?_; go_simp; refine h _ ?_; clear h K;refine wpAnyH_done (by kernel_rfl) ?_ _;clear HSS;go_wp2
  have z0:=zau (P:=Tryz.prog) 43 zaE.o za2 (by kernel_rfl);refine bodyPost_ret (by simp [results,Tryz.results8,asAddr,z0]; rfl) rfl ?_;replace X9:=zHw M6 X9 zdb;replace EW:=zwe M6 EW zew;exact ⟨_,rfl,EW.o,_,rfl,X9.o.mc.o⟩

open Go.RowKit Go.Mk

def tY:List UInt8:=[112,117,116,32,55,32,53,10,103,101,116,32,55,10]
def cY:List Cl:=[⟨1,7,0,5⟩,⟨2,7,0,0⟩]
theorem rY:zaG [cY]:=⟨by decide,fun c hc=>by
 rw [List.mem_singleton.1 hc]
 exact ⟨by decide,fun x hx=>by
  rcases List.mem_cons.1 hx with rfl | hx
  ·decide
  ·rw [List.mem_singleton.1 hx]; decide⟩⟩
theorem pY:printCl cY=tY:=by decide +kernel
theorem zuy:zbb [tY] [cY]:=⟨rfl,fun i s hs=>by
 match i,hs with
 | 0,hs =>
  cases hs
  refine ⟨by decide,?_⟩
  rw [<- pY,zib (fun c hc=>(rY.2 cY (List.mem_singleton.2 rfl)).2 c hc),if_neg (by decide)]
  rfl
 | i+1,hs=>simp at hs⟩
theorem zvr {S:Mc} (h:FixOk [cY] S) {c:Cn} (hc:S.clients[0]?=some c):c.got=[⟨0,0⟩,⟨0,5⟩]:=by
 obtain ⟨ks,bz,h2⟩:=h.done
 exact ((zuO h2 h.idle).2 c hc).1.trans rfl

theorem zd9 {TV:World->Prop} (hText:TextOk TV) (hPlay:zfL) (hSettle:zdS) (hIdle:zfN) (w:World) (hTV:TV w):zaw Tryz.prog 7 #[] w fun r _=>r=.bool true:=by
 refine zcP ?_;have HTX:=zhd hText;have HPL:=zhd hPlay;have HSE:=zhd hSettle;have HIO:=zhd hIdle;have HTV:=zhd hTV;clear hText hPlay hSettle hIdle hTV;have EW:=zhd (Ext.refl w);obtain ⟨B,HB0⟩:∃ B:Nat->Prop,Hid (∀ k,B k↔True):=⟨_,fun _=>Iff.rfl⟩;go_enter Tryz.func7,Tryz.ntmps7
 go_wp2_with (with_reducible refine zT ?_)
 unfold Hid;refine zbe rfl 9 1 #[SS tY] (by kernel_rfl) (fun bs w1_ M1=>?_);have zvu:=zmb M1;have HSS:Hid (zlu w1_ (.slice (some ⟨bs,0,none⟩) 1 1) [tY]):=Row.of_owns (zbB (base:=0) M1.o (Nat.zero_le _) rfl (by decide));clear zvu;go_wp2_with fail
 obtain ⟨S,hS⟩:∃ x,zlA [cY] []=x:=⟨_,rfl⟩;have hfx:=zgJ rY [];rw [hS] at hfx;have FX:=zhd hfx;have HFM:=zhd hS;clear hfx hS;replace EW:=zet EW M1;refine ((zdj HTX.o HPL.o HSE.o HIO.o _ _ [tY] [cY] [] w1_ (HTX.o.ext _ _ HTV.o EW.o) HSS.o (zbr _) zuy rY (by decide)).mono fun r w' _ h=>(by rw [HFM.o] at h; exact h)).to fun r ws es9 hr=>?_;obtain ⟨cs,rfl,hcs⟩:=hr;obtain ⟨c9,u9,a9,p9,box9,plan9,cl9,rfl,hM⟩:=zcu (Rd.widen (B:=fun k=>k < ws.heap.size) (Rd.of (φ:=fun w=>zdi w cs S) (fun w w' hk h=>zhN w w' _ _ hk h) hcs) (fun _ _ h=>h));obtain ⟨ca9,cc9,ua9,uc9,aa9,ac9,pa9,pc9,xa9,xc9,la9,lc9,ka9,kc9,rfl,rfl,rfl,rfl,rfl,rfl,rfl⟩:=hM.slices;obtain ⟨Z9,HZ9⟩:∃ X:Nat->Prop,Hid (∀ k,X k↔k < ws.heap.size):=⟨_,fun _=>Iff.rfl⟩;have X9:=zhd (hM.widen (B:=Z9) fun k _ h=>(HZ9.o k).2 h);clear hcs hM;replace EW:=zhd (EW.o.trans es9);clear es9;go_wp2_with (with_reducible refine zT ?_)
 refine zac rfl 43 zM (by kernel_rfl) (fun b1 w2_ M2=>?_);obtain ⟨Z91,HZ91⟩:=zEx Z9 b1;have zaB:=zNn HZ91;have za9:=zOn M2 EW;have zad:=zmb M2;go_wp2_with (with_reducible refine zT ?_)
 refine zaa rfl 43 (.tmp 1) (.tmp 6) rfl b1 rfl [.slice ca9 S.store.cells.length cc9,.slice ua9 S.store.undo.length uc9,.slice aa9 S.store.answers.length ac9,.slice pa9 S.store.past.length pc9,I S.server.gen,.slice xa9 S.server.box.length xc9,.bool S.server.busy,I S.server.now.client,I S.server.now.token,I S.server.now.call.kind,I S.server.now.call.name,I S.server.now.call.other,I S.server.now.call.n,.slice la9 S.server.plan.length lc9,I S.server.says.err,I S.server.says.n,.bool S.up,I S.pause,I S.falls,.slice ka9 S.clients.length kc9] (rfl) zad rfl zaT rfl (fun w3_ M3=>?_);replace zad:=zwb M3;have hn1:S.clients.length=1:=FX.o.nc;replace X9:=zHw M3 (zhd ((zMD HZ91 M2 X9).o.ext M2.o.ext)) zaB;obtain ⟨css,hcs⟩:=zdo (by decide) X9.o.clients;obtain ⟨c0,c,hc0,hc,-⟩:=zeC (k:=0) hcs.left.o (by rw [hn1]; decide);obtain ⟨kcalls,kbox,kgot,rfl,q1,q2,q3⟩:=zd2 (zdM hcs.left hc0 hc)
 obtain ⟨kb,ko,hka⟩:∃ b o,ka9=some ⟨b,o,none⟩:=by
  obtain ⟨_,_,e1,_,_,_,hf⟩:=X9.o.clients.o.form (by decide);simp only [Value.slice.injEq,true_and] at e1;obtain ⟨rfl,rfl⟩:=e1;obtain ⟨b,o,_,e2,_⟩:=hf _ _ hc;exact ⟨b,o,e2⟩
 subst hka;have hrg:=zcY (by decide) hcs.right.o hcs.left.o.sizes hc0;have g5:=hrg 5 _ rfl;rw [Nat.zero_mul,Nat.add_zero] at g5;obtain ⟨gao,gcap,e3,hg1,hg2,hgf⟩:=zdT q3.o;subst e3;rw [zvr FX.o hc] at g5 hgf hg1;obtain ⟨gb,go2,rfl,-,r1⟩:=hgf 1 ⟨0,5⟩ rfl;simp only [List.length_cons,List.length_nil,Nat.zero_add,Nat.one_mul] at g5 r1 hg1;rw [show go2+2+1=go2+3 from rfl] at r1;have y19:=zae (i:=19) zad.o rfl;rw [hn1] at y19;clear hcs hc0 hc q1 q2 q3 hrg hgf hn1;go_wp2
 go_ret
 replace EW:=zwe M3 (zet EW M2) za9;exact ⟨rfl,EW.o⟩

end Go.Proofs.YtdmipnnfoolelagGreatDoor

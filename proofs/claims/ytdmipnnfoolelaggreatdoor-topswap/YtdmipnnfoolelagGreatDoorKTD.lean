/- zbb of the proof, merged: Math9 Mem4 Mem5 Read4 Read5 Mem6 MonoW Mem7. -/
import Derived.Test.YtdmipnnfoolelagGreatDoorKTC
import Derived.Test.YtdmipnnfoolelagGreatDoorKTA
import Derived.ArgAppend

namespace Go.Mk
open Go Go.RowKit

structure Sv where
 gen:Int
 box:List (List UInt8)
 busy:Bool
 now:Rq
 plan:List (Int×Int)
 says:Rp

structure Cn where
 calls:List Cl
 at_:Int
 sent:Bool
 gen:Int
 box:List (List UInt8)
 got:List Rp

structure Mc where
 store:St
 server:Sv
 up:Bool
 pause:Int
 falls:Int
 clients:List Cn

def zbQ (gen:Int) (box:List (List UInt8)):Sv:=⟨gen,box,false,zeroRq,[],⟨0,0⟩⟩

def zbZ (v:Sv) (b:List UInt8):Sv×Int:=if 3<=v.box.length then (v,9) else ({ v with box:=v.box++[b] },0)

def zbg (xs:List Int):List (Int×Int):=zaX xs (xs.getD 0 0).toNat

def zaI (s:St) (v:Sv):St×Sv×List UInt8×Int :=
 if v.busy then
  match v.plan with
  | p::l=>(zaP s p,{ v with plan:=l },[],0)
  | []=>(zdQ s v.now v.says,zbQ v.gen v.box,zbF ⟨v.now.client,v.now.token,v.says⟩,0)
 else
  match v.box with
  | []=>(s,v,[],12)
  | b::l =>
   let v':Sv:={ v with box:=l }
   if (readRq b).2≠0 then (s,v',[],0)
   else
    let r:=(readRq b).1
    let a:=lastAn s.answers r.client
    if a.2/\r.token<=a.1.token then
     if a.1.token=r.token then (s,v',zbF a.1,0) else (s,v',[],0)
    else (s,{ v' with busy:=true,now:=r,plan:=zbE (zbg s.cells) r.call,says:=(zaO (zbg s.cells) r.call).2 },[],0)

def pauseOf (falls:Int):Int:=if falls < 1 then 1 else if 3 < falls then 3 else falls

def zf5 (m:Mc):Mc×Int :=
 if ¬ m.up then (m,11) else if 6<=m.falls then (m,5)
 else ({ m with falls:=m.falls+1,up:=false,pause:=pauseOf (m.falls+1),server:=zbQ m.server.gen [] },0)

def zbP (m:Mc):Mc :=
 if m.up then m else if 1 < m.pause then { m with pause:=m.pause - 1 }
 else { m with up:=true,pause:=0,store:=zci m.store,server:=zbQ (m.server.gen+1) [] }

def zde (c:Cn) (me gen:Int) (up:Bool):Cn×List UInt8×Int :=
 match c.box with
 | b::l =>
  let c':Cn:={ c with box:=l }
  let a:=readAn b
  if a.2=0/\a.1.client=me/\a.1.token=c.at_/\c.sent=true then ({ c' with got:=c.got++[a.1.reply],at_:=c.at_+1,sent:=false },[],0)
  else (c',[],0)
 | [] =>
  if (c.calls.length:Int)<=c.at_ then (c,[],11)
  else if ¬ up then (c,[],10)
  else if c.sent/\c.gen=gen then (c,[],12)
  else ({ c with sent:=true,gen:=gen },zbv ⟨me,c.at_,c.calls.getD c.at_.toNat ⟨0,0,0,0⟩⟩,0)

def zcE (c:Cn) (b:List UInt8):Cn:=if c.box.length < 3 then { c with box:=c.box++[b] } else c

def zbO (calls:List Cl):Cn:=⟨calls,0,false,0,[],[]⟩
def zcJ (l:List (List Cl)):Mc:=⟨newSt,zbQ 0 [],true,0,0,l.map zbO⟩
def zaG (l:List (List Cl)):Prop:=l.length<=3/\∀ c ∈ l,c.length<=8/\∀ x ∈ c,wrongCl x=0

def doM (m:Mc) (kind n:Int):Mc×Int :=
 if kind=1 then
  if n < 0∨(m.clients.length:Int)<=n then (m,6)
  else
   let c:=zde (m.clients.getD n.toNat (zbO [])) n m.server.gen m.up
   if c.2.2≠0 then (m,c.2.2)
   else if c.2.1≠[] then
    let v:=zbZ m.server c.2.1
    if v.2≠0 then (m,v.2) else ({ m with server:=v.1,clients:=m.clients.set n.toNat c.1 },0)
   else ({ m with clients:=m.clients.set n.toNat c.1 },0)
 else if kind=2 then
  if ¬ m.up then (m,10)
  else
   let x:=zaI m.store m.server
   if x.2.2.2≠0 then (m,x.2.2.2)
   else
    let m':Mc:={ m with store:=x.1,server:=x.2.1 }
    if x.2.2.1≠[] then
     let k:=(x.2.2.1.getD 1 0).toNat
     if k < m.clients.length then ({ m' with clients:=m.clients.set k (zcE (m.clients.getD k (zbO [])) x.2.2.1) },0) else (m',0)
    else (m',0)
 else if kind=3 then zf5 m
 else if kind=4 then (zbP m,0)
 else (m,1)

def zcS (m:Mc) (steps:List (Int×Int)):Mc:=steps.foldl (fun m s=>(doM m s.1 s.2).1) m

def roundM (m:Mc):Mc :=
 let m1:=zbP m
 let m2:=(List.range m1.clients.length).foldl (fun m (n:Nat)=>(doM m 1 (n:Int)).1) m1
 (doM m2 2 0).1

open Go Go.RowKit

def zbX:El Cl:=fun _ c x=>c=[I x.kind,I x.name,I x.other,I x.n]
def zgO:El An:=fun _ c x=>c=[I x.client,I x.token,I x.reply.err,I x.reply.n]
def zhJ:El Rq:=fun _ c x=>c=[I x.client,I x.token,I x.call.kind,I x.call.name,I x.call.other,I x.call.n]
def zeT:El Rp:=fun _ c x=>c=[I x.err,I x.n]
def zcI:El (List UInt8):=fun w c x=>∃ v,c=[v]/\za4 w v x
def zeB:El (List Cl):=fun w c x=>∃ v,c=[v]/\zaj 4 zbX w v x

theorem zbl:ze0 zbX:=fun _ _ _ _ _ h=>h
theorem zfW:ze0 zgO:=fun _ _ _ _ _ h=>h
theorem zoc:ze0 zhJ:=fun _ _ _ _ _ h=>h
theorem zf9:ze0 zeT:=fun _ _ _ _ _ h=>h
theorem zdK:ze0 zcI:=fun _ _ _ _ he ⟨v,e,h⟩=>⟨v,e,h.ext he⟩
theorem zrV:ze0 zeB:=fun _ _ _ _ he ⟨v,e,h⟩=>⟨v,e,h.ext zbl he⟩

theorem zbR {l:List Value} (h:l.all (fun u=>u.oneCell')=true):∀ u ∈ l,u.oneCell'=true:=fun u hu=>List.all_eq_true.1 h u hu
theorem ztC {w:World} {size n:Nat} {v:Value} {cs:List Value} (h:Row w size v n cs):v.oneCell'=true:=by
 obtain ⟨_,ao,cap,rfl,_⟩:=h
 rfl
theorem zh5 {X:Type} {R:El X} {w:World} {size:Nat} {v:Value} {xs:List X} (h:zaj size R w v xs):v.oneCell'=true:=by
 obtain ⟨_,_,h⟩:=h
 exact ztC h
def zcG:El Cn:=fun w c x=>∃ calls box got,c=[calls,I x.at_,.bool x.sent,I x.gen,box,got]/\zaj 4 zbX w calls x.calls/\zaj 1 zcI w box x.box/\zaj 2 zeT w got x.got
theorem zus:ze0 zcG:=fun _ _ _ _ he ⟨a,b,d,e,h1,h2,h3⟩=>⟨a,b,d,e,h1.ext zbl he,h2.ext zdK he,h3.ext zf9 he⟩
theorem zu2:zu6 zcG:=fun _ _ _ ⟨a,b,d,e,h1,h2,h3⟩ u hu=>by
 rw [e] at hu
 simp at hu
 rcases hu with rfl | rfl | rfl | rfl | rfl | rfl
 ·exact zh5 h1
 ·rfl
 ·rfl
 ·rfl
 ·exact zh5 h2
 ·exact zh5 h3

def zc7:El St:=fun w c x=>∃ a b d e,c=[a,b,d,e]/\zc2 w a x.cells/\zar w b x.undo/\zaj 4 zgO w d x.answers/\zaj 6 zhJ w e x.past
theorem zf7:ze0 zc7:=fun _ _ _ _ he ⟨a,b,d,e,h,h1,h2,h3,h4⟩=>⟨a,b,d,e,h,h1.ext he,h2.ext he,h3.ext zfW he,h4.ext zoc he⟩

def zg3:El Sv:=fun w c x=>∃ box plan,c=[I x.gen,box,.bool x.busy,I x.now.client,I x.now.token,I x.now.call.kind,I x.now.call.name,I x.now.call.other,I x.now.call.n,plan,I x.says.err,I x.says.n] /\
 zaj 1 zcI w box x.box/\zar w plan x.plan
def zdi:El Mc:=fun w c x=>∃ s v cl,c=s++v++[.bool x.up,I x.pause,I x.falls,cl]/\zc7 w s x.store/\zg3 w v x.server/\zaj 6 zcG w cl x.clients
theorem zcc {X:Type} {f:X->List Value} {size:Nat} {w:World} {v:Value} {xs:List X} (hf:∀ x,(f x).length=size):zaj size (fun _ c x=>c=f x) w v xs↔Row w size v xs.length (xs.flatMap f):=by
 constructor
 ·rintro ⟨css,he,hr⟩
  rw [ziH (f:=f) he.1 (fun i c x hc hx=>(he.2 i c x hc hx).2)] at hr
  exact hr
 ·intro h
  refine ⟨xs.map f,⟨by simp,fun i c x hc hx=>?_⟩,?_⟩
  ·rw [List.getElem?_map,hx] at hc
   simp at hc
   subst hc
   exact ⟨hf x,rfl⟩
  ·rw [<- List.flatMap_def]
   exact h
theorem zg5 {w:World} {v:Value} {l:List Rq}:zaj 6 zhJ w v l↔ztK w v l:=zcc (f:=fun (r:Rq)=>[I r.client,I r.token,I r.call.kind,I r.call.name,I r.call.other,I r.call.n]) (fun _=>rfl)

open Go Go.RowKit

def zrk (φ:World->Prop):Prop:=∀ w w',(∀ k,k < w.heap.size->w'.heap[k]?=w.heap[k]?)->φ w->φ w'
def zgC {X:Type} (R:El X):Prop:=∀ w w' c x,(∀ k,k < w.heap.size->w'.heap[k]?=w.heap[k]?)->R w c x->R w' c x

def Rd (A:Nat->Prop) (φ:World->Prop) (w:World):Prop:=∀ w':World,(∀ k,A k->k < w.heap.size->w'.heap[k]?=w.heap[k]?)->φ w'

theorem Rd.o {A:Nat->Prop} {φ:World->Prop} {w:World} (h:Rd A φ w):φ w:=h w (fun _ _ _=>rfl)
theorem Rd.ext {A:Nat->Prop} {φ:World->Prop} {w w':World} (h:Rd A φ w) (he:Ext w w'):Rd A φ w':=fun w2 h2=>h w2 (fun k ha hk=>by
 rw [h2 k ha (Nat.lt_of_lt_of_le hk he.size)]
 exact he.block k hk)
theorem Rd.mono (A:Nat->Prop) (φ:World->Prop):zb9 (Rd A φ):=fun _ _ he h=>h.ext he
theorem Rd.grown {A:Nat->Prop} {φ:World->Prop} {w w':World} {row:Option Nat} (h:Rd A φ w) (hg:w.grownBy w' row) (hr:∀ b,row=some b->¬ A b):Rd A φ w':=fun w2 h2=>h w2 (fun k ha hk=>by
 rw [h2 k ha (Nat.lt_of_lt_of_le hk hg.size)]
 exact hg.block k hk (fun e=>hr k e.symm ha))
theorem Rd.set {A:Nat->Prop} {φ:World->Prop} {w:World} (h:Rd A φ w) {b:Nat} (hb:¬ A b) (i:Nat) (x:Value):Rd A φ (w.setCell ⟨b,i,none⟩ x):=fun w2 h2=>h w2 (fun k ha hk=>by
 rw [h2 k ha (by simpa using hk)]
 exact Below.heap_setCell w _ x k (fun e=>hb (by have e:k=b:=e; rw [<- e]; exact ha)))
theorem Rd.imp {A:Nat->Prop} {φ ψ:World->Prop} {w:World} (h:Rd A φ w) (hi:∀ w',φ w'->ψ w'):Rd A ψ w:=fun w2 h2=>hi w2 (h w2 h2)
theorem Rd.and {A:Nat->Prop} {φ ψ:World->Prop} {w:World} (h:Rd A φ w) (k:Rd A ψ w):Rd A (fun w=>φ w/\ψ w) w:=fun w2 h2=>⟨h w2 h2,k w2 h2⟩
theorem Rd.left {A:Nat->Prop} {φ ψ:World->Prop} {w:World} (h:Rd A (fun w=>φ w/\ψ w) w):Rd A φ w:=h.imp fun _ h=>h.1
theorem Rd.right {A:Nat->Prop} {φ ψ:World->Prop} {w:World} (h:Rd A (fun w=>φ w/\ψ w) w):Rd A ψ w:=h.imp fun _ h=>h.2
theorem Rd.widen {A B:Nat->Prop} {φ:World->Prop} {w:World} (h:Rd A φ w) (hi:∀ k,k < w.heap.size->A k->B k):Rd B φ w:=fun w2 h2=>h w2 (fun k ha hk=>h2 k (hi k hk ha) hk)
theorem Rd.of {φ:World->Prop} (hp:zrk φ) {w:World} (h:φ w):Rd (fun k=>k < w.heap.size) φ w:=fun w2 h2=>hp w w2 (fun k hk=>h2 k hk hk) h
theorem Rd.all {A:Nat->Prop} {φ:World->Prop} {w:World} (h:∀ w,φ w):Rd A φ w:=fun w2 _=>h w2

theorem Row.heap {w w':World} {size:Nat} {v:Value} {n:Nat} {cs:List Value} (h:Row w size v n cs) (hk:∀ (j:Nat) (u:Value) (b off:Nat),cs[j]?=some u->(∃ m cap,v=.slice (some ⟨b,off,none⟩) m cap)->w'.heap[b]?=w.heap[b]?):Row w' size v n cs:=by
 obtain ⟨h1,ao,cap,h2,h3,h4,h0,h5⟩:=h
 refine ⟨h1,ao,cap,h2,h3,h4,h0,fun j u hj=>?_⟩
 obtain ⟨b,off,e,hc⟩:=h5 j u hj
 refine ⟨b,off,e,?_⟩
 have:=hk j u b off hj ⟨_,_,by rw [h2,e]⟩
 simp only [World.cell?,this] at hc ⊢
 exact hc
theorem zf0 (size:Nat) (v:Value) (n:Nat) (cs:List Value):zrk (fun w=>Row w size v n cs):=fun w w' hk h=>by
 obtain ⟨h1,ao,cap,h2,h3,h4,h0,h5⟩:=h
 refine ⟨h1,ao,cap,h2,h3,h4,h0,fun j u hj=>?_⟩
 obtain ⟨b,off,e,hc⟩:=h5 j u hj
 refine ⟨b,off,e,?_⟩
 have hb:b < w.heap.size:=by
  by_cases hb:b < w.heap.size
  ·exact hb
  ·simp [World.cell?,Array.getElem?_eq_none (Nat.le_of_not_lt hb)] at hc
 simp only [World.cell?,hk b hb] at hc ⊢
 exact hc
theorem zco {X:Type} {size:Nat} {R:El X} (hR:zgC R) (v:Value) (xs:List X):zrk (fun w=>zaj size R w v xs):=fun _ _ hk ⟨css,he,hr⟩ =>
 ⟨css,⟨he.1,fun i c x hc hx=>⟨(he.2 i c x hc hx).1,hR _ _ _ _ hk (he.2 i c x hc hx).2⟩⟩,zf0 _ _ _ _ _ _ hk hr⟩

theorem zoR:zgC zbX:=fun _ _ _ _ _ h=>h
theorem zuw:zgC zgO:=fun _ _ _ _ _ h=>h
theorem zun:zgC zhJ:=fun _ _ _ _ _ h=>h
theorem zuC:zgC zeT:=fun _ _ _ _ _ h=>h
theorem zrC:zgC zcI:=fun _ _ _ _ hk ⟨v,e,h⟩=>⟨v,e,zf0 _ _ _ _ _ _ hk h⟩
theorem zt0:zgC zcG:=fun _ _ _ _ hk ⟨a,b,d,e,h1,h2,h3⟩=>⟨a,b,d,e,zco zoR _ _ _ _ hk h1,zco zrC _ _ _ _ hk h2,zco zuC _ _ _ _ hk h3⟩
theorem zuo:zgC zc7:=fun _ _ _ _ hk ⟨a,b,d,e,h,h1,h2,h3,h4⟩=>⟨a,b,d,e,h,zf0 _ _ _ _ _ _ hk h1,zf0 _ _ _ _ _ _ hk h2,zco zuw _ _ _ _ hk h3,zco zun _ _ _ _ hk h4⟩
theorem zup:zgC zg3:=fun _ _ _ _ hk ⟨a,b,h,h1,h2⟩=>⟨a,b,h,zco zrC _ _ _ _ hk h1,zf0 _ _ _ _ _ _ hk h2⟩
theorem zhN:zgC zdi:=fun _ _ _ _ hk ⟨s,v,cl,h,h1,h2,h3⟩=>⟨s,v,cl,h,zuo _ _ _ _ hk h1,zup _ _ _ _ hk h2,zco zt0 _ _ _ _ hk h3⟩

theorem zdy {base e size n:Nat} {v:Value} {cs:List Value} {w:World} (h:w.ownsRow base e size v n cs):Rd (fun k=>base<=k) (fun w=>Row w size v n cs) w:=fun w2 h2=>by
 refine Row.heap (Row.of_owns h) (fun j u b off hj ⟨m,cap,e⟩=>?_)
 rcases h.2 with ⟨rfl,_⟩ | ⟨g,cap',cur,rfl,hb,hg,_⟩
 ·cases e
 ·simp at e
  obtain ⟨⟨rfl,_⟩,_⟩:=e
  exact h2 g hb (Array.getElem?_eq_some_iff.1 hg).1
theorem zeN {base e n:Nat} {v:Value} {xs:List Int} {w:World} (h:w.ownsRow base e 1 v n (xs.map I)):Rd (fun k=>base<=k) (fun w=>zc2 w v xs) w:=by
 have hl:xs.length=n:=by simpa using h.1
 subst hl
 exact zdy h
theorem zeg {base e n:Nat} {v:Value} {l:List (Int×Int)} {w:World} (h:w.ownsRow base e 2 v n (zaC l)):Rd (fun k=>base<=k) (fun w=>zar w v l) w:=by
 have hl:l.length=n:=by have:=h.1; rw [zcd] at this; omega
 subst hl
 exact zdy h

def za3 (P:Program) (f:FuncId) (args:Array Value) (w:World) (A:Nat->Prop) (T:Value->World->Prop):Prop :=
 Calls P f args w fun e w'=>∃ r,e=.returned r/\Ext w w'/\Rd (fun k=>A k∨w.heap.size<=k) (T r) w'

theorem za3.to {P:Program} {f:FuncId} {args:Array Value} {w:World} {A:Nat->Prop} {T:Value->World->Prop} {Q:Ending->World->Prop} (h:za3 P f args w A T) (k:∀ r w',Ext w w'->Rd (fun k=>A k∨w.heap.size<=k) (T r) w'->Q (.returned r) w'):Calls P f args w Q :=
 Calls.mono h fun e w' ⟨r,he,hx,ht⟩=>by rw [he]; exact k r w' hx ht
theorem za3.gives {P:Program} {f:FuncId} {args:Array Value} {w:World} {A:Nat->Prop} {T:Value->World->Prop} (h:za3 P f args w A T):zaw P f args w T :=
 Calls.mono h fun _ _ ⟨r,he,hx,ht⟩=>⟨r,he,hx,ht.o⟩

def Agg {X:Type} (R:El X) (x:X) (v:Value) (w:World):Prop:=∃ cs:List Value,v=.agg cs.toArray/\R w cs x
theorem zcb {X:Type} {R:El X} {x:X} {v:Value} {A:Nat->Prop} {w:World} (h:Rd A (Agg R x v) w):∃ cs:List Value,v=.agg cs.toArray/\Rd A (fun w=>R w cs x) w:=by
 obtain ⟨cs,e,_⟩:=h.o
 refine ⟨cs,e,fun w2 h2=>?_⟩
 obtain ⟨cs2,e2,h3⟩:=h w2 h2
 rw [e] at e2
 have:cs=cs2:=by simpa using e2
 rw [this]
 exact h3
theorem zcM {X:Type} {R:El X} {x:X} {cs:List Value} {A:Nat->Prop} {w:World} (h:Rd A (fun w=>R w cs x) w):Rd A (Agg R x (.agg cs.toArray)) w:=h.imp fun _ h=>⟨cs,rfl,h⟩
theorem zcQ {w:World} {a b d e:Value} {s:St}:zc7 w [a,b,d,e] s↔zc2 w a s.cells/\zar w b s.undo/\zaj 4 zgO w d s.answers/\zaj 6 zhJ w e s.past:=by
 constructor
 ·rintro ⟨a',b',d',e',h,h1,h2,h3,h4⟩
  simp at h
  obtain ⟨rfl,rfl,rfl,rfl⟩:=h
  exact ⟨h1,h2,h3,h4⟩
 ·rintro ⟨h1,h2,h3,h4⟩
  exact ⟨a,b,d,e,rfl,h1,h2,h3,h4⟩
theorem zkA {A:Nat->Prop} {w:World} {cs:List Value} {s:St} (h:Rd A (fun w=>zc7 w cs s) w):∃ a b d e,cs=[a,b,d,e]/\Rd A (fun w=>zc2 w a s.cells) w/\Rd A (fun w=>zar w b s.undo) w/\Rd A (fun w=>zaj 4 zgO w d s.answers) w/\Rd A (fun w=>zaj 6 zhJ w e s.past) w:=by
 obtain ⟨a,b,d,e,rfl,_⟩:=h.o
 have h2:=h.imp fun _ h=>zcQ.1 h
 exact ⟨a,b,d,e,rfl,h2.left,h2.right.left,h2.right.right.left,h2.right.right.right⟩
theorem zjY {A:Nat->Prop} {w:World} {a b d e:Value} {s:St} (h1:Rd A (fun w=>zc2 w a s.cells) w) (h2:Rd A (fun w=>zar w b s.undo) w) (h3:Rd A (fun w=>zaj 4 zgO w d s.answers) w) (h4:Rd A (fun w=>zaj 6 zhJ w e s.past) w):Rd A (fun w=>zc7 w [a,b,d,e] s) w :=
 (h1.and (h2.and (h3.and h4))).imp fun _ h=>zcQ.2 h

theorem zhZ (A:Nat->Prop) (s n:Nat):∃ B:Nat->Prop,(∀ k,k < s->A k->B k)/\(∀ k,s+n<=k->B k)/\(∀ k,s<=k->k < s+n->¬ B k)/\∀ k,B k->A k∨s<=k :=
 ⟨fun k=>(A k/\k < s)∨s+n<=k,fun k h1 h2=>.inl ⟨h2,h1⟩,fun _ h=>.inr h,fun k h1 h2 h=>by rcases h with ⟨_,h⟩ | h <;> omega,fun k h=>by rcases h with ⟨h,_⟩ | h; exact .inl h; exact .inr (by omega)⟩
theorem zao {w:World} {size n:Nat} {v:Value} {cs:List Value} (h:Row w size v n cs):∃ ao cap,v=.slice ao n cap:=by
 obtain ⟨_,ao,cap,e,_⟩:=h
 exact ⟨ao,cap,e⟩
theorem zaf {X:Type} {R:El X} {w:World} {size:Nat} {v:Value} {xs:List X} (h:zaj size R w v xs):∃ ao cap,v=.slice ao xs.length cap:=by
 obtain ⟨_,_,h⟩:=h
 exact zao h

open Go Go.RowKit Go.ChangeShapes Go.WideShapes

section
variable {P:Program} {H:Type} {enc:TypeId×Value->H} {W:World} {X:Type}

end
open Go Go.RowKit Go.ChangeShapes Go.WideShapes

section
variable {P:Program} {H:Type} {enc:TypeId×Value->H} {W:World}

end
open Go Go.RowKit

def zjz (base e size n:Nat) (cs:List Value) (v:Value) (w:World):Prop:=∃ g,v=.slice (some ⟨g,0,none⟩) n n/\w.ownsRow base e size v n cs
theorem zsM {w:World} {base e size:Nat} (cs:Array Value) (n:Nat) (hb:base<=w.heap.size) (hm:n<=maxLen) (hc:cs.size=n * size):zjz base e size n cs.toList (.slice (some ⟨w.heap.size,0,none⟩) n n) (w.alloc (.cells cs e)) :=
 ⟨_,rfl,World.ownsRow_lit (base:=base) (e:=e) (size:=size) w cs n hb hm hc⟩

theorem zdZ {P:Program} (w:World) (base:Nat) (t ty e:TypeId) (i:TypeInfo) (z:Value) (size bytes:Nat) (ht:P.underlying t=some (.slice e)) (hi:P.info? e=some i) (hz:i.zero=some z)
  (hsize:i.size=size) (hby:i.bytes=bytes) (hzs:z.cells.size=size) (hsz:0 < size)
  (v:Value) (n:Nat) (xs:List Value) (hown:zjz base e size n xs v w) (u:Value) (m:Nat) (news:List Value) (hu:Row w size u m news) (h1:∀ u ∈ news,u.oneCell'=true)
  (hbytes:(n+m) * bytes<=140737488355328) (hpos:0 < bytes) (hbase:base<=w.heap.size) :
  ∃ v' w',(Builtin.append_ #[t,t] ty #[v,u]).run P w=.ok v' w'/\w'.ownsRow base e size v' (n+m) (xs++news)/\Ext w w':=by
 obtain ⟨g,rfl,hown⟩:=hown
 have h63:n+m<=maxLen:=by
  have:n+m<=(n+m) * bytes:=Nat.le_mul_of_pos_right _ hpos
  unfold maxLen
  omega
 obtain ⟨hl,ao,cap,rfl,hc,hm,h0,hcell⟩:=hu
 by_cases hm0:m=0
 ·subst hm0
  have hn:news=[]:=List.eq_nil_of_length_eq_zero (by simpa using hl)
  subst hn
  cases ao with
  | none =>
   have hcap:=h0 rfl
   subst hcap
   exact ⟨_,w,run_append_owned_none w base t ty e i size ht hi _ n xs hown,by simpa using hown,Ext.refl _⟩
  | some ad =>
   rcases hown.2 with ⟨e',_⟩ | ⟨g',cap',cur,e',hbg,hg,hnc,hcm,hcs,htake⟩
   ·cases e'
   ·simp at e'
    obtain ⟨rfl,rfl⟩:=e'
    subst hsize
    have hr:=run_append_room (P:=P) w t ty e i ht hi g n n cur hg ad 0 cap [] (by simp) (fun j u hj=>by simp at hj) (by simp) (by omega) (by simp; rw [hcs]; exact Nat.le_refl _)
    refine ⟨_,_,hr,?_,?_⟩
    ·have hsame:(w.setRow g (cur.toList.take (n * i.size)++[]++cur.toList.drop (n * i.size+([]:List Value).length)).toArray).heap[g]?=some (.cells cur e):=by
      rw [setRow_heap w g cur _ e _ hg]
      simp
     refine ⟨by simp [hown.1],.inr ⟨g,n,cur,rfl,hbg,hsame,by omega,hcm,hcs,by simpa using htake⟩⟩
    ·refine ⟨rfl,rfl,rfl,by simp [World.setRow],fun k hk=>?_⟩
     by_cases hkg:k=g
     ·subst hkg
      rw [setRow_heap w k cur _ e _ hg,hg]
      simp
     ·exact setRow_other w g k _ hkg
 ·cases ao with
  | none=>have:=h0 rfl; omega
  | some ad =>
   obtain ⟨v',w',hrun,r1,r2⟩:=run_append_arg_grows (P:=P) w t ty e i z size bytes ht hi hz hsize hby hzs hsz ⟨g,0,none⟩ n n xs hown.1 (hown.cells (g:=g) rfl) ad m cap news hl (fun j u hj=>by
    obtain ⟨b,off,e',hc'⟩:=hcell j u hj
    simp only [Option.some.injEq] at e'
    subst e'
    rw [add_plain]; exact hc') (by omega) h63 hbytes
   refine ⟨v',w',hrun,?_,⟨r2.os,r2.tape,r2.output,r2.size,fun k hk=>r2.block k hk (by simp)⟩⟩
   obtain ⟨q1,q2⟩:=r1
   refine ⟨q1,?_⟩
   rcases q2 with h | ⟨g',cap',cur,rfl,hb,hr⟩
   ·exact .inl h
   ·exact .inr ⟨g',cap',cur,rfl,Nat.le_trans hbase hb,hr⟩

theorem zhr {P:Program} {o:Oper} {a:Act} {w w':World} {T:Value->World->Prop} {s x:Operand} {t:TypeId} {v u v':Value}
  (ho:o.op=.call { callee:=.builtin .append,args:=#[s,x],argTypes:=#[t,t] }) (hs:a.eval s=v) (hx:a.eval x=u) (hrun:(Builtin.append_ #[t,t] o.type #[v,u]).run P w=.ok v' w') (he:Ext w w') (hT:T v' w'):za0 P o a w T:=by
 have:(execOp a.eval o).run P w=.ok (.value v') w':=by simp [execOp,ho,resolve,invoke,builtin,hs,hx,hrun,Result.andThen]
 unfold za0
 rw [this]
 exact ⟨he,hT⟩

theorem zka {P:Program} {o:Oper} {a:Act} {w w':World} {s x:Operand} {t:TypeId} {v u v':Value}
  (ho:o.op=.call { callee:=.builtin .append,args:=#[s,x],argTypes:=#[t,t] }) (hs:a.eval s=v) (hx:a.eval x=u) (hrun:(Builtin.append_ #[t,t] o.type #[v,u]).run P w=.ok v' w'):(execOp a.eval o).run P w=.ok (.value v') w':=by
 simp [execOp,ho,resolve,invoke,builtin,hs,hx,hrun,Result.andThen]

open Go Go.RowKit

def zqP (ops:Array Oper):Nat->Nat->Nat->Bool
 | 0,_,_=>false
 | f+1,j,i=>match ops[j]? with
  | some oj=>oj.after.any fun e=>Region.binds .any e && (e.on == i || zqP ops f e.on i)
  | none=>false

section
variable (P:Program) (w0:World) (ops:Array Oper) (kd:Nat->zdg) (x:Nat) (Tx:Value->World->Prop)

def okW (o:Oper) (a:Act) (F:Fm):Prop:=∀ w,Ext w0 w->zf4 F ops o w->∃ v w',(execOp a.eval o).run P w=.ok (.value v) w'/\Ext w0 w'/\Tx v w'
def zfE (d:Option Tmp) (φ:World->Prop):Fm:=fun t w=>if d=some t then φ w else True
def opW (i:Nat) (K:Act->Fm->Prop) (a:Act) (F:Fm):Prop :=
 if i=x then ∃ o,ops[x]?=some o/\o.guard=none/\okW P w0 ops Tx o a F/\∀ v,K (a.put o.dst v) (zfE o.dst (Tx v)) else opM P w0 ops kd i K a F

def zjR (n:Nat) (L:Array Bool->Act->Fm->Prop):Nat->Array Bool->Act->Fm->Prop
 | 0,listed,a,F=>L listed a F
 | f+1,listed,a,F =>
  Region.ready .any ops listed≠[]/\∀ i ∈ Region.ready .any ops listed,i < n/\opW P w0 ops kd x Tx i (zjR n L f (listed.setIfInBounds i true)) a F
end

section
variable {P:Program} {w0:World} {ops:Array Oper} {kd:Nat->zdg} {x:Nat} {Tx:Value->World->Prop}

theorem zjk {n:Nat} {listed:Array Bool} (inv:HeadInv .any ops n listed):∀ (f j i:Nat),(∀ oj,ops[j]?=some oj->∀ e ∈ oj.after,Region.binds .any e=true->listed.getD e.on false=true)->zqP ops f j i=true->listed.getD i false=true
 | 0,_,_,_,h=>by cases h
 | f+1,j,i,hall,h=>by
  unfold zqP at h
  split at h
  ·rename_i oj hoj
   obtain ⟨e,he,hb⟩:=Array.any_eq_true'.1 h
   simp only [Bool.and_eq_true,Bool.or_eq_true,beq_iff_eq] at hb
   have h1:=hall oj hoj e he hb.1
   rcases hb.2 with h2 | h2
   ·rw [<- h2]; exact h1
   ·exact zjk inv f e.on i (fun ok hok e2 he2 hb2=>inv.closed e.on ok hok h1 e2 he2 hb2) h2
  ·cases h

theorem zn2 {d d2:Option Tmp} {φ:World->Prop} (h:∀ t,d=some t->d2≠some t):upd (zfE d φ) d2 (fun _=>True)=zfE d φ:=by
 funext t w
 unfold upd zfE
 by_cases h2:d2=some t
 ·rw [if_pos h2,if_neg (fun e=>h t e h2)]
 ·rw [if_neg h2]

theorem ztD {o:Oper} {a:Act} {F:Fm} {d:Option Tmp} {v:Value} {φ:World->Prop} (hs:∀ cs b,o.op≠.select cs b) (h:∀ t,d=some t->t ∉ o.looksAt ops) (hk:okW P w0 ops Tx o (a.put d v) (upd F d φ)):okW P w0 ops Tx o a F:=by
 have he:=execOp_put (ops:=ops) o hs a d v h
 have hkn:=zkK (ops:=ops) (F:=F) (φ:=φ) h
 intro w hw hkw
 have:=hk w hw (by rw [hkn]; exact hkw)
 rw [he] at this
 exact this

theorem zsj {o:Oper} {a:Act} {F F':Fm} (h:OkO P w0 ops none o a F):OkO P w0 ops none o a F':=h
theorem zqr {o:Oper} {a:Act} {v:Value} {φ:World->Prop} (h:zfo P w0 ops none o a v φ):φ=fun _=>True:=by
 rcases h with ⟨_,_,h⟩ | ⟨_,_,h⟩ <;> exact h

theorem zmt {n i:Nat} {oi:Oper} {L:Array Bool->Act->Fm->Prop} (hi:ops[i]?=some oi) (hsel:∀ (j:Nat) (o:Oper) cs b,ops[j]?=some o->o.op≠.select cs b)
  (hs:Region.sinkB .any ops n=true) (hc:Region.chainB .any ops n=true) (hn:n < ops.size) (hin:i < n) (hix:i≠x) (hpure:kd i=none∨zqP ops ops.size x i=true)
  (hdone:∀ listed a F,L listed a F->∀ j ∈ Region.ready .any ops listed,n<=j) :
  ∀ (f:Nat) (listed:Array Bool) (a:Act) (F:Fm),HeadInv .any ops n listed ->
   (∀ j oj,ops[j]?=some oj->j≠i->listed.getD j true=false->(∀ e ∈ oj.after,Region.binds .any e=true->e.on≠i)->oi.apart ops oj=true) ->
   i ∈ Region.ready .any ops listed->OkO P w0 ops (kd i) oi a F ->
   (∀ v φ,zfo P w0 ops (kd i) oi a v φ->zjR P w0 ops kd x Tx n L f (listed.setIfInBounds i true) (a.put oi.dst v) (upd F oi.dst φ)) ->
   zjR P w0 ops kd x Tx n L (f+1) listed a F:=by
 intro f
 induction f with
 | zero =>
  intro listed a F inv _ hr hok H
  have hun:=(mem_ready.1 hr).1
  refine ⟨fun h=>(by rw [h] at hr; cases hr),fun j hj=>?_⟩
  have hjn:j < n:=by
   rcases Nat.lt_or_ge j n with h | h
   ·exact h
   ·exact absurd hj (tail_waits hs hc hn inv _ i rfl hin hun j h)
  refine ⟨hjn,?_⟩
  by_cases hji:j=i
  ·subst hji
   unfold opW
   rw [if_neg hix]
   unfold opM
   rw [hi]
   exact ⟨hok,H⟩
  ·obtain ⟨v,φ,hv⟩:=zfs hok
   have:=hdone _ _ _ (H v φ hv) j (ready_mono hj hji)
   omega
 | succ f ih =>
  intro listed a F inv hfree hr hok H
  have hun:=(mem_ready.1 hr).1
  refine ⟨fun h=>(by rw [h] at hr; cases hr),fun j hj=>?_⟩
  have hjn:j < n:=by
   rcases Nat.lt_or_ge j n with h | h
   ·exact h
   ·exact absurd hj (tail_waits hs hc hn inv _ i rfl hin hun j h)
  refine ⟨hjn,?_⟩
  by_cases hji:j=i
  ·subst hji
   unfold opW
   rw [if_neg hix]
   unfold opM
   rw [hi]
   exact ⟨hok,H⟩
  obtain ⟨hjun,oj,hoj,hall⟩:=mem_ready.1 hj
  have hnot:∀ e ∈ oj.after,Region.binds .any e=true->e.on≠i:=fun e he hb heq=>by
   have h1:=hall e he hb
   rw [heq,getD_both hun] at h1
   cases h1
  obtain ⟨a1,a2,a3⟩:=Oper.apart_spec (hfree j oj hoj hji hjun hnot)
  have hsi:∀ cs b,oi.op≠.select cs b:=fun cs b=>hsel i oi cs b hi
  have hsj:∀ cs b,oj.op≠.select cs b:=fun cs b=>hsel j oj cs b hoj
  have hfree':∀ k ok,ops[k]?=some ok->k≠i->(listed.setIfInBounds j true).getD k true=false ->
    (∀ e ∈ ok.after,Region.binds .any e=true->e.on≠i)->oi.apart ops ok=true:=fun k ok hk hki hun hno=>by
   refine hfree k ok hk hki ?_ hno
   by_cases hjk:j=k
   ·subst hjk; exact hjun
   ·rw [getD_set_ne true hjk] at hun; exact hun
  by_cases hjx:j=x
  ·subst hjx
   have hkn:kd i=none:=by
    rcases hpure with h | h
    ·exact h
    ·have:=zjk inv _ _ _ (fun ok hok e he hb=>by
      have:ok=oj:=Option.some.inj (hok.symm.trans hoj)
      subst this
      exact hall e he hb) h
     rw [getD_both hun] at this
     cases this
   rw [hkn] at hok H ih
   have at_x:∀ v φ,zfo P w0 ops none oi a v φ->oj.guard=none/\okW P w0 ops Tx oj (a.put oi.dst v) (upd F oi.dst φ)/\∀ u,zjR P w0 ops kd j Tx n L f ((listed.setIfInBounds i true).setIfInBounds j true) ((a.put oi.dst v).put oj.dst u) (zfE oj.dst (Tx u)):=fun v φ hv=>by
    have:=((H v φ hv).2 j (ready_mono hj hji)).2
    unfold opW at this
    rw [if_pos rfl] at this
    obtain ⟨o,ho,h1,h2,h3⟩:=this
    have:o=oj:=Option.some.inj (ho.symm.trans hoj)
    subst this
    exact ⟨h1,h2,h3⟩
   obtain ⟨v0,φ0,hv0⟩:=zfs hok
   unfold opW
   rw [if_pos rfl]
   refine ⟨oj,hoj,(at_x v0 φ0 hv0).1,ztD hsj a1 (at_x v0 φ0 hv0).2.1,fun u=>?_⟩
   refine ih (listed.setIfInBounds j true) _ _ (inv.set hj hjn) hfree' (ready_mono hr (Ne.symm hji)) (zsj ((zfg (F:=F) (φ:=fun _=>True) hsi a3).2 hok)) fun v φ hv=>?_
   have hv':=(zem hsi a3).1 hv
   have hφ:=zqr hv
   subst hφ
   rw [zn2 (fun t h1 h2=>a2 t h2 h1),Array.setIfInBounds_comm _ _ hji,<- Act.put_comm a v u a2]
   exact (at_x v _ hv').2.2 u
  ·have at_j:∀ v φ,zfo P w0 ops (kd i) oi a v φ->OkO P w0 ops (kd j) oj (a.put oi.dst v) (upd F oi.dst φ) /\
     ∀ u ψ,zfo P w0 ops (kd j) oj (a.put oi.dst v) u ψ ->
      zjR P w0 ops kd x Tx n L f ((listed.setIfInBounds i true).setIfInBounds j true) ((a.put oi.dst v).put oj.dst u) (upd (upd F oi.dst φ) oj.dst ψ):=fun v φ hv=>by
    have:=((H v φ hv).2 j (ready_mono hj hji)).2
    unfold opW at this
    rw [if_neg hjx] at this
    unfold opM at this
    rw [hoj] at this
    exact this
   unfold opW
   rw [if_neg hjx]
   unfold opM
   rw [hoj]
   refine ⟨?_,fun u ψ hu=>?_⟩
   ·obtain ⟨v,φ,hv⟩:=zfs hok
    exact (zfg hsj a1).1 (at_j v φ hv).1
   ·refine ih (listed.setIfInBounds j true) _ _ (inv.set hj hjn) hfree' (ready_mono hr (Ne.symm hji)) ((zfg hsi a3).2 hok) fun v φ hv=>?_
    have hv':=(zem hsi a3).1 hv
    have:=(at_j v φ hv').2 u ψ ((zem hsj a1).2 hu)
    rw [Array.setIfInBounds_comm _ _ hji,<- Act.put_comm a v u a2,<- zjx F φ ψ a2]
    exact this

theorem zkt {g:Nat} {Lq:Act->Fm->Prop} (K:List zdg) (hsel:Region.noSelect ops=true) (hs:Region.sinkB .any ops (x+1)=true) (hc:Region.chainB .any ops (x+1)=true) (hn:x+1 < ops.size)
  (hP:∀ i,i < x->K.getD i none=none∨zqP ops ops.size x i=true) :
  ∀ (l:List Oper) (ks:List zdg) (k:Nat) (listed:Array Bool) (a:Act) (F:Fm),(∀ j,j < l.length->l[j]?=ops[k+j]?)->(ks=K.drop k)->k+l.length=x->HeadInv .any ops (x+1) listed ->
  Region.lexHead .any ops g (l.length+1) k listed=true ->
  wpM P w0 ops (fun a' F'=>∃ o,ops[x]?=some o/\o.guard=none/\okW P w0 ops Tx o a' F'/\∀ v,Lq (a'.put o.dst v) (zfE o.dst (Tx v))) l ks a F ->
  zjR P w0 ops (fun i=>K.getD i none) x Tx (x+1) (fun listed' a' F'=>Region.seqB .any ops g (x+1) listed'=true/\Lq a' F') (l.length+1) listed a F
 | [],_,k,listed,a,F,_,_,hk,inv,hB,h=>by
  have hkx:k=x:=by simpa using hk
  subst hkx
  simp only [List.length_nil,Region.lexHead,Bool.and_eq_true] at hB
  obtain ⟨⟨hr,hf⟩,hB'⟩:=hB
  have hr':k ∈ Region.ready .any ops listed:=by simpa using hr
  have hun:=(mem_ready.1 hr').1
  refine ⟨fun h=>(by rw [h] at hr'; cases hr'),fun j hj=>?_⟩
  have hjn:j < k+1:=by
   rcases Nat.lt_or_ge j (k+1) with h | h
   ·exact h
   ·exact absurd hj (tail_waits hs hc hn inv _ k rfl (by omega) hun j h)
  refine ⟨hjn,?_⟩
  have hjk:j=k:=by
   by_cases hjk:j=k
   ·exact hjk
   ·have:=seqB_ready hB' j (ready_mono hj hjk)
    omega
  subst hjk
  unfold opW
  rw [if_pos rfl]
  obtain ⟨o,ho,h1,h2,h3⟩:=h
  exact ⟨o,ho,h1,h2,fun v=>⟨hB',h3 v⟩⟩
 | o::l,ks,k,listed,a,F,hl,hks,hk,inv,hB,h=>by
  have h0:ops[k]?=some o:=by simpa using (hl 0 (by simp)).symm
  simp only [List.length_cons,Region.lexHead,Bool.and_eq_true] at hB
  obtain ⟨⟨hr,hf⟩,hB'⟩:=hB
  have hkx:k < x:=by simp only [List.length_cons] at hk; omega
  have hr':k ∈ Region.ready .any ops listed:=by simpa using hr
  have hd:ks.headD none=K.getD k none:=by
   rw [hks,List.headD_eq_head?_getD,List.head?_drop,List.getD_eq_getElem?_getD]
  obtain ⟨hok,hrest⟩:=h
  rw [hd] at hok hrest
  exact zmt h0 (Region.noSelect_spec hsel) hs hc hn (by omega) (by omega) (hP k hkx) (fun listed' a' F' hL=>seqB_ready hL.1) (l.length+1) listed a F inv (Region.free_spec h0 hf) hr' hok fun v φ hv =>
   zkt K hsel hs hc hn hP l ks.tail (k+1) _ _ _ (fun j hj=>by have:=hl (j+1) (by simp; omega); simpa [Nat.add_assoc,Nat.add_comm 1 j] using this) (by rw [hks]; simp) (by simp only [List.length_cons] at hk; omega) (inv.set hr' (by omega)) (by simpa [Region.lexHead] using hB') (hrest v φ hv)

theorem zfb {n g:Nat} {L:Array Bool->Act->Fm->Prop} {Q':Exit->Act->World->Prop} (hT:∀ i T,kd i=some (.inr T)->∀ v,zb9 (T v)) (hTx:∀ v,zb9 (Tx v))
  (hL:∀ listed a F w,Ext w0 w->(∀ t,F t w)->L listed a F->wpAny P .any ops Q' g listed a w) :
  ∀ (f:Nat) (listed:Array Bool) (a:Act) (F:Fm) (w:World),Ext w0 w->(∀ t,F t w)->(∀ t,zb9 (F t))->zjR P w0 ops kd x Tx n L f listed a F->wpAny P .any ops Q' (f+g) listed a w
 | 0,listed,a,F,w,hw,hF,_,h=>by rw [Nat.zero_add]; exact hL _ _ _ _ hw hF h
 | f+1,listed,a,F,w,hw,hF,hM,h=>by
  rw [show f+1+g=(f+g)+1 by omega]
  refine ⟨fun h0=>absurd h0 h.1,fun i hi=>?_⟩
  have hi':=(h.2 i hi).2
  unfold opW at hi'
  by_cases hix:i=x
  ·rw [if_pos hix] at hi'
   rw [hix]
   obtain ⟨o,ho,hg,hok,hnext⟩:=hi'
   rw [hix] at hnext
   obtain ⟨v,w',hrun,he,ht⟩:=hok w hw (fun t _=>hF t)
   unfold wpOp
   rw [ho]
   simp only []
   have hwt:Region.wanted o (yielded ops a.tmps)=true:=by simp [Region.wanted,hg]
   rw [if_pos hwt]
   refine .inl ?_
   unfold Oper.wp
   rw [hrun]
   simp only [Oper.upon]
   refine zfb hT hTx hL f _ _ _ w' he ?_ ?_ (hnext v)
   ·intro t
    unfold zfE
    split
    ·exact ht
    ·trivial
   ·intro t w1 w2 h12
    unfold zfE
    split
    ·exact hTx v _ _ h12
    ·exact id
  ·rw [if_neg hix] at hi'
   exact zkB hT hw hF hM (fun a F w hw hF hM h=>zfb hT hTx hL f _ a F w hw hF hM h) hi'

theorem zpq {Q Q':Act->Fm->Prop} (hq:∀ a F,Q a F->Q' a F):∀ (l:List Oper) (ks:List zdg) (a:Act) (F:Fm),wpM P w0 ops Q l ks a F->wpM P w0 ops Q' l ks a F
 | [],_,a,F,h=>hq a F h
 | _::l,ks,_,_,h=>⟨h.1,fun v φ hv=>zpq hq l ks.tail _ _ (h.2 v φ hv)⟩

theorem zgs {id:Nat} {Q:Exit->Act->World->Prop} {a:Act} {w:World} {l:List Oper} (x:Nat) (K:List zdg) (Tx:Value->World->Prop) (hm:P.follows .mixedOrders=true) (hB:Region.lexTailB .any l.toArray (x+1)=true)
  (hP:((List.range x).all fun i=>(K.getD i none).isNone || zqP l.toArray l.toArray.size x i)=true) (hT:zhF K) (hTx:∀ v,zb9 (Tx v))
  (h:wpM P w l.toArray (fun a' F=>∃ o d,l.toArray[x]?=some o/\o.guard=none/\o.dst=some d/\okW P w l.toArray Tx o a' F/\∀ v w',Ext w w'->Tx v w'->wpList P l.toArray Q (l.drop (x+1)) (a'.put o.dst v) w') (l.take x) K a (fun _ _=>True)) :
  (Code.region id l.toArray true).wp P Q a w:=by
 replace hT:=zeH hT
 simp only [Region.lexTailB,Bool.and_eq_true,decide_eq_true_eq] at hB
 obtain ⟨⟨⟨⟨hsel,hn⟩,hs⟩,hc⟩,hlex⟩:=hB
 have hn':x+1 < l.length:=by simpa using hn
 have htl:(l.take x).length=x:=by simp; omega
 have hdl:(l.drop (x+1)).length=l.toArray.size - (x+1):=by simp
 have inv0:HeadInv .any l.toArray (x+1) (Array.replicate l.toArray.size false) :=
  ⟨by simp,fun j oj _ hl=>(by rw [getD_replicate_false] at hl; cases hl),fun t _ ht=>getD_in (by simpa using ht) (getD_replicate_false _ _)⟩
 have H:=zkt (P:=P) (w0:=w) (Tx:=Tx) (g:=l.toArray.size - (x+1)) (Lq:=fun a' F=>∀ w',Ext w w'->(∀ t,F t w')->wpList P l.toArray Q (l.drop (x+1)) a' w') K hsel hs hc hn (fun i hi=>by
   have:=List.all_eq_true.1 hP i (List.mem_range.2 hi)
   simp only [Bool.or_eq_true,Option.isNone_iff_eq_none] at this
   exact this) (l.take x) K 0 _ a (fun _ _=>True) (fun j hj=>by
  have hj':j < x:=by rw [htl] at hj; exact hj
  simp [hj']) (by simp) (by simpa using htl) inv0 (by rw [htl]; exact hlex) (by
   refine zpq (fun a' F ⟨o,d,ho,hg,hd,hok,hq⟩=>?_) _ _ _ _ h
   exact ⟨o,ho,hg,hok,fun v w' he hF=>hq v w' he (by have:=hF d; unfold zfE at this; rw [if_pos hd] at this; exact this)⟩)
 refine wp_region_any hm ?_
 have:=zfb (Q':=Q) (g:=l.toArray.size - (x+1)) (zhx hT) hTx (fun listed a' F w' hw hF hL=>by
  have:=wpAny_of_seq (md:=.any) (Q':=Q) (l.drop (x+1)) (x+1) listed a' w' (fun j=>by simp [List.getElem?_drop]) (by rw [hdl]; exact hL.1) (hL.2 w' hw hF)
  rwa [hdl] at this) _ _ _ _ ({ w with drawn:=w.drawn+1 }) ((Ext.refl w).drew) (fun _=>trivial) (fun _ _ _ _ h=>h) H
 rw [htl,show x+1+(l.toArray.size - (x+1))=l.toArray.size by omega] at this
 exact this

end
open Go Go.RowKit

theorem zbn {P:Program} (w:World) (t ty e:TypeId) (size:Nat) (hu:P.underlying t=some (.slice e)) (hsz:(P.info? e).map (·.size)=some size) (base g n:Nat) (v:Value) (cs old:List Value)
  (hown:w.ownsRow base e size (.slice (some ⟨g,0,none⟩) n n) n old) (hv:Row w size v n cs) (h1:∀ u ∈ cs,u.oneCell'=true) :
  ∃ w',(Builtin.copy_ #[t,t] ty #[.slice (some ⟨g,0,none⟩) n n,v]).run P w=.ok (goInt n) w'/\w'.ownsRow base e size (.slice (some ⟨g,0,none⟩) n n) n cs/\w.grownBy w' (some g):=by
 obtain ⟨hl,ao,cap,rfl,hc,hm,hnil,hcell⟩:=hv
 obtain ⟨ho,ho'⟩:=hown
 rcases ho' with ⟨h,_⟩ | ⟨g',cap',cur,h,hb,hg,hn,hm',hs,ht⟩
 ·simp at h
 simp only [Value.slice.injEq,Option.some.injEq,Addr.mk.injEq,and_true,true_and] at h
 obtain ⟨rfl,rfl⟩:=h
 cases hq:P.info? e with
 | none=>simp [hq] at hsz
 | some i =>
  have hi:i.size=size:=by simpa [hq] using hsz
  cases ao with
  | none =>
   have hcap:=hnil rfl
   subst hcap
   have h0:n=0:=by omega
   subst h0
   have:cs=[]:=List.eq_nil_of_length_eq_zero (by simpa using hl)
   subst this
   refine ⟨w,by simp [Builtin.copy_,run_underlying hu,Builtin.lenOf,Builtin.firstCells,sizeOf,typeInfo,hq,storeCells],⟨by simp,.inr ⟨g,0,cur,rfl,hb,hg,Nat.le_refl _,hm',by simpa using hs,by simp⟩⟩,World.grownBy.refl _ _⟩
  | some ad =>
   have hsrc:∀ j u,cs[j]?=some u->w.cell? (ad.add j)=some u:=fun j u hj=>by
    obtain ⟨b',off',e',hc'⟩:=hcell j u hj
    simp only [Option.some.injEq] at e'
    subst e'
    rw [add_plain]; exact hc'
   have hld:=run_loadCells_list (P:=P) w ad cs hsrc
   have hst:=run_storeCells_at P g 0 e cs 0 cur w hg (by rw [hl,hs]; omega) h1
   simp only [Nat.add_zero,Nat.zero_add,List.take_zero,List.nil_append] at hst
   rw [hl] at hld
   refine ⟨w.setRow g (cs++cur.toList.drop cs.length).toArray,by simp [Builtin.copy_,run_underlying hu,Builtin.lenOf,Builtin.firstCells,sizeOf,typeInfo,hq,hi,hld,hst],⟨hl,.inr ⟨g,n,_,rfl,hb,setRow_heap w g cur _ e _ hg,Nat.le_refl _,hm',?_,?_⟩⟩,⟨rfl,rfl,rfl,by simp [World.setRow],fun k _ hk=>setRow_other w g k _ (fun e=>hk (by simp [e]))⟩⟩
   ·simp; omega
   ·simp [<- hl]

theorem Rd.set4 {A:Nat->Prop} {φ:World->Prop} {w:World} (h:Rd A φ w) {b:Nat} (hb:¬ A b) (u v x y:Value):Rd A φ ((((w.setCell ⟨b,0,none⟩ u).setCell ⟨b,1,none⟩ v).setCell ⟨b,2,none⟩ x).setCell ⟨b,3,none⟩ y) :=
 (((h.set hb 0 u).set hb 1 v).set hb 2 x).set hb 3 y

end Go.Mk

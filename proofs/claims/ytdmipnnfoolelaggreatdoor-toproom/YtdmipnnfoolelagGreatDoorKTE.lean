/- zbb of the proof, merged: Mem8 Mem9 Big Big2 Mem10 Held. -/
import Derived.Test.YtdmipnnfoolelagGreatDoorKTA
import Derived.Test.YtdmipnnfoolelagGreatDoorKTD
import Derived.Deep.MidRow
import Derived.Great.Ranges
import Derived.OrdersHeld

namespace Go.Mk
open Go Go.RowKit

theorem zjt {w:World} {b:Nat} {cs:Array Value} {t:TypeId} (h:w.heap[b]?=some (.cells cs t (0,0))):∀ i,w.cell? ⟨b,i,none⟩=cs[i]?:=fun i=>by simp [World.cell?,h]
theorem zpG {w:World} {b:Nat} {cs:Array Value} {t:TypeId} (h:w.heap[b]?=some (.cells cs t (0,0))):∀ i,w.frozen? ⟨b,i,none⟩=false:=fun i=>by simp [World.frozen?,h]

def zga (w:World) (b:Nat):Nat->List Value->World
 | _,[]=>w
 | o,v::l=>zga (w.setCell ⟨b,o,none⟩ v) b (o+1) l
def zkf (cs:Array Value):Nat->List Value->Array Value
 | _,[]=>cs
 | o,v::l=>zkf (cs.setIfInBounds o v) (o+1) l

theorem zjs {k b:Nat} (hk:k≠b):∀ (vs:List Value) (w:World) (o:Nat),(zga w b o vs).heap[k]?=w.heap[k]?
 | [],_,_=>rfl
 | v::l,w,o=>by
  show (zga (w.setCell ⟨b,o,none⟩ v) b (o+1) l).heap[k]?=_
  rw [zjs hk l,Below.heap_setCell w _ v k (fun e=>hk e)]
theorem zhR (b:Nat):∀ (vs:List Value) (w:World) (o:Nat),(zga w b o vs).heap.size=w.heap.size
 | [],_,_=>rfl
 | v::l,w,o=>by
  show (zga (w.setCell ⟨b,o,none⟩ v) b (o+1) l).heap.size=_
  rw [zhR b l]
  simp
theorem zkX {b:Nat} {t:TypeId}:∀ (vs:List Value) (w:World) (o:Nat) (cs:Array Value),w.heap[b]?=some (.cells cs t (0,0))->(zga w b o vs).heap[b]?=some (.cells (zkf cs o vs) t (0,0))
 | [],_,_,_,h=>h
 | v::l,_,o,_,h=>zkX l _ (o+1) _ (heap_setCell_same _ _ o _ _ v h)
theorem Rd.put {A:Nat->Prop} {φ:World->Prop} {b:Nat} (hb:¬ A b):∀ (vs:List Value) {w:World} (_:Rd A φ w) (o:Nat),Rd A φ (zga w b o vs)
 | [],_,h,_=>h
 | v::l,_,h,o=>Rd.put hb l (h.set hb o v) (o+1)
theorem Ext.put {a:World} {b:Nat} (hb:a.heap.size<=b):∀ (vs:List Value) {w:World} (_:Ext a w) (o:Nat),Ext a (zga w b o vs)
 | [],_,h,_=>h
 | v::l,_,h,o=>Ext.put hb l (h.setCell hb v) (o+1)
theorem zpJ (w:World) (b off:Nat):({ w with heap:=w.heap.setIfInBounds b (.cells #[] 0 (0,0)) }:World).cell? ⟨b,off,none⟩=none:=by
 unfold World.cell?
 by_cases hb:b < w.heap.size
 ·simp [hb]
 ·have:(w.heap.setIfInBounds b (Obj.cells #[] 0 (0,0)))[b]?=none:=Array.getElem?_eq_none (by simp; omega)
  simp [this]
theorem znG {A:Nat->Prop} {w:World} {X:Type} {size:Nat} {R:El X} {b off n cap:Nat} {xs:List X} (h:Rd A (fun w=>zaj size R w (.slice (some ⟨b,off,none⟩) n cap) xs) w) (hs:0 < size) (hx:xs≠[]):A b:=by
 refine Classical.byContradiction fun hn=>?_
 obtain ⟨ao,cap',e,_,_,_,h5⟩:=(h { w with heap:=w.heap.setIfInBounds b (.cells #[] 0 (0,0)) } (fun k hk _=>by
  show (w.heap.setIfInBounds b (.cells #[] 0 (0,0)))[k]?=_
  rw [Array.getElem?_setIfInBounds_ne (fun e=>hn (by rw [e]; exact hk))])).form hs
 obtain ⟨x,hx0⟩:∃ x,xs[0]?=some x:=by cases xs with | nil=>exact absurd rfl hx | cons x _=>exact ⟨x,rfl⟩
 obtain ⟨b',off',c,e',hc,_,hcell⟩:=h5 0 x hx0
 simp only [Value.slice.injEq] at e
 rw [e'] at e
 simp only [Option.some.injEq,Addr.mk.injEq,and_true] at e
 obtain ⟨⟨rfl,rfl⟩,_⟩:=e
 have h0:∃ u,c[0]?=some u:=⟨c[0]'(by omega),List.getElem?_eq_getElem _⟩
 obtain ⟨u,hu⟩:=h0
 have:=hcell 0 u hu
 rw [zpJ] at this
 cases this

theorem zdo {A:Nat->Prop} {w:World} {X:Type} {size:Nat} {R:El X} {v:Value} {xs:List X} (hs:0 < size) (h:Rd A (fun w=>zaj size R w v xs) w):∃ css,Rd A (fun w=>zc8 size R w css xs/\Row w size v xs.length css.flatten) w:=by
 obtain ⟨css,he,hr⟩:=h.o
 refine ⟨css,fun w2 h2=>?_⟩
 by_cases hx:xs=[]
 ·subst hx
  have:css=[]:=List.eq_nil_of_length_eq_zero he.1
  subst this
  obtain ⟨css2,he2,hr2⟩:=h w2 h2
  have:css2=[]:=List.eq_nil_of_length_eq_zero he2.1
  subst this
  exact ⟨zc8.nil _,hr2⟩
 obtain ⟨css2,he2,hr2⟩:=h w2 h2
 suffices hcc:css2=css by rw [<- hcc]; exact ⟨he2,hr2⟩
 obtain ⟨hl,ao,cap,e,_,_,h0,hc⟩:=hr
 obtain ⟨hl2,ao2,cap2,e2,_,_,_,hc2⟩:=hr2
 rw [e] at e2
 simp only [Value.slice.injEq,true_and] at e2
 obtain ⟨rfl,rfl⟩:=e2
 have hfl:css2.flatten=css.flatten:=by
  refine List.ext_getElem? fun j=>?_
  by_cases hj:j < css.flatten.length
  ·obtain ⟨u,hu⟩:∃ u,css.flatten[j]?=some u:=⟨_,List.getElem?_eq_getElem hj⟩
   obtain ⟨u2,hu2⟩:∃ u,css2.flatten[j]?=some u:=⟨_,List.getElem?_eq_getElem (by omega)⟩
   obtain ⟨b,off,ea,hcell⟩:=hc j u hu
   obtain ⟨b',off',ea',hcell'⟩:=hc2 j u2 hu2
   rw [ea] at ea'
   simp only [Option.some.injEq,Addr.mk.injEq,and_true] at ea'
   obtain ⟨rfl,rfl⟩:=ea'
   rw [e,ea] at h
   have hA:=znG h hs hx
   have hb:b < w.heap.size:=by
    by_cases hb:b < w.heap.size
    ·exact hb
    ·simp [World.cell?,Array.getElem?_eq_none (Nat.le_of_not_lt hb)] at hcell
   have hq:=h2 b hA hb
   simp only [World.cell?,hq] at hcell'
   simp only [World.cell?] at hcell
   rw [hu,hu2,<- hcell,<- hcell']
  ·rw [List.getElem?_eq_none (by omega),List.getElem?_eq_none (by omega)]
 have hlen:css2.length=css.length:=by rw [he2.1,he.1]
 refine List.ext_getElem? fun i=>?_
 by_cases hi:i < css.length
 ·have a1:css[i]?=some css[i]:=List.getElem?_eq_getElem hi
  have a2:css2[i]?=some (css2[i]'(by omega)):=List.getElem?_eq_getElem _
  rw [a1,a2]
  congr 1
  have l1:css[i].length=size:=he.sizes _ (List.getElem_mem hi)
  have l2:(css2[i]'(by omega)).length=size:=he2.sizes _ (List.getElem_mem _)
  refine List.ext_getElem? fun j=>?_
  by_cases hj:j < size
  ·have b1:css[i][j]?=some (css[i][j]'(by omega)):=List.getElem?_eq_getElem _
   have b2:(css2[i]'(by omega))[j]?=some ((css2[i]'(by omega))[j]'(by omega)):=List.getElem?_eq_getElem _
   have c1:=zcW hs he.sizes a1 b1
   have c2:=zcW hs he2.sizes a2 b2
   rw [hfl,c1] at c2
   rw [b1,b2,c2]
  ·rw [List.getElem?_eq_none (by omega),List.getElem?_eq_none (by omega)]
 ·rw [List.getElem?_eq_none (by omega),List.getElem?_eq_none (by omega)]

theorem zqu {A:Nat->Prop} {base e size n:Nat} {X:Type} {R:El X} {v:Value} {css:List (List Value)} {xs:List X} {w:World} (hb:∀ k,base<=k->k < w.heap.size->A k) (he:Rd A (fun w=>zc8 size R w css xs) w) (ho:w.ownsRow base e size v n css.flatten) (hs:0 < size):Rd A (fun w=>zaj size R w v xs) w:=by
 have hn:n=xs.length:=by
  have h1:=ho.1
  have h2:=he.o.sizes
  have h3:=he.o.1
  have h4:css.flatten.length=css.length * size:=by
   clear ho h1 h3 he
   induction css with
   | nil=>simp
   | cons c css ih=>rw [List.flatten_cons,List.length_append,ih (fun d hd=>h2 d (by simp [hd])),h2 c (by simp),List.length_cons,Nat.add_mul]; omega
  rw [h4,h3] at h1
  exact (Nat.eq_of_mul_eq_mul_right hs h1).symm
 subst hn
 exact (he.and ((zdy ho).widen (fun k hk h=>hb k h hk))).imp fun w h=>⟨css,h.1,h.2⟩

theorem zvc {w:World} {size n b off m cap base:Nat} {cs:List Value} (h:Row w size (.slice (some ⟨b,off,none⟩) m cap) n cs) (hb:base<=b):Rd (fun k=>base<=k) (fun w=>Row w size (.slice (some ⟨b,off,none⟩) m cap) n cs) w:=fun w2 h2=>by
 by_cases hlt:b < w.heap.size
 ·refine Row.heap h (fun j u b' off' hj he=>?_)
  obtain ⟨m',cap',e⟩:=he
  simp only [Value.slice.injEq,Option.some.injEq,Addr.mk.injEq,and_true] at e
  obtain ⟨⟨rfl,rfl⟩,_⟩:=e
  exact h2 b hb hlt
 ·obtain ⟨h1,ao,c,e,h3,h4,h0,h5⟩:=h
  refine ⟨h1,ao,c,e,h3,h4,h0,fun j u hj=>?_⟩
  obtain ⟨b',off',e',hc⟩:=h5 j u hj
  simp only [Value.slice.injEq] at e
  rw [e'] at e
  simp only [Option.some.injEq,Addr.mk.injEq,and_true] at e
  obtain ⟨⟨rfl,rfl⟩,_⟩:=e
  simp [World.cell?,Array.getElem?_eq_none (Nat.le_of_not_lt hlt)] at hc
theorem zpt.rd {base:Nat} {w:World} {v:Value} {l:List UInt8} (h:zpt base w v l):Rd (fun k=>base<=k) (fun w=>za4 w v l) w:=by
 obtain ⟨b,off,n,cap,rfl,hb,h⟩:=h
 exact zvc h hb

theorem zij {X:Type} {size:Nat} {R:El X} (w:World) (b off cap:Nat) (hc:cap<=maxLen):zaj size R w (.slice (some ⟨b,off,none⟩) 0 cap) [] :=
 ⟨[],zc8.nil w,by simp,_,_,rfl,Nat.zero_le _,hc,(fun h=>by cases h),fun j u hj=>by simp at hj⟩
theorem zqt {size:Nat} (w:World) (b off cap:Nat) (hc:cap<=maxLen):Row w size (.slice (some ⟨b,off,none⟩) 0 cap) 0 [] :=
 ⟨by simp,_,_,rfl,Nat.zero_le _,hc,(fun h=>by cases h),fun j u hj=>by simp at hj⟩

theorem zc3:∀ (vs:List Value) (cs:Array Value) (o:Nat),o+vs.length<=cs.size->zkf cs o vs=(cs.toList.take o++vs++cs.toList.drop (o+vs.length)).toArray
 | [],cs,o,_=>by simp [zkf]
 | v::l,cs,o,h=>by
  simp only [List.length_cons] at h
  show zkf (cs.setIfInBounds o v) (o+1) l=_
  rw [zc3 l _ (o+1) (by simp; omega)]
  congr 1
  simp only [Array.toList_setIfInBounds,List.length_cons]
  rw [List.take_add_one,List.take_set_of_le (Nat.le_refl o),List.getElem?_set_self (by simpa using (by omega:o < cs.size)),show o+1+l.length=o+(l.length+1) by omega,List.drop_set_of_lt (by omega)]
  simp
theorem znv (cs:Array Value) (vs:List Value) (h:vs.length=cs.size):zkf cs 0 vs=vs.toArray:=by
 rw [zc3 vs cs 0 (by omega)]
 simp [h]
theorem Rd.snoc {A:Nat->Prop} {X:Type} {R:El X} {size:Nat} {css:List (List Value)} {xs:List X} {c:List Value} {x:X} {w:World} (h1:Rd A (fun w=>zc8 size R w css xs) w) (h2:Rd A (fun w=>R w c x) w) (hc:c.length=size):Rd A (fun w=>zc8 size R w (css++[c]) (xs++[x])) w :=
 (h1.and h2).imp fun _ h=>h.1.snoc hc h.2

def zmS {X:Type} (R:El X) (x:X) (e:Int) (r:Value) (w:World):Prop:=∃ cs:List Value,r=.tuple #[.agg cs.toArray,I e]/\R w cs x
theorem ziG {X:Type} {R:El X} {x:X} {e:Int} {r:Value} {A:Nat->Prop} {w:World} (h:Rd A (zmS R x e r) w):∃ cs:List Value,r=.tuple #[.agg cs.toArray,I e]/\Rd A (fun w=>R w cs x) w:=by
 obtain ⟨cs,e1,_⟩:=h.o
 refine ⟨cs,e1,fun w2 h2=>?_⟩
 obtain ⟨cs2,e2,h3⟩:=h w2 h2
 rw [e1] at e2
 have:cs=cs2:=by simpa using e2
 rw [this]
 exact h3
theorem zfc {X:Type} {R:El X} {x:X} {e:Int} {cs:List Value} {A:Nat->Prop} {w:World} (h:Rd A (fun w=>R w cs x) w):Rd A (zmS R x e (.tuple #[.agg cs.toArray,I e])) w:=h.imp fun _ h=>⟨cs,rfl,h⟩

theorem zoP {w:World} {v:Sv} {box plan:Value}:zg3 w [I v.gen,box,.bool v.busy,I v.now.client,I v.now.token,I v.now.call.kind,I v.now.call.name,I v.now.call.other,I v.now.call.n,plan,I v.says.err,I v.says.n] v↔zaj 1 zcI w box v.box/\zar w plan v.plan:=by
 constructor
 ·rintro ⟨b,p,e,h1,h2⟩
  simp at e
  obtain ⟨rfl,rfl⟩:=e
  exact ⟨h1,h2⟩
 ·rintro ⟨h1,h2⟩
  exact ⟨box,plan,rfl,h1,h2⟩
theorem zre {A:Nat->Prop} {w:World} {cs:List Value} {v:Sv} (h:Rd A (fun w=>zg3 w cs v) w):∃ box plan,cs=[I v.gen,box,.bool v.busy,I v.now.client,I v.now.token,I v.now.call.kind,I v.now.call.name,I v.now.call.other,I v.now.call.n,plan,I v.says.err,I v.says.n]/\Rd A (fun w=>zaj 1 zcI w box v.box) w/\Rd A (fun w=>zar w plan v.plan) w:=by
 obtain ⟨b,p,rfl,_⟩:=h.o
 have h2:=h.imp fun _ h=>zoP.1 h
 exact ⟨b,p,rfl,h2.left,h2.right⟩
theorem zgB {A:Nat->Prop} {w:World} {v:Sv} {box plan:Value} (h1:Rd A (fun w=>zaj 1 zcI w box v.box) w) (h2:Rd A (fun w=>zar w plan v.plan) w):Rd A (fun w=>zg3 w [I v.gen,box,.bool v.busy,I v.now.client,I v.now.token,I v.now.call.kind,I v.now.call.name,I v.now.call.other,I v.now.call.n,plan,I v.says.err,I v.says.n] v) w :=
 (h1.and h2).imp fun _ h=>zoP.2 h
theorem zov {w:World} {c:Cn} {calls box got:Value}:zcG w [calls,I c.at_,.bool c.sent,I c.gen,box,got] c↔zaj 4 zbX w calls c.calls/\zaj 1 zcI w box c.box/\zaj 2 zeT w got c.got:=by
 constructor
 ·rintro ⟨a,b,d,e,h1,h2,h3⟩
  simp at e
  obtain ⟨rfl,rfl,rfl⟩:=e
  exact ⟨h1,h2,h3⟩
 ·rintro ⟨h1,h2,h3⟩
  exact ⟨calls,box,got,rfl,h1,h2,h3⟩
theorem zd2 {A:Nat->Prop} {w:World} {cs:List Value} {c:Cn} (h:Rd A (fun w=>zcG w cs c) w):∃ calls box got,cs=[calls,I c.at_,.bool c.sent,I c.gen,box,got]/\Rd A (fun w=>zaj 4 zbX w calls c.calls) w/\Rd A (fun w=>zaj 1 zcI w box c.box) w/\Rd A (fun w=>zaj 2 zeT w got c.got) w:=by
 obtain ⟨a,b,d,rfl,_⟩:=h.o
 have h2:=h.imp fun _ h=>zov.1 h
 exact ⟨a,b,d,rfl,h2.left,h2.right.left,h2.right.right⟩
theorem zgA {A:Nat->Prop} {w:World} {c:Cn} {calls box got:Value} (h1:Rd A (fun w=>zaj 4 zbX w calls c.calls) w) (h2:Rd A (fun w=>zaj 1 zcI w box c.box) w) (h3:Rd A (fun w=>zaj 2 zeT w got c.got) w):Rd A (fun w=>zcG w [calls,I c.at_,.bool c.sent,I c.gen,box,got] c) w :=
 (h1.and (h2.and h3)).imp fun _ h=>zov.2 h

open Go Go.RowKit

abbrev zaM (m:Mc) (c u a p box plan cl:Value):List Value :=
 [c,u,a,p,I m.server.gen,box,.bool m.server.busy,I m.server.now.client,I m.server.now.token,I m.server.now.call.kind,I m.server.now.call.name,I m.server.now.call.other,I m.server.now.call.n,plan,I m.server.says.err,I m.server.says.n,.bool m.up,I m.pause,I m.falls,cl]

structure RdM (A:Nat->Prop) (w:World) (m:Mc) (c u a p box plan cl:Value):Prop where
 cells:Rd A (fun w=>zc2 w c m.store.cells) w
 undo:Rd A (fun w=>zar w u m.store.undo) w
 answers:Rd A (fun w=>zaj 4 zgO w a m.store.answers) w
 past:Rd A (fun w=>zaj 6 zhJ w p m.store.past) w
 box:Rd A (fun w=>zaj 1 zcI w box m.server.box) w
 plan:Rd A (fun w=>zar w plan m.server.plan) w
 clients:Rd A (fun w=>zaj 6 zcG w cl m.clients) w

section
variable {A B:Nat->Prop} {w w':World} {m:Mc} {c u a p box plan cl:Value}
theorem RdM.ext (h:RdM A w m c u a p box plan cl) (he:Ext w w'):RdM A w' m c u a p box plan cl:=⟨h.cells.ext he,h.undo.ext he,h.answers.ext he,h.past.ext he,h.box.ext he,h.plan.ext he,h.clients.ext he⟩
theorem RdM.widen (h:RdM A w m c u a p box plan cl) (hi:∀ k,k < w.heap.size->A k->B k):RdM B w m c u a p box plan cl:=⟨h.cells.widen hi,h.undo.widen hi,h.answers.widen hi,h.past.widen hi,h.box.widen hi,h.plan.widen hi,h.clients.widen hi⟩
theorem RdM.set (h:RdM A w m c u a p box plan cl) {b:Nat} (hb:¬ A b) (i:Nat) (x:Value):RdM A (w.setCell ⟨b,i,none⟩ x) m c u a p box plan cl:=⟨h.cells.set hb i x,h.undo.set hb i x,h.answers.set hb i x,h.past.set hb i x,h.box.set hb i x,h.plan.set hb i x,h.clients.set hb i x⟩
theorem RdM.put (h:RdM A w m c u a p box plan cl) {b:Nat} (hb:¬ A b) (vs:List Value) (o:Nat):RdM A (zga w b o vs) m c u a p box plan cl:=⟨Rd.put hb vs h.cells o,Rd.put hb vs h.undo o,Rd.put hb vs h.answers o,Rd.put hb vs h.past o,Rd.put hb vs h.box o,Rd.put hb vs h.plan o,Rd.put hb vs h.clients o⟩
theorem RdM.mc (h:RdM A w m c u a p box plan cl):Rd A (fun w=>zdi w (zaM m c u a p box plan cl) m) w :=
 ((zjY h.cells h.undo h.answers h.past).and ((zgB h.box h.plan).and h.clients)).imp fun _ h=>⟨_,_,_,rfl,h.1,h.2.1,h.2.2⟩
theorem zcu {cs:List Value} (h:Rd A (fun w=>zdi w cs m) w):∃ c u a p box plan cl,cs=zaM m c u a p box plan cl/\RdM A w m c u a p box plan cl:=by
 obtain ⟨s,v,cl,e,⟨c,u,a,p,e1,_⟩,⟨box,plan,e2,_⟩,_⟩:=h.o
 subst e1 e2
 have key:∀ w',zdi w' cs m->zc7 w' [c,u,a,p] m.store/\zg3 w' _ m.server/\zaj 6 zcG w' cl m.clients:=fun w' hw=>by
  obtain ⟨s',v',cl',e',h1,h2,h3⟩:=hw
  obtain ⟨c',u',a',p',rfl,_⟩:=id h1
  obtain ⟨box',plan',rfl,_⟩:=id h2
  rw [e] at e'
  simp at e'
  obtain ⟨rfl,rfl,rfl,rfl,rfl,rfl,rfl⟩:=e'
  exact ⟨h1,h2,h3⟩
 have h1:=h.imp fun w' hw=>(key w' hw).1
 have h2:=h.imp fun w' hw=>(key w' hw).2.1
 have h3:=h.imp fun w' hw=>(key w' hw).2.2
 have s1:=h1.imp fun _ h=>zcQ.1 h
 have s2:=h2.imp fun _ h=>zoP.1 h
 exact ⟨c,u,a,p,box,plan,cl,e,s1.left,s1.right.left,s1.right.right.left,s1.right.right.right,s2.left,s2.right,h3⟩
theorem RdM.slices (h:RdM A w m c u a p box plan cl):∃ ca cc ua uc aa ac pa pc xa xc la lc ka kc,c=.slice ca m.store.cells.length cc/\u=.slice ua m.store.undo.length uc/\a=.slice aa m.store.answers.length ac/\p=.slice pa m.store.past.length pc/\box=.slice xa m.server.box.length xc/\plan=.slice la m.server.plan.length lc/\cl=.slice ka m.clients.length kc:=by
 obtain ⟨ca,cc,h1⟩:=zao h.cells.o
 obtain ⟨ua,uc,h2⟩:=zao h.undo.o
 obtain ⟨aa,ac,h3⟩:=zaf h.answers.o
 obtain ⟨pa,pc,h4⟩:=zaf h.past.o
 obtain ⟨xa,xc,h5⟩:=zaf h.box.o
 obtain ⟨la,lc,h6⟩:=zao h.plan.o
 obtain ⟨ka,kc,h7⟩:=zaf h.clients.o
 exact ⟨ca,cc,ua,uc,aa,ac,pa,pc,xa,xc,la,lc,ka,kc,h1,h2,h3,h4,h5,h6,h7⟩
end
open Go Go.RowKit

structure Made (w w':World) (b:Nat) (o:Obj):Prop where
 at_:b=w.heap.size
 block:w'.heap[b]?=some o
 ext:Ext w w'
 size:w'.heap.size=b+1
theorem zmW (w:World) (o:Obj):Made w (w.alloc o) w.heap.size o:=⟨rfl,heap_alloc_new w o,(Ext.refl w).alloc o,by simp⟩

structure Wrote (w w':World) (b:Nat) (cs:Array Value) (t:TypeId):Prop where
 block:w'.heap[b]?=some (.cells cs t (0,0))
 grown:w.grownBy w' (some b)
 size:w'.heap.size=w.heap.size
theorem wrote {w:World} {b off:Nat} {cs:Array Value} {t:TypeId} (h:w.heap[b]?=some (.cells cs t (0,0))) (vs:List Value):Wrote w (zga w b off vs) b (zkf cs off vs) t:=by
 refine ⟨zkX vs w off cs h,?_,zhR b vs w off⟩
 have key:∀ (vs:List Value) (w:World) (o:Nat),(zga w b o vs).os=w.os/\(zga w b o vs).tape=w.tape/\(zga w b o vs).output=w.output:=by
  intro vs
  induction vs with
  | nil=>intro w o; exact ⟨rfl,rfl,rfl⟩
  | cons v l ih=>intro w o; exact ih (w.setCell ⟨b,o,none⟩ v) (o+1)
 obtain ⟨h1,h2,h3⟩:=key vs w off
 exact ⟨h1,h2,h3,Nat.le_of_eq (zhR b vs w off).symm,fun k _ hk=>zjs (fun e=>hk (by rw [e])) vs w off⟩

theorem Made.old {w w':World} {b:Nat} {o:Obj} (h:Made w w' b o) {k:Nat} {x:Obj} (hk:w.heap[k]?=some x):w'.heap[k]?=some x:=by
 rw [h.ext.block k (Array.getElem?_eq_some_iff.1 hk).1]
 exact hk
theorem Wrote.old {w w':World} {b:Nat} {cs:Array Value} {t:TypeId} (h:Wrote w w' b cs t) {k:Nat} {x:Obj} (hk:w.heap[k]?=some x) (hne:k≠b):w'.heap[k]?=some x:=by
 rw [h.grown.block k (Array.getElem?_eq_some_iff.1 hk).1 (fun e=>hne (by simpa using e))]
 exact hk
theorem Wrote.ext {a w w':World} {b:Nat} {cs:Array Value} {t:TypeId} (h:Wrote w w' b cs t) (he:Ext a w) (hb:a.heap.size<=b):Ext a w':=he.grown h.grown (fun k hk=>by cases hk; exact hb)
theorem Wrote.rd {w w':World} {b:Nat} {cs:Array Value} {t:TypeId} (h:Wrote w w' b cs t) {A:Nat->Prop} {φ:World->Prop} (hr:Rd A φ w) (hb:¬ A b):Rd A φ w':=hr.grown h.grown (fun k hk=>by cases hk; exact hb)
theorem Wrote.owns {w w':World} {b:Nat} {cs:Array Value} {t:TypeId} (h:Wrote w w' b cs t) {base e size n:Nat} {v:Value} {xs:List Value} (ho:w.ownsRow base e size v n xs) (hb:v.ownBlock≠some b):w'.ownsRow base e size v n xs:=ho.kept h.grown (.inr hb)
theorem Wrote.rdM {w w':World} {b:Nat} {cs:Array Value} {t:TypeId} (h:Wrote w w' b cs t) {A:Nat->Prop} {m:Mc} {c u a p box plan cl:Value} (hr:RdM A w m c u a p box plan cl) (hb:¬ A b):RdM A w' m c u a p box plan cl :=
 ⟨h.rd hr.cells hb,h.rd hr.undo hb,h.rd hr.answers hb,h.rd hr.past hb,h.rd hr.box hb,h.rd hr.plan hb,h.rd hr.clients hb⟩
theorem zd4 {w w':World} {k:Nat} {x:Obj} (hk:w.heap[k]?=some x) (he:Ext w w'):w'.heap[k]?=some x:=by
 rw [he.block k (Array.getElem?_eq_some_iff.1 hk).1]
 exact hk
theorem zae {w:World} {b i:Nat} {cs:Array Value} {t:TypeId} {u:Value} (h:w.heap[b]?=some (.cells cs t (0,0))) (hi:cs[i]?=some u):w.cell? ⟨b,i,none⟩=some u:=by
 rw [zjt h,hi]

/-! ### The same, hidden, in few signs -/
section
variable {w w' a:World} {b k:Nat} {o x:Obj} {cs:Array Value} {t:TypeId} {A B:Nat->Prop} {φ:World->Prop}
theorem zmo (m:Hid (Made w w' b o)) (h:Hid (w.heap[k]?=some x)):Hid (w'.heap[k]?=some x):=m.o.old h.o
theorem zwg (m:Hid (Wrote w w' b cs t)) (h:Hid (w.heap[k]?=some x)) (d:Hid (b < k)):Hid (w'.heap[k]?=some x):=m.o.old h.o (Nat.ne_of_gt d.o)
theorem zwl (m:Hid (Wrote w w' b cs t)) (h:Hid (w.heap[k]?=some x)) (d:Hid (k < b)):Hid (w'.heap[k]?=some x):=m.o.old h.o (Nat.ne_of_lt d.o)
theorem zme (m:Hid (Made w w' b o)) (s:Hid (Rd A φ w)):Hid (Rd A φ w'):=s.o.ext m.o.ext
theorem zwr (m:Hid (Wrote w w' b cs t)) (s:Hid (Rd A φ w)) (n:Hid (¬ A b)):Hid (Rd A φ w'):=m.o.rd s.o n.o
theorem zld (h:Hid (w.heap[k]?=some x)) (m:Hid (Made w w' b o)):Hid (k < b):=by
 unfold Hid
 have q:=(Array.getElem?_eq_some_iff.1 h.o).1
 have q2:=m.o.at_
 omega
theorem zet (e:Hid (Ext a w)) (m:Hid (Made w w' b o)):Hid (Ext a w'):=e.o.trans m.o.ext
theorem zwe (m:Hid (Wrote w w' b cs t)) (e:Hid (Ext a w)) (h:Hid (a.heap.size<=b)):Hid (Ext a w'):=m.o.ext e.o h.o
theorem zmb (m:Hid (Made w w' b o)):Hid (w'.heap[b]?=some o):=m.o.block
theorem zwb (m:Hid (Wrote w w' b cs t)):Hid (w'.heap[b]?=some (.cells cs t (0,0))):=m.o.block
theorem znb {s n i:Nat} {p q r:Prop} (H:Hid (p/\q/\(∀ k,s<=k->k < s+n->¬ B k)/\r)) (e:Hid (b=s+i)) (hi:i < n):Hid (¬ B b):=H.o.2.2.1 b (by have:=e.o; omega) (by have:=e.o; omega)
theorem zob {s i:Nat} (e:Hid (b=s+i)):Hid (s<=b):=by unfold Hid; have:=e.o; omega
theorem znw {C:Nat->Prop} {g:Nat} (h:Hid (∀ k,C k↔(B k/\k≠g))) (n:Hid (¬ B b)):Hid (¬ C b):=fun q=>n.o ((h.o _).1 q).1
theorem zmd {C:Nat->Prop} (h:Hid (∀ k,C k↔(B k/\k≠b))) (m:Hid (Made w w' b o)) (s:Hid (Rd B φ w)):Hid (Rd C φ w):=s.o.widen fun k hk q=>(h.o k).2 ⟨q,by have:=m.o.at_; omega⟩
end

section
variable {P:Program} {ops:Array Oper} {rest:List Oper} {o:Oper} {a:Act} {w:World} {Q:Exit->Act->World->Prop}

theorem zfD {ty:TypeId} {x y:Operand} {d:Option Tmp} {t:TypeId} {p:String} {af:Array Edge} {g:Option (Nat×Bool)} (h:Hid (wpList P ops Q (⟨d,.store ty x y,t,p,af,g⟩::rest) a w)):wpList P ops Q (⟨d,.store ty x y,t,p,af,g⟩::rest) a w:=h
theorem zsl (ty:TypeId) {x:Operand} {d:Option Tmp} {t:TypeId} {p:String} {af:Array Edge} {g:Option (Nat×Bool)} (h:Hid (wpList P ops Q (⟨d,.load ty x,t,p,af,g⟩::rest) a w)):wpList P ops Q (⟨d,.load ty x,t,p,af,g⟩::rest) a w:=h
theorem zss {ty:TypeId} {x y:Operand} {d:Option Tmp} {t:TypeId} {p:String} {af:Array Edge} {g:Option (Nat×Bool)} (h:Hid (wpList P ops Q (⟨d,.store ty x y,t,p,af,g⟩::rest) a w)):wpList P ops Q (⟨d,.store ty x y,t,p,af,g⟩::rest) a w:=h
theorem zbe (hg:o.guard=none) (e:TypeId) (n:Nat) (cells:Array Value) (hrun:(execOp a.eval o).run P w=.ok (.value (.slice (some ⟨w.heap.size,0,none⟩) n n)) (w.alloc (.cells cells e)))
  (h:∀ b w',Hid (Made w w' b (.cells cells e))->wpList P ops Q rest (a.put o.dst (.slice (some ⟨b,0,none⟩) n n)) w'):wpList P ops Q (o::rest) a w:=by
 refine wpList_plain hg fun K hK=>?_
 unfold Oper.wp
 rw [hrun,Oper.upon_value]
 exact hK _ _ (h _ _ (zmW w _))

theorem zam (hg:o.guard=none) (t:TypeId) (x:Operand) (ho:o.op=.box t x) (cells:Array Value) (hx:(a.eval x).cells=cells)
  (h:∀ b w',Hid (Made w w' b (.cells cells t))->wpList P ops Q rest (a.put o.dst (.pointer (some ⟨b,0,none⟩))) w'):Hid (wpList P ops Q (o::rest) a w):=by
 unfold Hid
 exact
  Go.Great.wpList_boxTo hg t x ho o.dst rfl w.heap.size rfl cells hx (h _ _ (zmW w _))

theorem zac (hg:o.guard=none) (t:TypeId) (cells:Array Value) (hrun:(execOp a.eval o).run P w=.ok (.value (.pointer (some ⟨w.heap.size,0,none⟩))) (w.alloc (.cells cells t)))
  (h:∀ b w',Hid (Made w w' b (.cells cells t))->wpList P ops Q rest (a.put o.dst (.pointer (some ⟨b,0,none⟩))) w'):Hid (wpList P ops Q (o::rest) a w):=by
 unfold Hid
 refine wpList_plain hg fun K hK=>?_
 unfold Oper.wp
 rw [hrun,Oper.upon_value]
 exact hK _ _ (h _ _ (zmW w _))

theorem zsO {b off:Nat} {cs:Array Value} {t:TypeId} (hg:w.heap[b]?=some (.cells cs t (0,0))) (vs:List Value) (hsub:(cs.toList.drop off).take vs.length=vs):w.rangeAt b off vs:=fun j v hj=>by
 rw [zjt hg]
 have hj2:j < vs.length:=(List.getElem?_eq_some_iff.1 hj).1
 rw [<- hsub,List.getElem?_take,if_pos hj2,List.getElem?_drop] at hj
 rw [<- hj]
 simp

theorem zcz {ρ:Operand->Value} (ty:TypeId) (x:Operand) (ho:o.op=.load ty x) (b off:Nat) (hx:ρ x=.pointer (some ⟨b,off,none⟩)) {cs:Array Value} {t:TypeId} (hg:w.heap[b]?=some (.cells cs t (0,0)))
  (vs:List Value) (hsub:(cs.toList.drop off).take vs.length=vs) {fs:Array Field} (hu:P.underlying ty=some (.struct fs)) (hi:(P.info? ty).map (·.size)=some vs.length) :
  (execOp ρ o).run P w=.ok (.value (.agg vs.toArray)) w:=by
 unfold execOp
 simp only [ho,hx,Instr.loadAt,Instr.sureAddr,Sem.run_bind,Sem.run_pure,Result.andThen_ok,run_loadVar_mid w b off ty vs (.struct fs) (zsO hg vs hsub) hu rfl hi]

theorem zfj (hgd:o.guard=none) (ty:TypeId) (x:Operand) (ho:o.op=.load ty x) (b off:Nat) (hx:a.eval x=.pointer (some ⟨b,off,none⟩)) {cs:Array Value} {t:TypeId} (hg:w.heap[b]?=some (.cells cs t (0,0)))
  (vs:List Value) (hsub:(cs.toList.drop off).take vs.length=vs) {fs:Array Field} (hu:P.underlying ty=some (.struct fs)) (hi:(P.info? ty).map (·.size)=some vs.length)
  (h:∀ v,Hid (v=.agg vs.toArray)->wpList P ops Q rest (a.put o.dst v) w):wpList P ops Q (o::rest) a w:=by
 refine wpList_plain hgd fun K hK=>?_
 unfold Oper.wp
 rw [zcz ty x ho b off hx hg vs hsub hu hi,Oper.upon_value]
 exact hK _ _ (h _ rfl)

theorem zgD (b:Nat):∀ (vs:List Value) (o:Nat) (w:World),w.setCells b o vs=zga w b o vs
 | [],_,_=>rfl
 | v::l,o,w=>zgD b l (o+1) (w.setCell ⟨b,o,none⟩ v)

theorem zjl (ty:TypeId) (b off:Nat) (v:Value) (vs:List Value) (hv:v.cells=vs.toArray) {cs:Array Value} {t:TypeId} (hg:w.heap[b]?=some (.cells cs t (0,0))) (hfit:off+vs.length<=cs.size)
  (hi:(P.info? ty).map (·.size)=some vs.length) (h1:∀ u ∈ vs,u.oneCell'=true) :
  (Instr.storeAt ty (.pointer (some ⟨b,off,none⟩)) v).run P w=.ok () (zga w b off vs):=by
 have:=run_storeCells_cells (P:=P) b off vs 0 w (fun j hj=>by
   rw [Nat.add_zero,zjt hg,Array.getElem?_eq_getElem (by omega)]; rfl) (fun j hj=>zpG hg _) h1
 cases hq:P.info? ty with
 | none=>simp [hq] at hi
 | some i =>
  have hs:vs.length=i.size:=by simp [hq] at hi; omega
  simp only [Nat.add_zero] at this
  rw [<- zgD]
  simp only [Instr.storeAt,Instr.sureAddr,Sem.run_bind,Sem.run_pure,Result.andThen_ok]
  simp [storeVar,sizeOf,typeInfo,hq,hv,hs,this]

theorem zce (hgd:o.guard=none) (ty:TypeId) (x y:Operand) (ho:o.op=.store ty x y) (b off:Nat) (hx:a.eval x=.pointer (some ⟨b,off,none⟩)) (vs:List Value) (hv:(a.eval y).cells=vs.toArray)
  {cs:Array Value} {t:TypeId} (hg:w.heap[b]?=some (.cells cs t (0,0))) (hfit:off+vs.length<=cs.size) (hi:(P.info? ty).map (·.size)=some vs.length) (h1:∀ u ∈ vs,u.oneCell'=true)
  (new:Array Value) (hnew:zkf cs off vs=new) (h:∀ w',Hid (Wrote w w' b new t)->wpList P ops Q rest (a.put o.dst undef) w'):wpList P ops Q (o::rest) a w:=by
 refine wpList_plain hgd fun K hK=>?_
 unfold Oper.wp execOp
 simp only [ho,hx,Sem.run_bind,Sem.run_pure,Result.andThen_ok,zjl ty b off (a.eval y) vs hv hg hfit hi h1]
 have hw:Hid (Wrote w (zga w b off vs) b new t):=by
  rw [<- hnew]
  exact wrote hg vs
 exact hK _ _ (h _ hw)

theorem zbm (hg:o.guard=none) (t:TypeId) (parts:Array (Nat×Operand)) (ho:o.op=.build t parts) (cells:Array Value) (hf:P.built t (parts.map fun (i,x)=>(i,a.eval x)).toList=some cells)
  (h:∀ v,Hid (v=.agg cells)->wpList P ops Q rest (a.put o.dst v) w):Hid (wpList P ops Q (o::rest) a w):=by
 unfold Hid
 refine wpList_build hg t parts ho (by rw [hf]; rfl) ?_
 rw [hf]
 exact h _ rfl

theorem zau {w:World} {b:Nat} {cs:Array Value} {t:TypeId} (ty:TypeId) {fs:Array Field} (hg:w.heap[b]?=some (.cells cs t (0,0))) (hu:P.underlying ty=some (.struct fs)) (hi:(P.info? ty).map (·.size)=some cs.size) :
  (loadVar ty ⟨b,0,none⟩).run P w=.ok (.agg cs) w:=run_loadVar_row w b t ty cs (0,0) (.struct fs) hg hu rfl hi
end

section
variable {w w1 w2:World} {b c s i:Nat} {o o2:Obj} {B C:Nat->Prop} {m:Mc} {vc vu va vp vb vl vx:Value} {cs:Array Value} {t:TypeId}
theorem zA0 (m:Hid (Made w w1 b o)):Hid (b=w.heap.size+0):=m.o.at_
theorem zA1 (a:Hid (b=s+i)) (m:Hid (Made w w1 b o)) (n:Hid (Made w1 w2 c o2)):Hid (c=s+(i+1)):=by
 unfold Hid
 have q:=a.o
 have q1:=m.o.size
 have q2:=n.o.at_
 omega
theorem zNn (h:Hid (∀ k,C k↔(B k/\k≠b))):Hid (¬ C b):=fun q=>((h.o _).1 q).2 rfl
theorem zIn (h:Hid (∀ k,C k↔(B k/\k≠b))):Hid (∀ k,C k->B k):=fun k q=>((h.o k).1 q).1
theorem zEx (B:Nat->Prop) (b:Nat):∃ X:Nat->Prop,Hid (∀ k,X k↔(B k/\k≠b)):=⟨_,fun _=>Iff.rfl⟩
theorem zOn (m:Hid (Made w1 w2 b o)) (e:Hid (Ext w w1)):Hid (w.heap.size<=b):=by
 unfold Hid
 have q:=m.o.at_
 have q2:=e.o.size
 omega
theorem zMD (h:Hid (∀ k,C k↔(B k/\k≠b))) (n:Hid (Made w w1 b o)) (r:Hid (RdM B w m vc vu va vp vb vl vx)):Hid (RdM C w m vc vu va vp vb vl vx):=r.o.widen fun k hk q=>(h.o k).2 ⟨q,by have q2:=n.o.at_; omega⟩
theorem zHw (n:Hid (Wrote w w1 b cs t)) (r:Hid (RdM B w m vc vu va vp vb vl vx)) (h:Hid (¬ B b)):Hid (RdM B w1 m vc vu va vp vb vl vx):=n.o.rdM r.o h.o
end
open Go Go.RowKit

theorem zbx {w w':World} {k:Nat} {x:Obj} (h:Hid (w.heap[k]?=some x)) (e:Ext w w'):Hid (w'.heap[k]?=some x):=zd4 h.o e
theorem zrx {w w':World} {A:Nat->Prop} {φ:World->Prop} (h:Hid (Rd A φ w)) (e:Ext w w'):Hid (Rd A φ w'):=h.o.ext e

section
variable {P:Program} {ops:Array Oper} {rest:List Oper} {o:Oper} {a:Act} {w:World} {Q:Exit->Act->World->Prop}
def ztY (L:List Nat):Op->Bool
 | .load ty _=>L.contains ty
 | .store ..=>true
 | .box ..=>true
 | .alloc ..=>true
 | .build ..=>true
 | .buildSlice ..=>true
 | _=>false
def zvv:Op->Bool
 | .slice ..=>true
 | _=>false
theorem zst {L:List Nat} (_:ztY L o.op=true) (h:Hid (wpList P ops Q (o::rest) a w)):wpList P ops Q (o::rest) a w:=h
theorem zT (h:Hid (wpList P ops Q (o::rest) a w)) (_:ztY [43,40,30,49] o.op=true:=by with_unfolding_all exact rfl):wpList P ops Q (o::rest) a w:=h
theorem zsc (_:zvv o.op=true) (h:Hid (wpList P ops Q (o::rest) a w)):wpList P ops Q (o::rest) a w:=h
theorem zg4 (hg:o.guard=none) (n:Nat) (G:Option Addr->Nat->Prop) (h1:∃ na nc,G na nc/\(execOp a.eval o).run P w=.ok (.value (.slice na n nc)) w) (h:∀ na nc,G na nc->wpList P ops Q rest (a.put o.dst (.slice na n nc)) w):wpList P ops Q (o::rest) a w:=by
 obtain ⟨na,nc,hG,hrun⟩:=h1
 refine wpList_plain hg fun K hK=>?_
 unfold Oper.wp
 rw [hrun,Oper.upon_value]
 exact hK _ _ (h na nc hG)
theorem zcv {v:Value} {cs:List Value} (h:Hid (v=.agg cs.toArray)):v.cells=cs.toArray:=by rw [h.o]; rfl
theorem zah (hgd:o.guard=none) (ty:TypeId) (x:Operand) (ho:o.op=.load ty x) (b:Nat) (hx:a.eval x=.pointer (some ⟨b,0,none⟩)) {cs:List Value} {t:TypeId} (hg:Hid (w.heap[b]?=some (.cells cs.toArray t (0,0))))
  {fs:Array Field} (hu:P.underlying ty=some (.struct fs)) (hi:(P.info? ty).map (·.size)=some cs.length)
  (h:∀ v,Hid (v=.agg cs.toArray)->wpList P ops Q rest (a.put o.dst v) w):Hid (wpList P ops Q (o::rest) a w):=by
 unfold Hid
 exact
  zfj hgd ty x ho b 0 hx hg.o cs (by simp) hu hi h
theorem zaa (hgd:o.guard=none) (ty:TypeId) (x y:Operand) (ho:o.op=.store ty x y) (b:Nat) (hx:a.eval x=.pointer (some ⟨b,0,none⟩)) (vs:List Value) (hv:(a.eval y).cells=vs.toArray)
  {cs:Array Value} {t:TypeId} (hg:Hid (w.heap[b]?=some (.cells cs t (0,0)))) (hfit:vs.length=cs.size) (hi:(P.info? ty).map (·.size)=some vs.length) (h1:vs.all (fun u=>u.oneCell')=true)
  (h:∀ w',Hid (Wrote w w' b vs.toArray t)->wpList P ops Q rest (a.put o.dst undef) w'):Hid (wpList P ops Q (o::rest) a w):=by
 unfold Hid
 exact
  zce hgd ty x y ho b 0 hx vs hv hg.o (by omega) hi (zbR h1) _ (znv cs vs hfit) h
theorem zcq (hgd:o.guard=none) (ty:TypeId) (x:Operand) (ho:o.op=.load ty x) (b off:Nat) (hx:a.eval x=.pointer (some ⟨b,off,none⟩)) {cs:Array Value} {t:TypeId} (hg:Hid (w.heap[b]?=some (.cells cs t (0,0))))
  (vs:List Value) (hsub:(cs.toList.drop off).take vs.length=vs) {fs:Array Field} (hu:P.underlying ty=some (.struct fs)) (hi:(P.info? ty).map (·.size)=some vs.length)
  (h:∀ v,Hid (v=.agg vs.toArray)->wpList P ops Q rest (a.put o.dst v) w):Hid (wpList P ops Q (o::rest) a w):=by
 unfold Hid
 exact
  zfj hgd ty x ho b off hx hg.o vs hsub hu hi h
theorem zaq (hgd:o.guard=none) (ty:TypeId) (x y:Operand) (ho:o.op=.store ty x y) (b off:Nat) (hx:a.eval x=.pointer (some ⟨b,off,none⟩)) (vs:List Value) (hv:(a.eval y).cells=vs.toArray)
  {cs:Array Value} {t:TypeId} (hg:Hid (w.heap[b]?=some (.cells cs t (0,0)))) (hfit:(off+vs.length).ble cs.size=true) (hi:(P.info? ty).map (·.size)=some vs.length) (h1:vs.all (fun u=>u.oneCell')=true)
  (new:List Value) (hnew:cs.toList.take off++vs++cs.toList.drop (off+vs.length)=new) (h:∀ w',Hid (Wrote w w' b new.toArray t)->wpList P ops Q rest (a.put o.dst undef) w'):Hid (wpList P ops Q (o::rest) a w):=by
 unfold Hid
 exact
  zce hgd ty x y ho b off hx vs hv hg.o (Nat.le_of_ble_eq_true hfit) hi (zbR h1) _ ((zc3 _ _ _ (Nat.le_of_ble_eq_true hfit)).trans (by rw [hnew])) h
end
open Go Go.RowKit

theorem zgg {g n cap b:Nat} (h:b < g):(Value.slice (some ⟨g,0,none⟩) n cap).ownBlock≠some b:=fun e=>by
 have q:g=b:=by simpa [Value.ownBlock] using e
 omega

theorem zge {w:World} {base e size n cap g:Nat} {xs:List Value} (h:w.ownsRow base e size (.slice (some ⟨g,0,none⟩) n cap) n xs):∃ cur:Array Value,w.heap[g]?=some (.cells cur e (0,0))/\base<=g/\cur.size=cap * size/\cur.toList.take (n * size)=xs/\n<=cap/\cap<=maxLen:=by
 rcases h.2 with ⟨e1,_⟩ | ⟨g',cap',cur,e1,hb,hg,hn,hm,hs,ht⟩
 ·cases e1
 ·simp only [Value.slice.injEq,Option.some.injEq,Addr.mk.injEq,and_true,true_and] at e1
  obtain ⟨rfl,rfl⟩:=e1
  exact ⟨cur,hg,hb,hs,ht,hn,hm⟩

theorem zeE {w w':World} {base e size n cap g off:Nat} {xs vs:List Value} {cur:Array Value} (hb:base<=g) (hs:cur.size=cap * size) (ht:cur.toList.take (n * size)=xs) (hn:n<=cap) (hm:cap<=maxLen)
  (hw:Wrote w w' g (zkf cur off vs) e) (hf:off+vs.length<=n * size):w'.ownsRow base e size (.slice (some ⟨g,0,none⟩) n cap) n (xs.take off++vs++xs.drop (off+vs.length)):=by
 have hns:n * size<=cap * size:=Nat.mul_le_mul_right _ hn
 have hlen:xs.length=n * size:=by rw [<- ht,List.length_take,Array.length_toList,hs]; exact Nat.min_eq_left hns
 have hsp:=zc3 vs cur off (by omega)
 refine ⟨by simp; omega,.inr ⟨g,cap,_,rfl,hb,hw.block,hn,hm,?_,?_⟩⟩
 ·rw [hsp]; simp; omega
 ·rw [hsp]
  show (cur.toList.take off++vs++cur.toList.drop (off+vs.length)).take (n * size)=_
  subst ht
  rw [List.append_assoc,List.append_assoc,List.take_append,List.take_append,List.take_take,List.take_take,List.drop_take]
  have h1:(cur.toList.take off).length=off:=by rw [List.length_take,Array.length_toList]; omega
  rw [h1,Nat.min_eq_right (by omega:off<=n * size),Nat.min_eq_left (by omega:off<=n * size),List.take_of_length_le (l:=vs) (by omega),show n * size - off - vs.length=n * size - (off+vs.length) by omega]

theorem zkL {X:Type}:∀ (l:List X) (k:Nat) (c:X),k < l.length->l.set k c=l.take k++c::l.drop (k+1)
 | [],k,c,h=>by simp at h
 | x::l,0,c,_=>rfl
 | x::l,k+1,c,h=>by
  simp only [List.set_cons_succ,List.take_succ_cons,List.drop_succ_cons,List.cons_append]
  rw [zkL l k c (by simpa using h)]
theorem zfM {size:Nat} (hs:0 < size) {css:List (List Value)} (h:∀ c ∈ css,c.length=size) {k:Nat} (hk:k < css.length) {c:List Value} (hc:c.length=size):(css.set k c).flatten=css.flatten.take (k * size)++c++css.flatten.drop (k * size+c.length):=by
 rw [zkL css k c hk,List.flatten_append,List.flatten_cons,zfv hs h,zfu hs h,List.append_assoc,hc,show (k+1) * size=k * size+size by rw [Nat.add_mul]; omega]

theorem Rd.setE {A:Nat->Prop} {X:Type} {R:El X} {size:Nat} {css:List (List Value)} {xs:List X} {c:List Value} {x:X} {w:World} (h1:Rd A (fun w=>zc8 size R w css xs) w) (h2:Rd A (fun w=>R w c x) w) (hc:c.length=size) (k:Nat):Rd A (fun w=>zc8 size R w (css.set k c) (xs.set k x)) w :=
 (h1.and h2).imp fun _ h=>h.1.set k hc h.2

theorem zdM {A:Nat->Prop} {X:Type} {R:El X} {size:Nat} {css:List (List Value)} {xs:List X} {w:World} (h:Rd A (fun w=>zc8 size R w css xs) w) {k:Nat} {c:List Value} {x:X} (hc:css[k]?=some c) (hx:xs[k]?=some x):Rd A (fun w=>R w c x) w :=
 h.imp fun _ h=>(h.2 k c x hc hx).2
theorem zeC {X:Type} {R:El X} {size:Nat} {css:List (List Value)} {xs:List X} {w:World} (h:zc8 size R w css xs) {k:Nat} (hk:k < xs.length):∃ c x,css[k]?=some c/\xs[k]?=some x/\c.length=size:=by
 have h1:css[k]?=some (css[k]'(by rw [h.1]; exact hk)):=List.getElem?_eq_getElem _
 have h2:xs[k]?=some xs[k]:=List.getElem?_eq_getElem hk
 exact ⟨_,_,h1,h2,(h.2 k _ _ h1 h2).1⟩
theorem zcY {w:World} {size:Nat} {b off n cap:Nat} {css:List (List Value)} (hs:0 < size) (h:Row w size (.slice (some ⟨b,off,none⟩) n cap) n css.flatten) (hz:∀ c ∈ css,c.length=size) {k:Nat} {c:List Value} (hc:css[k]?=some c):w.rangeAt b (off+k * size) c:=fun j v hv=>by
 obtain ⟨_,ao,cap',e,_,_,_,h5⟩:=h
 simp only [Value.slice.injEq] at e
 obtain ⟨b',off',e',hcell⟩:=h5 _ _ (zcW hs hz hc hv)
 rw [e'] at e
 simp only [Option.some.injEq,Addr.mk.injEq,and_true] at e
 obtain ⟨⟨rfl,rfl⟩,_⟩:=e
 rw [Nat.add_assoc]
 exact hcell

section
variable {P:Program} {ops:Array Oper} {rest:List Oper} {o:Oper} {a:Act} {w:World} {Q:Exit->Act->World->Prop}
theorem zhT {ρ:Operand->Value} (ty:TypeId) (x:Operand) (ho:o.op=.load ty x) (b off:Nat) (hx:ρ x=.pointer (some ⟨b,off,none⟩)) (vs:List Value) (hr:w.rangeAt b off vs) {fs:Array Field} (hu:P.underlying ty=some (.struct fs)) (hi:(P.info? ty).map (·.size)=some vs.length) :
  (execOp ρ o).run P w=.ok (.value (.agg vs.toArray)) w:=by
 unfold execOp
 simp only [ho,hx,Instr.loadAt,Instr.sureAddr,Sem.run_bind,Sem.run_pure,Result.andThen_ok,run_loadVar_mid w b off ty vs (.struct fs) hr hu rfl hi]
theorem zfG (hgd:o.guard=none) (ty:TypeId) (x:Operand) (ho:o.op=.load ty x) (b off:Nat) (hx:a.eval x=.pointer (some ⟨b,off,none⟩)) (vs:List Value) (hr:w.rangeAt b off vs) {fs:Array Field} (hu:P.underlying ty=some (.struct fs)) (hi:(P.info? ty).map (·.size)=some vs.length)
  (h:∀ v,Hid (v=.agg vs.toArray)->wpList P ops Q rest (a.put o.dst v) w):wpList P ops Q (o::rest) a w:=by
 refine wpList_plain hgd fun K hK=>?_
 unfold Oper.wp
 rw [zhT ty x ho b off hx vs hr hu hi,Oper.upon_value]
 exact hK _ _ (h _ rfl)
theorem zbB {w w':World} {b base e size n:Nat} {cells:Array Value} (h:Made w w' b (.cells cells e)) (hb:base<=b) (hs:cells.size=n * size) (hm:n<=maxLen):w'.ownsRow base e size (.slice (some ⟨b,0,none⟩) n n) n cells.toList :=
 ⟨by simpa using hs,.inr ⟨b,n,cells,rfl,hb,h.block,Nat.le_refl _,hm,hs,by rw [List.take_of_length_le (by simp [hs])]⟩⟩

theorem zgU (hgd:o.guard=none) (s x:Operand) (t:TypeId) (ho:o.op=.call { callee:=.builtin .append,args:=#[s,x],argTypes:=#[t,t] })
  (base:Nat) (e:TypeId) (i:TypeInfo) (z:Value) (size bytes:Nat) (ht:P.underlying t=some (.slice e)) (hi:P.info? e=some i) (hz:i.zero=some z)
  (hsize:i.size=size) (hby:i.bytes=bytes) (hzs:z.cells.size=size) (hsz:0 < size)
  (v:Value) (n:Nat) (xs:List Value) (hs:a.eval s=v) (hown:zjz base e size n xs v w) (u:Value) (hx:a.eval x=u) (m:Nat) (news:List Value) (hu:Row w size u m news) (h1:∀ u ∈ news,u.oneCell'=true)
  (hbytes:(n+m) * bytes<=140737488355328) (hpos:0 < bytes) (hbase:base<=w.heap.size)
  (h:∀ v' w',w'.ownsRow base e size v' (n+m) (xs++news)->Ext w w'->wpList P ops Q rest (a.put o.dst v') w'):wpList P ops Q (o::rest) a w:=by
 refine wpList_plain hgd fun K hK=>?_
 obtain ⟨v',w',hrun,h2,h3⟩:=zdZ (P:=P) w base t o.type e i z size bytes ht hi hz hsize hby hzs hsz v n xs hown u m news hu h1 hbytes hpos hbase
 unfold Oper.wp
 simp [execOp,ho,resolve,invoke,builtin,hs,hx,hrun,Result.andThen]
 exact hK _ _ (h v' w' h2 h3)

end
open Go Go.RowKit

section
variable {P:Program} {md:Region.Mode} {ops:Array Oper} {Q:Exit->Act->World->Prop} {S:World->Prop} {fuel:Nat} {listed:Array Bool} {a:Act} {w:World} {o:Oper}

theorem zag (h:∀ K:Act->Prop,(∀ a',wpAnyH P md ops Q S fuel listed a' w->K a')->K a):wpAnyH P md ops Q S fuel listed a w:=h _ (fun _ h=>h)

theorem zbG (i:Nat) (hi:ops[i]?=some o) (hs:Region.noSelect ops=true) (hf:Region.free md ops listed i=true) (hr:(Region.ready md ops listed).contains i=true)
  (hQ:∀ v c a w,Q (.panic c) (a.put o.dst v) w->Q (.panic c) a w) (v:Value) (hw:Region.wanted o (yielded ops a.tmps)=true) (hv:∀ w,S w->(execOp a.eval o).run P w=.ok (.value v) w) (hS:S w)
  (h:wpAnyH P md ops Q S fuel (listed.setIfInBounds i true) (a.put o.dst v) w):wpAnyH P md ops Q S (fuel+1) listed a w :=
 wpAnyH_take hi hs hf hr (hQ v) (.inl ⟨hw,hv⟩) hS h
theorem zak (i:Nat) (hi:ops[i]?=some o) (hs:Region.noSelect ops=true) (hf:Region.free md ops listed i=true) (hr:(Region.ready md ops listed).contains i=true)
  (hQ:∀ v c a w,Q (.panic c) (a.put o.dst v) w->Q (.panic c) a w) (hw:Region.wanted o (yielded ops a.tmps)=true) (hS:S w)
  (h:∀ K:Act->Prop,(∀ a',wpAnyH P md ops Q S fuel (listed.setIfInBounds i true) a' w->K a')->∃ c,(∀ w,(execOp a.eval o).run P w=.ok (.value c) w)/\K (a.put o.dst c)):wpAnyH P md ops Q S (fuel+1) listed a w:=by
 obtain ⟨c,hc,hk⟩:=h _ (fun _ h=>h)
 exact wpAnyH_take hi hs hf hr (hQ c) (.inl ⟨hw,fun w _=>hc w⟩) hS hk

theorem zfO {K:Act->World->Prop} {i:Nat} (hi:ops[i]?=some o) (hw:Region.wanted o (yielded ops a.tmps)=true) (h:o.wp P a w K Q):wpOp P ops Q i K a w:=by
 unfold wpOp
 simp only [hi,hw,if_true]
 exact .inl h
theorem zdB (i:Nat) (hr:Region.ready md ops listed=[i]) (h:wpOp P ops Q i (fun a' w'=>S w'/\wpAnyH P md ops Q S fuel (listed.setIfInBounds i true) a' w') a w):wpAnyH P md ops Q S (fuel+1) listed a w :=
 wpAnyH_all hr (by simp) (fun j hj=>by
  simp only [List.mem_singleton] at hj
  subst hj
  exact h)
theorem zcs (i:Nat) (hr:Region.ready md ops listed=[i]) (hi:ops[i]?=some o) (hw:Region.wanted o (yielded ops a.tmps)=true)
  (ty:TypeId) (x y:Operand) (ho:o.op=.store ty x y) (b off:Nat) (hx:a.eval x=.pointer (some ⟨b,off,none⟩)) (vs:List Value) (hv:(a.eval y).cells=vs.toArray)
  {cs:Array Value} {t:TypeId} (hg:w.heap[b]?=some (.cells cs t (0,0))) (hfit:off+vs.length<=cs.size) (hsz:(P.info? ty).map (·.size)=some vs.length) (h1:∀ u ∈ vs,u.oneCell'=true)
  (new:Array Value) (hnew:zkf cs off vs=new) (h:∀ w',Hid (Wrote w w' b new t)->S w'/\wpAnyH P md ops Q S fuel (listed.setIfInBounds i true) (a.put o.dst undef) w'):wpAnyH P md ops Q S (fuel+1) listed a w:=by
 refine zdB i hr (zfO hi hw ?_)
 unfold Oper.wp execOp
 simp only [ho,hx,Sem.run_bind,Sem.run_pure,Result.andThen_ok,zjl ty b off (a.eval y) vs hv hg hfit hsz h1]
 have hw:Hid (Wrote w (zga w b off vs) b new t):=by
  rw [<- hnew]
  exact wrote hg vs
 exact h _ hw
theorem za8 (i:Nat) (hi:ops[i]?=some o) (hs:Region.noSelect ops=true) (hf:Region.free md ops listed i=true) (hr:(Region.ready md ops listed).contains i=true)
  (hQ:∀ v c a w,Q (.panic c) (a.put o.dst v) w->Q (.panic c) a w) (hw:Region.wanted o (yielded ops a.tmps)=true) (ty:TypeId) (x:Operand) (ho:o.op=.load ty x) (b:Nat) (hx:a.eval x=.pointer (some ⟨b,0,none⟩)) {cs:List Value} {t:TypeId}
  (hg:∀ w,S w->w.heap[b]?=some (.cells cs.toArray t (0,0))) {fs:Array Field} (hu:P.underlying ty=some (.struct fs)) (hz:(P.info? ty).map (·.size)=some cs.length) (hS:Hid (S w))
  (h:wpAnyH P md ops Q S fuel (listed.setIfInBounds i true) (a.put o.dst (.agg cs.toArray)) w):wpAnyH P md ops Q S (fuel+1) listed a w :=
 zbG i hi hs hf hr hQ _ hw (fun w hw=>zcz ty x ho b 0 hx (hg w hw) cs (by simp) hu hz) hS.o h
theorem za7 (i:Nat) (hr:Region.ready md ops listed=[i]) (hi:ops[i]?=some o) (hw:Region.wanted o (yielded ops a.tmps)=true)
  (ty:TypeId) (x y:Operand) (ho:o.op=.store ty x y) (b:Nat) (hx:a.eval x=.pointer (some ⟨b,0,none⟩)) (vs:List Value) (hv:(a.eval y).cells=vs.toArray)
  {cs:Array Value} {t:TypeId} (hg:Hid (w.heap[b]?=some (.cells cs t (0,0)))) (hfit:vs.length=cs.size) (hsz:(P.info? ty).map (·.size)=some vs.length) (h1:vs.all (fun u=>u.oneCell')=true)
  (h:∀ w',Hid (Wrote w w' b vs.toArray t)->S w'/\wpAnyH P md ops Q S fuel (listed.setIfInBounds i true) (a.put o.dst undef) w'):wpAnyH P md ops Q S (fuel+1) listed a w :=
 zcs i hr hi hw ty x y ho b 0 hx vs hv hg.o (by omega) hsz (zbR h1) _ (znv cs vs hfit) h
theorem zaF (i:Nat) (hr:Region.ready md ops listed=[i]) (hi:ops[i]?=some o) (hw:Region.wanted o (yielded ops a.tmps)=true) (v:Value) (hv:(execOp a.eval o).run P w=.ok (.value v) w)
  (hS:S w) (h:wpAnyH P md ops Q S fuel (listed.setIfInBounds i true) (a.put o.dst v) w):wpAnyH P md ops Q S (fuel+1) listed a w:=by
 refine zdB i hr (zfO hi hw ?_)
 unfold Oper.wp
 rw [hv]
 exact ⟨hS,h⟩
theorem zcZ (i:Nat) (hr:Region.ready md ops listed=[i]) (hi:ops[i]?=some o) (hw:Region.wanted o (yielded ops a.tmps)=true) (f:FuncId) (args:Array Value) (hv:(execOp a.eval o).run P w=.ok (.enter f args) w)
  (h:Calls P f args w fun e w'=>∃ v,e=.returned v/\S w'/\wpAnyH P md ops Q S fuel (listed.setIfInBounds i true) (a.put o.dst v) w'):wpAnyH P md ops Q S (fuel+1) listed a w:=by
 refine zdB i hr (zfO hi hw ?_)
 unfold Oper.wp
 rw [hv]
 refine Calls.mono h fun e w' ⟨v,e1,h1,h2⟩=>?_
 subst e1
 exact ⟨h1,h2⟩
theorem zcX {K:Act->World->Prop} {i:Nat} (hi:ops[i]?=some o) (hw:Region.wanted o (yielded ops a.tmps)=true) (t:TypeId) (cells:Array Value) (hrun:(execOp a.eval o).run P w=.ok (.value (.pointer (some ⟨w.heap.size,0,none⟩))) (w.alloc (.cells cells t)))
  (h:∀ b w',Hid (Made w w' b (.cells cells t))->K (a.put o.dst (.pointer (some ⟨b,0,none⟩))) w'):wpOp P ops Q i K a w:=by
 refine zfO hi hw ?_
 unfold Oper.wp
 rw [hrun]
 exact h _ _ (zmW w _)
theorem zdm {K:Act->World->Prop} {i:Nat} (hi:ops[i]?=some o) (hw:Region.wanted o (yielded ops a.tmps)=true) (f:FuncId) (args:Array Value) (hv:(execOp a.eval o).run P w=.ok (.enter f args) w)
  (h:Calls P f args w fun e w'=>∃ v,e=.returned v/\K (a.put o.dst v) w'):wpOp P ops Q i K a w:=by
 refine zfO hi hw ?_
 unfold Oper.wp
 rw [hv]
 refine Calls.mono h fun e w' ⟨v,e1,h1⟩=>?_
 subst e1
 exact h1
theorem zf6 (i j:Nat) (hr:Region.ready md ops listed=[i,j]) (h1:wpOp P ops Q i (fun a' w'=>S w'/\wpAnyH P md ops Q S fuel (listed.setIfInBounds i true) a' w') a w)
  (h2:wpOp P ops Q j (fun a' w'=>S w'/\wpAnyH P md ops Q S fuel (listed.setIfInBounds j true) a' w') a w):wpAnyH P md ops Q S (fuel+1) listed a w :=
 wpAnyH_all hr (by simp) (fun k hk=>by
  simp only [List.mem_cons,List.not_mem_nil,or_false] at hk
  rcases hk with rfl | rfl
  ·exact h1
  ·exact h2)
theorem zbL {id:Nat} (hm:P.follows .mixedOrders=true) (h:∀ w',Ext w w'->w'.heap=w.heap->wpAnyH P .any ops Q S ops.size (Array.replicate ops.size false) a w'):(Code.region id ops true).wp P Q a w :=
 wp_region_held hm (h _ ((Ext.refl w).drew) rfl)
end
end Go.Mk

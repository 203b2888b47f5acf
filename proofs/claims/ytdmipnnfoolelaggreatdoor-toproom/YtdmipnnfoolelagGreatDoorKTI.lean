/- zbb of the proof, merged: Base. -/
import Derived.Test.YtdmipnnfoolelagGreatDoorKTA
import Derived.Test.YtdmipnnfoolelagGreatDoorRows
import Derived.Test.YtdmipnnfoolelagGreatDoorKTB
import Derived.Deep.QuietTactic
import Derived.BigQuiet
import Derived.BigRegion
import Derived.Handy
set_option maxRecDepth 100000

namespace Go.Proofs.YtdmipnnfoolelagGreatDoor
open Go.RowKit Go.Mk

abbrev zo5:=Tryz.underlying108
abbrev zuQ:=Tryz.underlying118
abbrev zkD:=Tryz.underlying137
abbrev zuN:=Tryz.underlying145
abbrev zuU:=Tryz.underlying167
abbrev ztP:=Tryz.underlying217
abbrev ztR:=Tryz.underlying219
abbrev zqQ:=Tryz.underlying22
abbrev zuR:=Tryz.underlying24
abbrev zsY:=Tryz.underlying25
abbrev zj2:=Tryz.underlying26
abbrev zt4:=Tryz.underlying27
abbrev zue:=Tryz.underlying28
abbrev zu3:=Tryz.underlying3
abbrev ze6:=Tryz.underlying30
abbrev zul:=Tryz.underlying31
abbrev zvf:=Tryz.underlying33
abbrev zub:=Tryz.underlying35
abbrev zvy:=Tryz.underlying38
abbrev zu4:=Tryz.underlying4
abbrev zda:=Tryz.underlying40
abbrev zuA:=Tryz.underlying41
abbrev za2:=Tryz.underlying43
abbrev zof:=Tryz.underlying46
abbrev zuJ:=Tryz.underlying47
abbrev zcK:=Tryz.underlying49
abbrev znf:=Tryz.underlying56
abbrev zvB:=Tryz.underlying57
abbrev zvA:=Tryz.underlying61
abbrev zpT:=Tryz.underlying70
abbrev zu0:=Tryz.underlying74
abbrev zu9:=Tryz.underlying9
theorem zvg:(Tryz.prog.info? 108).map (·.size)=some 2:=by kernel_rfl
theorem zpm:(Tryz.prog.info? 118).map (·.size)=some 4:=by kernel_rfl
theorem ztc:(Tryz.prog.info? 26).map (·.size)=some 1:=by kernel_rfl
theorem zi3:(Tryz.prog.info? 3).map (·.size)=some 1:=by kernel_rfl
theorem zh4:(Tryz.prog.info? 30).map (·.size)=some 4:=by kernel_rfl
theorem zqR:(Tryz.prog.info? 31).map (·.size)=some 1:=by kernel_rfl
theorem zum:(Tryz.prog.info? 33).map (·.size)=some 4:=by kernel_rfl
theorem zvl:(Tryz.prog.info? 35).map (·.size)=some 6:=by kernel_rfl
theorem zp2:(Tryz.prog.info? 38).map (·.size)=some 2:=by kernel_rfl
theorem zi4:(Tryz.prog.info? 4).map (·.size)=some 1:=by kernel_rfl
theorem zdp:(Tryz.prog.info? 40).map (·.size)=some 12:=by kernel_rfl
theorem zuY:(Tryz.prog.info? 41).map (·.size)=some 1:=by kernel_rfl
theorem zaT:(Tryz.prog.info? 43).map (·.size)=some 20:=by kernel_rfl
theorem zvq:(Tryz.prog.info? 46).map (·.size)=some 1:=by kernel_rfl
theorem zvj:(Tryz.prog.info? 47).map (·.size)=some 1:=by kernel_rfl
theorem zcm:(Tryz.prog.info? 49).map (·.size)=some 6:=by kernel_rfl
theorem zve:(Tryz.prog.info? 52).map (·.size)=some 2:=by kernel_rfl
theorem Tryz.infoInt:(Tryz.prog.info? 3).map (fun i=>(i.zero,i.size,i.bytes))=some (some (.int .i64 0),1,8):=by kernel_rfl

theorem Tryz.infoInt1:(Tryz.prog.info? 3).map (·.size)=some 1:=by kernel_rfl

theorem Tryz.infoWrite:(Tryz.prog.info? 52).map (fun i=>(i.zero,i.size,i.bytes))=some (some (.agg #[.int .i64 0,.int .i64 0]),2,16):=by kernel_rfl

theorem zec {k:IntKind} {a b:Int} (h:a=b):Ending.returned (.int k a)=.returned (.int k b):=by rw [h]

theorem zgc {a b:Bool} (h:a=b):Ending.returned (.bool a)=.returned (.bool b):=by rw [h]

theorem zkZ {w w':World} {v u:Value} (he:Ext w w') (h:v=u):∃ r,Ending.returned v=.returned r/\Ext w w'/\r=u:=⟨v,rfl,he,h⟩

theorem Calls.exts {P:Program} {f:FuncId} {args:Array Value} {w:World} {v:Value} {Q:Ending->World->Prop} (h:Calls P f args w fun e w'=>e=.returned v/\Ext w w') (k:∀ w',Ext w w'->Q (.returned v) w'):Calls P f args w Q :=
 h.mono fun e w' ⟨he,hx⟩=>by rw [he]; exact k w' hx

theorem zcP {P:Program} {f:FuncId} {args:Array Value} {w:World} {v:Value} (h:Calls P f args w fun e w'=>e=.returned v/\Ext w w'):zaw P f args w (fun r _=>r=v) :=
 Calls.mono h fun _ _ ⟨he,hx⟩=>⟨v,he,hx,rfl⟩

theorem Tryz.infoWrite2:(Tryz.prog.info? 52).map (fun i=>(i.zero,i.size,i.bytes))=some (some (.agg #[.int .i64 0,.int .i64 0]),2,16):=by kernel_rfl

theorem Tryz.infoWriteSz:(Tryz.prog.info? 52).map (·.size)=some 2:=by kernel_rfl

theorem zbk {w w1:World} {o:Obj} (e:Ext (w.alloc o) w1):w1.heap[w.heap.size]?=some o:=by
 have:=e.block w.heap.size (by simp)
 rw [this]
 exact heap_alloc_new w o

theorem zaS {w:World} {b i:Nat} {cs:Array Value} {t:TypeId} {u:Value} (h:w.heap[b]?=some (.cells cs t (0,0))) (hi:cs[i]?=some u):w.cell? ⟨b,i,none⟩=some u:=by
 simp [World.cell?,h,hi]

theorem zaY {w:World} {b i:Nat} {cs:Array Value} {t:TypeId} (h:w.heap[b]?=some (.cells cs t (0,0))):w.frozen? ⟨b,i,none⟩=false:=by
 simp [World.frozen?,h]

theorem zlO {w w1:World} {t:TypeId} {u v:Value} (e:Ext (w.alloc (.cells #[u,v] t)) w1) :
  w1.cell? ⟨w.heap.size,0,none⟩=some u/\w1.cell? ⟨w.heap.size,1,none⟩=some v/\w1.frozen? ⟨w.heap.size,0,none⟩=false/\w1.frozen? ⟨w.heap.size,1,none⟩=false :=
 ⟨zaS (zbk e) rfl,zaS (zbk e) rfl,zaY (zbk e),zaY (zbk e)⟩

theorem zut {w w1:World} {t:TypeId} {u v:Value} (b:Nat) (e:Ext (w.alloc (.cells #[u,v] t)) w1) (hb:w.heap.size=b) :
  w1.cell? ⟨b,0,none⟩=some u/\w1.cell? ⟨b,1,none⟩=some v/\w1.frozen? ⟨b,0,none⟩=false/\w1.frozen? ⟨b,1,none⟩=false:=by
 subst hb; exact zlO e

theorem zbV {wx w1:World} {b:Nat} {t:TypeId} {u v:Value} (h:wx.heap[b]?=some (.cells #[u,v] t (0,0))) (e:Ext wx w1) :
  w1.cell? ⟨b,0,none⟩=some u/\w1.cell? ⟨b,1,none⟩=some v/\w1.frozen? ⟨b,0,none⟩=false/\w1.frozen? ⟨b,1,none⟩=false:=by
 have hb:b < wx.heap.size:=(Array.getElem?_eq_some_iff.1 h).1
 have h2:w1.heap[b]?=some (.cells #[u,v] t (0,0)):=by rw [e.block b hb]; exact h
 exact ⟨zaS h2 rfl,zaS h2 rfl,zaY h2,zaY h2⟩

theorem zgE (w:World) (o:Obj) (nq:Nat):((w.alloc o).drewN nq).heap[w.heap.size]?=some o:=heap_alloc_new w o

theorem zlH {w:World} {o:Obj} {g i nq:Nat} {x:Value} (hg:g < w.heap.size):(((w.alloc o).drewN nq).setCell ⟨g,i,none⟩ x).heap[w.heap.size]?=some o:=by
 rw [Below.heap_setCell _ _ _ _ (fun e=>by simp only [] at e; omega)]
 exact heap_alloc_new w o

theorem zcx (w:World) (b i:Nat) (x:Value):w.grownBy (w.setCell ⟨b,i,none⟩ x) (some b) :=
 ⟨rfl,rfl,rfl,by simp,fun k _ hk=>Below.heap_setCell w _ x k (fun e=>hk (by simp [e]))⟩

theorem za1 {w:World} {base e size n:Nat} {v:Value} {xs:List Value} (h:w.ownsRow base e size v n xs) {b:Nat} (hb:v.ownBlock≠some b) (i:Nat) (x:Value):(w.setCell ⟨b,i,none⟩ x).ownsRow base e size v n xs :=
 h.kept (zcx w b i x) (.inr hb)

theorem zku {w w1:World} {row:Option Nat} (h:w.grownBy w1 row) {b:Nat} (hb:w.heap.size<=b) (i:Nat) (x:Value):w.grownBy (w1.setCell ⟨b,i,none⟩ x) row :=
 ⟨h.os,h.tape,h.output,by simpa using h.size,fun k hk hne=>by rw [Below.heap_setCell w1 _ x k (fun e=>by subst e; exact absurd hk (Nat.not_lt.2 hb))]; exact h.block k hk hne⟩

theorem zaH {w:World} {base e size n b:Nat} {v:Value} {xs:List Value} {cs:Array Value} {t:TypeId} (h:w.ownsRow base e size v n xs) (hb:w.heap[b]?=some (.cells cs t (0,0))) (hne:e≠t):v.ownBlock≠some b:=by
 intro he
 rcases h.2 with ⟨rfl,_⟩ | ⟨k,cap,cur,rfl,_,hk,_⟩
 ·cases he
 ·have e2:k=b:=by simpa [Value.ownBlock] using he
  subst e2
  rw [hb] at hk
  simp at hk
  exact hne hk.2.symm

theorem zhE:∀ (fn:Fn) (first cap:Array Value) (w:World),(Instr.makeFunc fn first cap).run Tryz.prog w=.ok (.func fn first cap) w:=fun _ _ _ _=>rfl

theorem zff {w:World} {p:Addr} {v:Value} (h:w.cell? p=some v):p.block < w.heap.size:=by
 by_cases hb:p.block < w.heap.size
 ·exact hb
 ·simp [World.cell?,Array.getElem?_eq_none (Nat.le_of_not_lt hb)] at h

def Has (base:Nat) (w:World) (u:Value) (l:List (Int×Int)):Prop:=∃ x m lo,w.ownsRow base 52 2 x m (zaC lo)/\∀ w2:World,w2.ownsRow base 52 2 x m (zaC lo)->zar w2 u l

theorem zaL {w:World} {b1 b2 e size n:Nat} {v:Value} {xs:List Value} (h:w.ownsRow b1 e size v n xs) (hle:b2<=b1):w.ownsRow b2 e size v n xs:=by
 obtain ⟨h1,h2⟩:=h
 refine ⟨h1,?_⟩
 rcases h2 with h | ⟨g,cap,cur,rfl,hb,hr⟩
 ·exact .inl h
 ·exact .inr ⟨g,cap,cur,rfl,Nat.le_trans hle hb,hr⟩

theorem Has.writes {base:Nat} {w:World} {u:Value} {l:List (Int×Int)} (h:Has base w u l):zar w u l:=by
 obtain ⟨x,m,lo,h1,h2⟩:=h
 exact h2 w h1

theorem Has.ext {base:Nat} {w w':World} {u:Value} {l:List (Int×Int)} (h:Has base w u l) (he:Ext w w'):Has base w' u l:=by
 obtain ⟨x,m,lo,h1,h2⟩:=h
 exact ⟨x,m,lo,zai h1 he,h2⟩

theorem Has.nil (base:Nat) (w:World):Has base w (.slice none 0 0) []:=⟨.slice none 0 0,0,[],World.ownsRow_nil _ _ _ _,fun w2 _=>zbr w2⟩

theorem Has.set {base:Nat} {w:World} {u:Value} {l:List (Int×Int)} (h:Has base w u l) {b:Nat} (hb:b < base) (i:Nat) (y:Value):Has base (w.setCell ⟨b,i,none⟩ y) u l:=by
 obtain ⟨x,m,lo,h1,h2⟩:=h
 exact ⟨x,m,lo,za1 h1 (fun e=>by have:=(h1.lt b e).1; omega) i y,h2⟩

theorem Has.low {b1 b2:Nat} {w:World} {u:Value} {l:List (Int×Int)} (h:Has b1 w u l) (hle:b2<=b1):Has b2 w u l:=by
 obtain ⟨x,m,lo,h1,h2⟩:=h
 rcases h1.2 with ⟨rfl,rfl⟩ | ⟨g,cap,cur,rfl,hb,hr⟩
 ·exact ⟨_,_,lo,zaL h1 hle,fun w2 h3=>h2 w2 ⟨h3.1,.inl ⟨rfl,rfl⟩⟩⟩
 ·refine ⟨_,_,lo,zaL h1 hle,fun w2 h3=>h2 w2 ⟨h3.1,?_⟩⟩
  rcases h3.2 with ⟨e,_⟩ | ⟨g',cap',cur',e,hb',hr'⟩
  ·cases e
  ·have e2:g=g'/\cap=cap':=by simpa using e
   obtain ⟨rfl,rfl⟩:=e2
   exact .inr ⟨g,cap,cur',rfl,hb,hr'⟩

theorem zdn {w:World} {b1 b2 e1 e2 s1 s2 n m:Nat} {x y:Value} {xs ys:List Value} (h1:w.ownsRow b1 e1 s1 x n xs) (h2:w.ownsRow b2 e2 s2 y m ys) (hne:e1≠e2):x.ownBlock=none∨x.ownBlock≠y.ownBlock:=by
 rcases h2.2 with ⟨rfl,_⟩ | ⟨k,cap,cur,rfl,_,hk,_⟩
 ·cases hx:x.ownBlock with
  | none=>exact .inl rfl
  | some j=>exact .inr (by simp [Value.ownBlock])
 ·exact .inr (zaH h1 hk hne)

theorem Has.grown {base:Nat} {w w':World} {u s:Value} {l:List (Int×Int)} {b e n:Nat} {ys:List Value} (h:Has base w u l) (hs:w.ownsRow b e 2 s n ys) (hne:(52:Nat)≠e) (hg:w.grownBy w' s.ownBlock):Has base w' u l:=by
 obtain ⟨x,m,lo,h1,h2⟩:=h
 exact ⟨x,m,lo,h1.kept hg (zdn h1 hs hne),h2⟩

theorem zan {P:Program} {w0:World} {ops:Array Oper} {Q:Act->(Tmp->World->Prop)->Prop} {l:List Oper} {ks:List zdg} {a:Act} {F:Tmp->World->Prop} (h:∀ K:Act->Prop,(∀ a',wpM P w0 ops Q l ks a' F->K a')->K a):wpM P w0 ops Q l ks a F:=h _ (fun _ h=>h)

theorem zb7 {p:Prop} (h:Hid p):p:=h.o

theorem zpn (base:Nat) (l:List (Int×Int)):∀ v,zb9 (fun w=>Has base w v l):=fun _ _ _ he h=>Has.ext h he

end Go.Proofs.YtdmipnnfoolelagGreatDoor

/- Texts of the proof, merged: Mem Read Math2. -/
import Derived.Test.YtdmipnnfoolelafKTA
import Derived.WalkKit
import Derived.WalkSpells
import Derived.WalkLawsBesides
import Derived.Laws.CopyOwn
import Derived.Deep.Draws
import Derived.ProofKit
import Derived.SizedLaws
import Derived.Lib.SmallJoins

namespace Go.Mk
open Go Go.RowKit

theorem Ext.drewN {a w:World} (h:Ext a w) (n:Nat):Ext a (w.drewN n):=⟨h.os,h.tape,h.output,h.size,h.block⟩
theorem Ext.of_drewN (w:World) (n:Nat):Ext w (w.drewN n):=(Ext.refl w).drewN n

abbrev I (n:Int):Value:=.int .i64 n

def Row (w:World) (size:Nat) (v:Value) (n:Nat) (cs:List Value):Prop :=
 cs.length=n * size/\∃ ao cap,v=.slice ao n cap/\n<=cap/\cap<=maxLen/\(ao=none->cap=0)/\∀ j u,cs[j]?=some u->∃ b off,ao=some ⟨b,off,none⟩/\w.cell? ⟨b,off+j,none⟩=some u

theorem Row.ext {w w':World} {size:Nat} {v:Value} {n:Nat} {cs:List Value} (h:Row w size v n cs) (he:Ext w w'):Row w' size v n cs:=by
 obtain ⟨h1,ao,cap,h2,h3,h4,h0,h5⟩:=h
 exact ⟨h1,ao,cap,h2,h3,h4,h0,fun j u hj=>by obtain ⟨b,off,e,hc⟩:=h5 j u hj; exact ⟨b,off,e,he.cell hc⟩⟩

theorem Row.of_owns {w:World} {base e size:Nat} {v:Value} {n:Nat} {cs:List Value} (h:w.ownsRow base e size v n cs):Row w size v n cs:=by
 obtain ⟨h1,h2⟩:=h
 refine ⟨h1,?_⟩
 rcases h2 with ⟨rfl,rfl⟩ | ⟨g,cap,cur,rfl,hb,hg,hn,hm,hs,ht⟩
 ·refine ⟨none,0,rfl,Nat.le_refl _,Nat.zero_le _,fun _=>rfl,fun j u hj=>?_⟩
  have:cs=[]:=List.eq_nil_of_length_eq_zero (by simpa using h1)
  subst this
  simp at hj
 ·refine ⟨_,cap,rfl,hn,hm,fun h=>(by cases h),fun j u hj=>⟨g,0,rfl,?_⟩⟩
  have hj':j < n * size:=by rw [<- h1]; exact (List.getElem?_eq_some_iff.1 hj).1
  rw [<- ht,List.getElem?_take,if_pos hj'] at hj
  simp only [World.cell?,Nat.zero_add,hg]
  simpa using hj

def zbo (w:World) (v:Value) (xs:List Int):Prop:=Row w 1 v xs.length (xs.map I)
theorem zbo.ext {w w':World} {v:Value} {xs:List Int} (h:zbo w v xs) (he:Ext w w'):zbo w' v xs:=Row.ext h he

theorem zbo.form {w:World} {v:Value} {xs:List Int} (h:zbo w v xs):∃ ao cap,v=.slice ao xs.length cap/\xs.length<=cap/\cap<=maxLen /\
  ∀ k,k < xs.length->∃ b off,ao=some ⟨b,off,none⟩/\w.cell? ⟨b,off+k,none⟩=some (I (xs.getD k 0)):=by
 obtain ⟨_,ao,cap,h2,h3,h4,_,h5⟩:=h
 refine ⟨ao,cap,h2,h3,h4,fun k hk=>?_⟩
 exact h5 k _ (by simp [hk])

def zat (l:List (Int×Int)):List Value:=l.flatMap fun p=>[I p.1,I p.2]
theorem zcG (l:List (Int×Int)):(zat l).length=l.length * 2:=by
 unfold zat
 induction l with
 | nil=>rfl
 | cons p l ih=>simp [List.flatMap_cons,ih]; omega
theorem za4 (l m:List (Int×Int)):zat (l++m)=zat l++zat m:=by simp [zat]
theorem zez (l:List (Int×Int)) (k:Nat) (h:k < l.length):(zat l)[k * 2]?=some (I (l.getD k (0,0)).1)/\(zat l)[k * 2+1]?=some (I (l.getD k (0,0)).2):=by
 induction l generalizing k with
 | nil=>simp at h
 | cons p l ih =>
  cases k with
  | zero=>exact ⟨rfl,rfl⟩
  | succ k =>
   have:=ih k (by simpa using h)
   rw [show (k+1) * 2=k * 2+2 by omega,show k * 2+2+1=k * 2+1+2 by omega]
   exact this

theorem zfM (l:List (Int×Int)) (k:Nat) (p:Int×Int):zat (l.set k p)=((zat l).set (k * 2) (I p.1)).set (k * 2+1) (I p.2):=by
 induction l generalizing k with
 | nil=>simp [zat]
 | cons q l ih =>
  cases k with
  | zero=>rfl
  | succ k =>
   rw [show (k+1) * 2=k * 2+2 by omega,show k * 2+2+1=k * 2+1+2 by omega]
   show I q.1::I q.2::zat (l.set k p)=_
   rw [ih]
   rfl

def zan (w:World) (v:Value) (l:List (Int×Int)):Prop:=Row w 2 v l.length (zat l)
theorem zan.ext {w w':World} {v:Value} {l:List (Int×Int)} (h:zan w v l) (he:Ext w w'):zan w' v l:=Row.ext h he
theorem zan.form {w:World} {v:Value} {l:List (Int×Int)} (h:zan w v l):∃ ao cap,v=.slice ao l.length cap/\l.length<=cap/\cap<=maxLen /\
  ∀ k,k < l.length->∃ b off,ao=some ⟨b,off,none⟩/\w.cell? ⟨b,off+k * 2,none⟩=some (I (l.getD k (0,0)).1)/\w.cell? ⟨b,off+k * 2+1,none⟩=some (I (l.getD k (0,0)).2):=by
 obtain ⟨_,ao,cap,h2,h3,h4,_,h5⟩:=h
 refine ⟨ao,cap,h2,h3,h4,fun k hk=>?_⟩
 obtain ⟨c1,c2⟩:=zez l k hk
 obtain ⟨b,off,e,hc⟩:=h5 _ _ c1
 obtain ⟨b',off',e',hc'⟩:=h5 _ _ c2
 rw [e] at e'
 simp only [Option.some.injEq,Addr.mk.injEq,and_true] at e'
 obtain ⟨rfl,rfl⟩:=e'
 exact ⟨b,off,e,hc,hc'⟩

theorem zhg (xs:List Int):∀ u ∈ xs.map I,u.oneCell'=true:=ints_oneCell _ _
theorem zbp (l:List (Int×Int)):∀ u ∈ zat l,u.oneCell'=true:=by
 intro u hu
 unfold zat at hu
 rw [List.mem_flatMap] at hu
 obtain ⟨p,_,hp⟩:=hu
 simp at hp
 rcases hp with rfl | rfl <;> rfl

theorem add_plain (b off j:Nat):(⟨b,off,none⟩:Addr).add j=⟨b,off+j,none⟩:=by
 unfold Addr.add
 split
 ·simp [*]
 ·rfl

theorem ziD {P:Program} (w:World) (t ty e:TypeId) (hu:P.underlying t=some (.slice e)) (hsz:(P.info? e).map (·.size)=some 1) (base g n:Nat) (v:Value) (cs old:List Value)
  (hown:w.ownsRow base e 1 (.slice (some ⟨g,0,none⟩) n n) n old) (hv:Row w 1 v n cs) (h1:∀ u ∈ cs,u.oneCell'=true) :
  ∃ w',(Builtin.copy_ #[t,t] ty #[.slice (some ⟨g,0,none⟩) n n,v]).run P w=.ok (goInt n) w'/\w'.ownsRow base e 1 (.slice (some ⟨g,0,none⟩) n n) n cs/\w.grownBy w' (some g):=by
 obtain ⟨hl,ao,cap,rfl,hc,hm,_,hcell⟩:=hv
 obtain ⟨ho,ho'⟩:=hown
 rcases ho' with ⟨h,_⟩ | ⟨g',cap',cur,h,hb,hg,hn,hm',hs,ht⟩
 ·simp at h
 simp only [Value.slice.injEq,Option.some.injEq,Addr.mk.injEq,and_true,true_and] at h
 obtain ⟨rfl,rfl⟩:=h
 rw [Nat.mul_one] at hl hs
 by_cases h0:n=0
 ·subst h0
  have:cs=[]:=List.eq_nil_of_length_eq_zero hl
  subst this
  refine ⟨w,run_copy_none w t t ty e _ _ _ _ _ _ hu hsz (by simp),⟨rfl,.inr ⟨g,0,cur,rfl,hb,hg,Nat.le_refl _,hm',by simpa using hs,by simp⟩⟩,World.grownBy.refl _ _⟩
 ·have hne:cs≠[]:=by intro e; subst e; simp at hl; omega
  obtain ⟨c0,hc0⟩:∃ c,cs[0]?=some c:=by cases cs with | nil=>exact absurd rfl hne | cons c _=>exact ⟨c,rfl⟩
  obtain ⟨b,off,rfl,_⟩:=hcell 0 c0 hc0
  have hrun:=run_copy_row (P:=P) w t t ty e g 0 n n ⟨b,off,none⟩ n cap cur e cs hu hsz hg (by rw [hl]; exact (Nat.min_self n).symm) (fun j u hj=>by
   obtain ⟨b',off',e',hc'⟩:=hcell j u hj
   simp only [Option.some.injEq,Addr.mk.injEq,and_true] at e'
   obtain ⟨rfl,rfl⟩:=e'
   rw [add_plain]; exact hc') (by omega) h1
  rw [hl] at hrun
  refine ⟨_,hrun,⟨by omega,.inr ⟨g,n,_,rfl,hb,setRow_heap w g cur _ e _ hg,Nat.le_refl _,hm',?_,?_⟩⟩,⟨rfl,rfl,rfl,by simp [World.setRow],fun k _ hk=>setRow_other w g k _ (fun e=>hk (by simp [e]))⟩⟩
  ·simp; omega
  ·simp [<- hl]

theorem Ext.grown {a w w':World} {row:Option Nat} (h:Ext a w) (hg:w.grownBy w' row) (hr:∀ k,row=some k->a.heap.size<=k):Ext a w':=Below.grown h hg h.size hr

theorem zdF {w:World} {base e n:Nat} {v:Value} {xs:List Int} (h:w.ownsRow base e 1 v n (xs.map I)):zbo w v xs:=by
 have hl:xs.length=n:=by simpa using h.1
 subst hl
 exact Row.of_owns h
theorem zar {w:World} {base e n:Nat} {v:Value} {l:List (Int×Int)} (h:w.ownsRow base e 2 v n (zat l)):zan w v l:=by
 have hl:l.length=n:=by have:=h.1; rw [zcG] at this; omega
 subst hl
 exact Row.of_owns h
theorem Ext.alloc {a w:World} (h:Ext a w) (o:Obj):Ext a (w.alloc o):=Below.alloc h h.size o
theorem Ext.setCell {a w:World} (h:Ext a w) {p:Addr} (hp:a.heap.size<=p.block) (u:Value):Ext a (w.setCell p u):=Below.setCell h hp u

theorem zbt {P:Program} (w:World) (base:Nat) (t ty e:TypeId) (i:TypeInfo) (z:Value) (size bytes:Nat) (ht:P.underlying t=some (.slice e)) (hi:P.info? e=some i) (hz:i.zero=some z)
  (hsize:i.size=size) (hby:i.bytes=bytes) (hzs:z.cells.size=size) (hsz:0 < size)
  (v:Value) (n:Nat) (xs:List Value) (hown:w.ownsRow base e size v n xs) (u:Value) (m:Nat) (news:List Value) (hu:Row w size u m news) (h1:∀ u ∈ news,u.oneCell'=true)
  (hbytes:(n+m) * bytes<=140737488355328) (hpos:0 < bytes) (hbase:base<=w.heap.size) :
  ∃ v' w',(Builtin.append_ #[t,t] ty #[v,u]).run P w=.ok v' w'/\w'.ownsRow base e size v' (n+m) (xs++news)/\w.grownBy w' v.ownBlock:=by
 obtain ⟨hl,ao,cap,rfl,hc,hm,h0,hcell⟩:=hu
 have h63:n+m<=maxLen:=by
  have:n+m<=(n+m) * bytes:=Nat.le_mul_of_pos_right _ hpos
  unfold maxLen
  omega
 cases ao with
 | none =>
  have hcap:=h0 rfl
  subst hcap
  have hm0:m=0:=by omega
  subst hm0
  have:news=[]:=List.eq_nil_of_length_eq_zero (by simpa using hl)
  subst this
  exact ⟨v,w,run_append_owned_none w base t ty e i size ht hi v n xs hown,by simpa using hown,World.grownBy.refl _ _⟩
 | some ad =>
  obtain ⟨v',w',h1',h2',h3',_⟩:=run_append_own w base t ty e i z size bytes ht hi hz hsize hby hzs hsz v n xs hown ad m cap news hl (fun j u hj=>by
   obtain ⟨b,off,e',hc'⟩:=hcell j u hj
   simp only [Option.some.injEq] at e'
   subst e'
   rw [add_plain]; exact hc') h1 h63 hbytes hbase
  exact ⟨v',w',h1',h2',h3'⟩

theorem zav {P:Program} (w:World) {ops:Array Oper} {rest:List Oper} {o:Oper} {a:Act} {Q:Exit->Act->World->Prop} (hgd:o.guard=none) (s x:Operand) (t:TypeId)
  (ho:o.op=.call { callee:=.builtin .append,args:=#[s,x],argTypes:=#[t,t] })
  (base:Nat) (e:TypeId) (i:TypeInfo) (z:Value) (size bytes:Nat) (ht:P.underlying t=some (.slice e)) (hi:P.info? e=some i) (hz:i.zero=some z)
  (hsize:i.size=size) (hby:i.bytes=bytes) (hzs:z.cells.size=size) (hsz:0 < size)
  (v:Value) (n:Nat) (xs:List Value) (hs:a.eval s=v) (hown:w.ownsRow base e size v n xs) (u:Value) (hx:a.eval x=u) (m:Nat) (news:List Value) (hu:Row w size u m news) (h1:∀ u ∈ news,u.oneCell'=true)
  (hbytes:(n+m) * bytes<=140737488355328) (hpos:0 < bytes) (hbase:base<=w.heap.size)
  (h:∀ v' w',w'.ownsRow base e size v' (n+m) (xs++news)->w.grownBy w' v.ownBlock->wpList P ops Q rest (a.put o.dst v') w'):wpList P ops Q (o::rest) a w:=by
 refine wpList_plain hgd fun K hK=>?_
 obtain ⟨v',w',hrun,h2,h3⟩:=zbt (P:=P) w base t o.type e i z size bytes ht hi hz hsize hby hzs hsz v n xs hown u m news hu h1 hbytes hpos hbase
 unfold Oper.wp
 simp [execOp,ho,resolve,invoke,builtin,hs,hx,hrun,Result.andThen]
 exact hK _ _ (h v' w' h2 h3)

theorem zbJ (w:World):zan w (.slice none 0 0) []:=zar (World.ownsRow_nil w 0 0 2)
theorem zmw (w:World):zbo w (.slice none 0 0) []:=zdF (World.ownsRow_nil w 0 0 1)
theorem Row.take {w:World} {size n cap:Nat} {ao:Option Addr} {cs:List Value} (h:Row w size (.slice ao n cap) n cs) (k:Nat) (hk:k<=n):Row w size (.slice ao k cap) k (cs.take (k * size)):=by
 obtain ⟨h1,ao',cap',h2,h3,h4,h0,h5⟩:=h
 simp only [Value.slice.injEq,true_and] at h2
 obtain ⟨rfl,rfl⟩:=h2
 refine ⟨?_,ao,cap,rfl,by omega,h4,h0,fun j u hj=>?_⟩
 ·rw [List.length_take,h1]
  exact Nat.min_eq_left (Nat.mul_le_mul_right _ hk)
 ·rw [List.getElem?_take] at hj
  split at hj
  ·exact h5 j u hj
  ·cases hj
theorem zjR (l:List (Int×Int)) (k:Nat):(zat l).take (k * 2)=zat (l.take k):=by
 induction l generalizing k with
 | nil=>simp [zat]
 | cons p l ih =>
  cases k with
  | zero=>rfl
  | succ k =>
   rw [show (k+1) * 2=k * 2+2 by omega]
   show I p.1::I p.2::(zat l).take (k * 2)=_
   rw [ih]
   rfl
theorem zan.take {w:World} {cap:Nat} {ao:Option Addr} {l:List (Int×Int)} (h:zan w (.slice ao l.length cap) l) (k:Nat) (hk:k<=l.length):zan w (.slice ao k cap) (l.take k):=by
 have:=Row.take h k hk
 rw [zjR] at this
 unfold zan
 rw [List.length_take,Nat.min_eq_left hk]
 exact this

theorem zcf {w:World} (e:TypeId) (l:List (Int×Int)) (cs:Array Value) (n:Nat) (hc:cs.toList=zat l) (hn:l.length=n) (hm:n<=maxLen):zan (w.alloc (.cells cs e)) (.slice (some ⟨w.heap.size,0,none⟩) n n) l:=by
 subst hn
 have:=World.ownsRow_lit (base:=0) (e:=e) (size:=2) w cs l.length (Nat.zero_le _) hm (by rw [<- Array.length_toList,hc,zcG])
 rw [hc] at this
 exact zar this
theorem zmL {w:World} (e:TypeId) (l:List Int) (cs:Array Value) (n:Nat) (hc:cs.toList=l.map I) (hn:l.length=n) (hm:n<=maxLen):zbo (w.alloc (.cells cs e)) (.slice (some ⟨w.heap.size,0,none⟩) n n) l:=by
 subst hn
 have:=World.ownsRow_lit (base:=0) (e:=e) (size:=1) w cs l.length (Nat.zero_le _) hm (by rw [<- Array.length_toList,hc]; simp)
 rw [hc] at this
 exact zdF this

theorem Ext.grownBy {w w':World} (h:Ext w w') (row:Option Nat):w.grownBy w' row:=⟨h.os,h.tape,h.output,h.size,fun k hk _=>h.block k hk⟩
theorem zaw {w w':World} {base e size n:Nat} {v:Value} {xs:List Value} (h:w.ownsRow base e size v n xs) (he:Ext w w'):w'.ownsRow base e size v n xs :=
 h.kept (he.grownBy none) (by cases hv:v.ownBlock with | none=>exact .inl rfl | some k=>exact .inr (by simp))
theorem zbj {a b c:World} {row:Option Nat} (h:a.grownBy b row) (k:b.grownBy c row):a.grownBy c row :=
 ⟨k.os.trans h.os,k.tape.trans h.tape,k.output.trans h.output,Nat.le_trans h.size k.size,fun i hi hne=>(k.block i (Nat.lt_of_lt_of_le hi h.size) hne).trans (h.block i hi hne)⟩
theorem zkE {a b:World} {row:Option Nat} (h:a.grownBy b row):a.grownBy b.drew row:=⟨h.os,h.tape,h.output,h.size,h.block⟩

theorem Calls.same {P:Program} {f:FuncId} {args:Array Value} {w:World} {v:Value} {Q:Ending->World->Prop} (h:Calls P f args w fun e w'=>e=.returned v/\w'=w) (k:Q (.returned v) w):Calls P f args w Q :=
 h.mono fun e w' ⟨he,hw⟩=>by rw [he,hw]; exact k
theorem Calls.drawn {P:Program} {f:FuncId} {args:Array Value} {w:World} {v:Value} {Q:Ending->World->Prop} (h:Calls P f args w fun e w'=>e=.returned v/\∃ n,w'=w.drewN n) (k:∀ n,Q (.returned v) (w.drewN n)):Calls P f args w Q :=
 h.mono fun e w' ⟨he,n,hw⟩=>by rw [he,hw]; exact k n

def zba (P:Program) (f:FuncId) (args:Array Value) (w:World) (T:Value->World->Prop):Prop:=Calls P f args w fun e w'=>∃ r,e=.returned r/\Ext w w'/\T r w'
theorem zba.to {P:Program} {f:FuncId} {args:Array Value} {w:World} {T:Value->World->Prop} {Q:Ending->World->Prop} (h:zba P f args w T) (k:∀ r w',Ext w w'->T r w'->Q (.returned r) w'):Calls P f args w Q :=
 Calls.mono h fun e w' ⟨r,he,hx,ht⟩=>by rw [he]; exact k r w' hx ht
theorem zba.mono {P:Program} {f:FuncId} {args:Array Value} {w:World} {T T':Value->World->Prop} (h:zba P f args w T) (k:∀ r w',Ext w w'->T r w'->T' r w'):zba P f args w T' :=
 Calls.mono h fun _ w' ⟨r,he,hx,ht⟩=>⟨r,he,hx,k r w' hx ht⟩
theorem zhy {P:Program} {f:FuncId} {args:Array Value} {w:World} {v:Value} (h:Calls P f args w fun e w'=>e=.returned v/\w'=w):zba P f args w (fun r _=>r=v) :=
 Calls.mono h fun _ w' ⟨he,hw⟩=>⟨v,he,by rw [hw]; exact Ext.refl _,rfl⟩
theorem zgG {P:Program} {f:FuncId} {args:Array Value} {w:World} {v:Value} (h:Calls P f args w fun e w'=>e=.returned v/\∃ n,w'=w.drewN n):zba P f args w (fun r _=>r=v) :=
 Calls.mono h fun _ w' ⟨he,n,hw⟩=>⟨v,he,by rw [hw]; exact Ext.of_drewN _ _,rfl⟩

theorem zfG (l:List (Int×Int)):∀ v,zb7 (fun w=>zan w v l):=fun _ _ _ he h=>zan.ext h he
theorem zbA (base e size n:Nat) (cs:List Value):∀ v,zb7 (fun w=>w.ownsRow base e size v n cs):=fun _ _ _ he h=>zaw h he
abbrev zM:Array Value:=#[.slice none 0 0,.slice none 0 0,.slice none 0 0,.slice none 0 0,I 0,.slice none 0 0,.bool false,I 0,I 0,I 0,I 0,I 0,I 0,.slice none 0 0,I 0,I 0,.bool false,I 0,I 0,.slice none 0 0]
abbrev zS:Array Value:=#[I 0,.slice none 0 0,.bool false,I 0,I 0,I 0,I 0,I 0,I 0,.slice none 0 0,I 0,I 0]
abbrev zC:Array Value:=#[.slice none 0 0,I 0,.bool false,I 0,.slice none 0 0,.slice none 0 0]
abbrev zT4:Array Value:=#[.slice none 0 0,.slice none 0 0,.slice none 0 0,.slice none 0 0]
theorem zlt {w:World} {b:Nat} {x:Obj} (h:Hid (w.heap[b]?=some x)):b < w.heap.size:=(Array.getElem?_eq_some_iff.1 h.o).1
open Go Go.RowKit Go.ChangeShapes Go.WideShapes

theorem zlL {Y:Type} (n:Nat) {Q:Nat->Y->Prop} (h:∀ i,i < n->∃ y,Q i y):∃ l:List Y,l.length=n/\∀ i y,l[i]?=some y->Q i y:=by
 induction n with
 | zero=>exact ⟨[],rfl,fun i y hy=>by simp at hy⟩
 | succ n ih =>
  obtain ⟨l,hl,hq⟩:=ih (fun i hi=>h i (by omega))
  obtain ⟨y,hy⟩:=h n (by omega)
  refine ⟨l++[y],by simp [hl],fun i z hz=>?_⟩
  by_cases hi:i < l.length
  ·rw [List.getElem?_append_left hi] at hz
   exact hq i z hz
  ·rw [List.getElem?_append_right (by omega)] at hz
   have:i - l.length=0:=by
    have:=(List.getElem?_eq_some_iff.1 hz).1
    simp at this
    omega
   rw [this] at hz
   simp at hz
   subst hz
   rw [show i=n by omega]
   exact hy

theorem zfL {Y:Type} (sz:Nat) (hsz:0 < sz):∀ (css:List (List Y)),(∀ c ∈ css,c.length=sz)->∀ j,css.flatten[j]?=(css[j / sz]?).bind (fun c=>c[j % sz]?)
 | [],_,j=>by simp
 | c::css,h,j=>by
  have hc:c.length=sz:=h c (by simp)
  rw [List.flatten_cons]
  by_cases hj:j < sz
  ·rw [List.getElem?_append_left (by omega),Nat.div_eq_of_lt hj,Nat.mod_eq_of_lt hj]
   rfl
  ·rw [List.getElem?_append_right (by omega),zfL sz hsz css (fun c hc=>h c (by simp [hc])),hc]
   obtain ⟨k,rfl⟩:∃ k,j=k+sz:=⟨j - sz,by omega⟩
   rw [Nat.add_sub_cancel,Nat.add_div_right _ hsz,Nat.add_mod_right]
   rfl
theorem zd1 {Y:Type} (sz:Nat):∀ (css:List (List Y)),(∀ c ∈ css,c.length=sz)->css.flatten.length=css.length * sz
 | [],_=>by simp
 | c::css,h=>by
  rw [List.flatten_cons,List.length_append,zd1 sz css (fun c hc=>h c (by simp [hc])),h c (by simp),List.length_cons,Nat.add_mul]
  omega

section
variable {P:Program} {H:Type} {enc:TypeId×Value->H} {W:World} {X:Type}

theorem zcl {w:World} {base:Nat} {a:Addr} {n:Nat} {cs:List Value} (h:w.cells? base a n=some cs):cs.length=n/\∀ i u,cs[i]?=some u->w.cell? (a.add i)=some u:=by
 obtain ⟨_,h2,h3⟩:=World.cells?_some h
 refine ⟨h2,fun i u hu=>?_⟩
 have hi:i < n:=by have:=(List.getElem?_eq_some_iff.1 hu).1; omega
 rw [h3 i hi]
 exact hu

theorem znd (a:Addr) (i j:Nat) (h:a.spot=none):(a.add i).add j=⟨a.block,a.off+(i+j),none⟩:=by
 obtain ⟨b,off,spot⟩:=a
 simp only at h
 subst h
 rw [add_plain,add_plain,Nat.add_assoc]

theorem zhC {t e:TypeId} {sz:Nat} (hsz:0 < sz) {v:Value} {d:DataW H} {p:List MemPlace} (R:List Value->X->Prop) (ht:P.underlying t=some (.slice e)) (hc:P.cellsOf e=sz)
  (hR:∀ fuel cs z,DataW.trod enc P W 0 (fun _=>true) true fuel e cs=some z->cs.length=sz->∃ x,R cs x)
  {cs0:List Value} {fuel:Nat} (hcs0:cs0=[v]) (hf:DataW.trod enc P W 0 (fun _=>true) true fuel t cs0=some (d,p)) :
  ∃ (xs:List X) (css:List (List Value)),Row W sz v xs.length css.flatten/\css.length=xs.length/\(∀ (i:Nat) c x,css[i]?=some c->xs[i]?=some x->c.length=sz/\R c x) /\
   (xs=[]∨∃ elems spare,d=.slice elems spare/\elems.length=xs.length):=by
 subst hcs0
 rcases DataW.trod_slice ht hf with ⟨hcs,hx⟩ | ⟨a,len,cap,elems,rest,n,_,hcs,hx,_,hl,hm,hlen,hel,_,_⟩
 ·simp at hcs
  subst hcs
  exact ⟨[],[],Row.of_owns (World.ownsRow_nil W 0 0 sz),rfl,fun i c x hi=>by simp at hi,.inl rfl⟩
 ·simp at hcs
  subst hcs
  simp only [Prod.mk.injEq] at hx
  obtain ⟨rfl,rfl⟩:=hx
  rw [hc] at hel
  obtain ⟨l,hll,hq⟩:=zlL (Y:=List Value×X) len (Q:=fun i y=>W.cells? 0 (a.add (i * sz)) sz=some y.1/\R y.1 y.2) (fun i hi=>by
   have h1:=hel i hi
   obtain ⟨z,hz⟩:∃ z,elems[i]?=some z:=⟨elems[i]'(by omega),by simp⟩
   rw [hz,Option.bind_eq_some_iff] at h1
   obtain ⟨cs,hcs,hz'⟩:=h1
   obtain ⟨x,hx⟩:=hR _ _ _ hz' (zcl hcs).1
   exact ⟨(cs,x),hcs,hx⟩)
  have hall:∀ c ∈ l.map (·.1),c.length=sz:=fun c hcm=>by
   obtain ⟨y,hy,rfl⟩:=List.mem_map.1 hcm
   obtain ⟨i,hi⟩:=List.mem_iff_getElem?.1 hy
   exact (zcl (hq i y hi).1).1
  refine ⟨l.map (·.2),l.map (·.1),⟨?_,some a,cap,by simp [hll],by simp [hll]; exact hl,hm,fun h=>(by cases h),fun j u hj=>?_⟩,by simp,fun i c x hi hx=>?_,.inr ⟨_,_,rfl,by simp [hll,hlen]⟩⟩
  ·rw [zd1 sz _ hall]; simp
  ·rw [zfL sz hsz _ hall,Option.bind_eq_some_iff] at hj
   obtain ⟨c,hci,hcj⟩:=hj
   rw [List.getElem?_map] at hci
   cases hy:l[j / sz]? with
   | none=>rw [hy] at hci; cases hci
   | some y =>
    rw [hy] at hci
    simp at hci
    subst hci
    have hcell:=(zcl (hq _ _ hy).1).2 _ _ hcj
    have hspot:a.spot=none:=by
     by_cases h0:j / sz * sz=0
     ·rw [h0] at hcell
      by_cases h1:j % sz=0
      ·rw [h1] at hcell
       have:=World.cell?_spot hcell
       simpa [Addr.add] using this
      ·have h2:=(zcl (hq _ _ hy).1).2 0
       have h3:0 < y.1.length:=by have:=(List.getElem?_eq_some_iff.1 hcj).1; omega
       have h4:=h2 _ (List.getElem?_eq_getElem h3)
       rw [h0] at h4
       have:=World.cell?_spot h4
       simpa [Addr.add] using this
     ·-- the first element's first cell
      have hl0:0 < l.length:=Nat.lt_of_le_of_lt (Nat.zero_le _) (List.getElem?_eq_some_iff.1 hy).1
      have h5:=hq 0 _ (List.getElem?_eq_getElem hl0)
      have h6:=zcl h5.1
      have h7:=h6.2 0 _ (List.getElem?_eq_getElem (by omega))
      have:=World.cell?_spot h7
      simpa [Addr.add] using this
    rw [znd a _ _ hspot,Nat.div_add_mod' j sz] at hcell
    obtain ⟨b,off,spot⟩:=a
    simp only at hspot
    subst hspot
    exact ⟨b,off,rfl,hcell⟩
  ·rw [List.getElem?_map] at hi hx
   cases hy:l[i]? with
   | none=>rw [hy] at hi; cases hi
   | some y =>
    rw [hy] at hi hx
    simp at hi hx
    subst hi hx
    exact ⟨(zcl (hq _ _ hy).1).1,(hq _ _ hy).2⟩

theorem ziI {f:X->List Value}:∀ {css:List (List Value)} {xs:List X},css.length=xs.length->(∀ (i:Nat) c x,css[i]?=some c->xs[i]?=some x->c=f x)->css.flatten=xs.flatMap f
 | [],[],_,_=>rfl
 | [],_::_,h,_=>by cases h
 | _::_,[],h,_=>by cases h
 | c::css,x::xs,h,hq=>by
  rw [List.flatten_cons,List.flatMap_cons,hq 0 c x rfl rfl,ziI (by simpa using h) (fun i c x hc hx=>hq (i+1) c x hc hx)]

theorem zlW {e:TypeId} {f0 f1:Field} {fuel:Nat} {cs:List Value} {z:DataW H×List MemPlace} (he:P.underlying e=some (.struct #[f0,f1])) (hc:P.cellsOf e=2)
  (h0:P.underlying f0.type=some (.int .i64)) (h1:P.underlying f1.type=some (.int .i64)) (o0:f0.offset=0) (o1:f1.offset=1) (c0:P.cellsOf f0.type=1) (c1:P.cellsOf f1.type=1)
  (hz:DataW.trod enc P W 0 (fun _=>true) true fuel e cs=some z):∃ x:Int×Int,cs=[I x.1,I x.2]:=by
 obtain ⟨y0,y1,m,hx,hcl,t0,t1⟩:=trod_struct2 he hz
 rw [hc] at hcl
 obtain ⟨u0,u1,rfl⟩:∃ u0 u1,cs=[u0,u1]:=by
  match cs,hcl with
  | [u0,u1],_=>exact ⟨u0,u1,rfl⟩
 rw [o0,c0] at t0
 rw [o1,c1] at t1
 obtain ⟨x,e0,_⟩:=DataW.trod_int h0 t0
 obtain ⟨y,e1,_⟩:=DataW.trod_int h1 t1
 simp at e0 e1
 exact ⟨(x,y),by rw [e0,e1]⟩

theorem ze9 {t e:TypeId} {f0 f1:Field} {v:Value} {d:DataW H} {p:List MemPlace} (ht:P.underlying t=some (.slice e)) (he:P.underlying e=some (.struct #[f0,f1])) (hc:P.cellsOf e=2)
  (h0:P.underlying f0.type=some (.int .i64)) (h1:P.underlying f1.type=some (.int .i64)) (o0:f0.offset=0) (o1:f1.offset=1) (c0:P.cellsOf f0.type=1) (c1:P.cellsOf f1.type=1)
  {b0:Nat} (hv:Value.okWide P W .any b0 t v) (h:DataW.Trod enc P W 0 (fun _=>true) true t v d p) :
  ∃ l:List (Int×Int),zan W v l/\(l=[]∨∃ elems spare,d=.slice elems spare/\elems.length=l.length):=by
 obtain ⟨a0,len,cap,rfl⟩:=okWide_slice ht hv
 obtain ⟨fuel,hf⟩:=h
 obtain ⟨xs,css,hr,hl,hq,hs⟩:=zhC (X:=Int×Int) (by decide) (fun cs x=>cs=[I x.1,I x.2]) ht hc (fun fuel cs z hz _=>zlW he hc h0 h1 o0 o1 c0 c1 hz) rfl hf
 refine ⟨xs,?_,hs⟩
 rw [ziI (f:=fun x=>[I x.1,I x.2]) hl (fun i c x hc hx=>(hq i c x hc hx).2)] at hr
 exact hr

end
open Go Go.RowKit

structure Cl where
 kind:Int
 name:Int
 other:Int
 n:Int
structure Rp where
 err:Int
 n:Int
structure Rq where
 client:Int
 token:Int
 call:Cl
abbrev Cl.val (c:Cl):Value:=.agg #[I c.kind,I c.name,I c.other,I c.n]
abbrev Rp.val (r:Rp):Value:=.agg #[I r.err,I r.n]

def wrongCl (c:Cl):Int :=
 if ¬ (1<=c.kind/\c.kind<=6) then 1
 else if c.kind=5/\c.name≠0∨c.kind≠5/\¬ (1<=c.name/\c.name<=255) then 7
 else if c.kind=6/\¬ (1<=c.other/\c.other<=255)∨c.kind≠6/\c.other≠0 then 7
 else if (c.kind=1∨c.kind=4)/\¬ (-1073741824<=c.n/\c.n<=1073741824)∨¬ (c.kind=1∨c.kind=4)/\c.n≠0 then 3
 else 0

def at1 (l:List (Int×Int)) (name:Int):Nat:=l.findIdx (fun p=>p.1 == name)
def num (l:List (Int×Int)) (i:Nat):Int:=(l.getD i (0,0)).2
def zch (l:List (Int×Int)) (i:Nat) (n:Int):List (Int×Int):=l.set i ((l.getD i (0,0)).1,n)

def za5 (l:List (Int×Int)) (c:Cl):List (Int×Int)×Rp :=
 if c.kind=5 then (l,⟨0,l.length⟩)
 else if c.kind=1 then
  if at1 l c.name < l.length then (zch l (at1 l c.name) c.n,⟨0,num l (at1 l c.name)⟩)
  else if 5<=l.length then (l,⟨9,0⟩) else (l++[(c.name,c.n)],⟨0,0⟩)
 else if ¬ at1 l c.name < l.length then (l,⟨6,0⟩)
 else if c.kind=2 then (l,⟨0,num l (at1 l c.name)⟩)
 else if c.kind=3 then ((l.set (at1 l c.name) (l.getD (l.length - 1) (0,0))).take (l.length - 1),⟨0,num l (at1 l c.name)⟩)
 else if c.kind=4 then
  if ¬ (-1073741824<=num l (at1 l c.name)+c.n/\num l (at1 l c.name)+c.n<=1073741824) then (l,⟨3,0⟩)
  else (zch l (at1 l c.name) (num l (at1 l c.name)+c.n),⟨0,num l (at1 l c.name)+c.n⟩)
 else if ¬ at1 l c.other < l.length then (l,⟨6,0⟩)
 else (zch (zch l (at1 l c.name) (num l (at1 l c.other))) (at1 l c.other) (num l (at1 l c.name)),⟨0,num l (at1 l c.other)⟩)

def Okn (l:List (Int×Int)):Prop:=l.length<=5/\(∀ p ∈ l,1<=p.1/\p.1<=255/\-1073741824<=p.2/\p.2<=1073741824)/\(l.map Prod.fst).Nodup

def Okw (l:List (Int×Int)):Prop:=l.length<=5/\∀ p ∈ l,0<=p.1/\p.1<=255/\-1073741824<=p.2/\p.2<=1073741824
theorem Okn.w {l:List (Int×Int)} (h:Okn l):Okw l:=⟨h.1,fun p hp=>by have:=h.2.1 p hp; omega⟩
theorem Okw.len {l:List (Int×Int)} (h:Okw l):l.length<=5:=h.1
theorem Okw.at {l:List (Int×Int)} (h:Okw l) {i:Nat} (hi:i < l.length):0<=(l.getD i (0,0)).1/\(l.getD i (0,0)).1<=255/\-1073741824<=(l.getD i (0,0)).2/\(l.getD i (0,0)).2<=1073741824:=by
 rw [List.getD_eq_getElem?_getD,List.getElem?_eq_getElem hi]
 exact h.2 _ (List.getElem_mem hi)

theorem zg7 (l:List (Int×Int)) (name:Int):at1 l name<=l.length:=List.findIdx_le_length
theorem zcq {l:List (Int×Int)} {name:Int} (h:at1 l name < l.length):(l.getD (at1 l name) (0,0)).1=name:=by
 have:=List.findIdx_getElem (w:=h)
 rw [List.getD_eq_getElem?_getD,List.getElem?_eq_getElem h]
 exact eq_of_beq this
theorem zhz {l:List (Int×Int)} {name:Int} {k:Nat} (hk:k < l.length) (h:(l.getD k (0,0)).1=name) (hb:∀ j,j < k->(l.getD j (0,0)).1≠name):at1 l name=k:=by
 unfold at1
 rw [List.findIdx_eq hk]
 refine ⟨by simpa [List.getD_eq_getElem?_getD,hk] using h,fun j hj=>?_⟩
 have:=hb j hj
 simpa [List.getD_eq_getElem?_getD,Nat.lt_trans hj hk] using this
theorem zeX {l:List (Int×Int)} {name:Int} (hb:∀ j,j < l.length->(l.getD j (0,0)).1≠name):at1 l name=l.length:=by
 unfold at1
 rw [List.findIdx_eq_length]
 intro p hp
 obtain ⟨j,hj,rfl⟩:=List.mem_iff_getElem.1 hp
 have:=hb j hj
 simpa [List.getD_eq_getElem?_getD,hj] using this
theorem zcP {l:List (Int×Int)} {name:Int} {j:Nat} (h:j < at1 l name):(l.getD j (0,0)).1≠name:=by
 have hl:j < l.length:=Nat.lt_of_lt_of_le h (zg7 l name)
 have:=List.not_of_lt_findIdx h
 simpa [List.getD_eq_getElem?_getD,hl] using this

theorem Okn.len {l:List (Int×Int)} (h:Okn l):l.length<=5:=h.1
theorem Okn.at {l:List (Int×Int)} (h:Okn l) {i:Nat} (hi:i < l.length):1<=(l.getD i (0,0)).1/\(l.getD i (0,0)).1<=255/\-1073741824<=(l.getD i (0,0)).2/\(l.getD i (0,0)).2<=1073741824:=by
 rw [List.getD_eq_getElem?_getD,List.getElem?_eq_getElem hi]
 exact h.2.1 _ (List.getElem_mem hi)
theorem Okn.uni {l:List (Int×Int)} (h:Okn l) {i j:Nat} (hi:i < l.length) (hj:j < l.length) (e:(l.getD i (0,0)).1=(l.getD j (0,0)).1):i=j:=by
 have h2:=h.2.2
 rw [List.nodup_iff_pairwise_ne,List.pairwise_iff_getElem] at h2
 rw [List.getD_eq_getElem?_getD,List.getElem?_eq_getElem hi,List.getD_eq_getElem?_getD,List.getElem?_eq_getElem hj] at e
 rcases Nat.lt_trichotomy i j with hlt | heq | hgt
 ·exact absurd (by rw [List.getElem_map,List.getElem_map]; exact e) (h2 i j (by simpa using hi) (by simpa using hj) hlt)
 ·exact heq
 ·exact absurd (by rw [List.getElem_map,List.getElem_map]; exact e.symm) (h2 j i (by simpa using hj) (by simpa using hi) hgt)
theorem zhb {l:List (Int×Int)} (h1:l.length<=5) (h2:∀ i,i < l.length->1<=(l.getD i (0,0)).1/\(l.getD i (0,0)).1<=255/\-1073741824<=(l.getD i (0,0)).2/\(l.getD i (0,0)).2<=1073741824)
  (h3:∀ i j,i < j->j < l.length->(l.getD i (0,0)).1≠(l.getD j (0,0)).1):Okn l:=by
 refine ⟨h1,fun p hp=>?_,?_⟩
 ·obtain ⟨i,hi,rfl⟩:=List.mem_iff_getElem.1 hp
  have:=h2 i hi
  rwa [List.getD_eq_getElem?_getD,List.getElem?_eq_getElem hi] at this
 ·rw [List.nodup_iff_pairwise_ne,List.pairwise_iff_getElem]
  intro i j hi hj hij
  have:=h3 i j hij (by simpa using hj)
  rw [List.length_map] at hi hj
  rw [List.getD_eq_getElem?_getD,List.getElem?_eq_getElem hi,List.getD_eq_getElem?_getD,List.getElem?_eq_getElem hj] at this
  simpa using this

theorem zaH (l:List (Int×Int)) (i:Nat) (n:Int):(zch l i n).length=l.length:=by simp [zch]
theorem zgk (l:List (Int×Int)) (i j:Nat) (n:Int) (hi:i < l.length):(zch l i n).getD j (0,0)=if i=j then ((l.getD j (0,0)).1,n) else l.getD j (0,0):=by
 unfold zch
 rw [List.getD_eq_getElem?_getD,List.getElem?_set]
 by_cases h:i=j
 ·subst h; rw [if_pos rfl,if_pos hi,if_pos rfl]; rfl
 ·rw [if_neg h,if_neg h,List.getD_eq_getElem?_getD]
theorem zcE (l:List (Int×Int)) (i j:Nat) (n:Int) (hi:i < l.length):((zch l i n).getD j (0,0)).1=(l.getD j (0,0)).1:=by
 rw [zgk l i j n hi]; split <;> rfl
theorem zeu (l:List (Int×Int)) (i j:Nat) (n:Int) (hi:i < l.length):((zch l i n).getD j (0,0)).2=if i=j then n else (l.getD j (0,0)).2:=by
 rw [zgk l i j n hi]; split <;> rfl
theorem zjT (l:List (Int×Int)) (i j:Nat) (n:Int) (hi:i < l.length):num (zch l i n) j=if i=j then n else num l j:=zeu l i j n hi
theorem zfW {l m:List (Int×Int)} (h:l.length=m.length) (hj:∀ j,j < l.length->l.getD j (0,0)=m.getD j (0,0)):l=m:=by
 refine List.ext_getElem h fun i h1 h2=>?_
 have:=hj i h1
 rwa [List.getD_eq_getElem?_getD,List.getElem?_eq_getElem h1,List.getD_eq_getElem?_getD,List.getElem?_eq_getElem h2] at this
theorem ze2 {l:List (Int×Int)} (h:Okn l) {i:Nat} (hi:i < l.length) {n:Int} (h1:-1073741824<=n) (h2:n<=1073741824):Okn (zch l i n):=by
 refine zhb (by rw [zaH]; exact h.1) (fun j hj=>?_) (fun j k hjk hk=>?_)
 ·rw [zaH] at hj
  rw [zcE l i j n hi,zeu l i j n hi]
  have:=h.at hj
  split <;> omega
 ·rw [zaH] at hk
  rw [zcE l i j n hi,zcE l i k n hi]
  intro e
  have:=h.uni (by omega) hk e
  omega
theorem zjx (l:List (Int×Int)) (i:Nat) (n:Int) (hi:i < l.length) (name:Int):at1 (zch l i n) name=at1 l name:=by
 by_cases h:at1 l name < l.length
 ·refine zhz (by rw [zaH]; exact h) (by rw [zcE _ _ _ _ hi]; exact zcq h) (fun j hj=>by rw [zcE _ _ _ _ hi]; exact zcP hj)
 ·have e:at1 l name=l.length:=by have:=zg7 l name; omega
  rw [e,<- zaH l i n]
  exact zeX (fun j hj=>by rw [zcE _ _ _ _ hi]; rw [zaH] at hj; exact zcP (by omega))

theorem zc4 (l:List (Int×Int)) (i j:Nat) (hi:i < l.length) (hj:j < l.length - 1):((l.set i (l.getD (l.length - 1) (0,0))).take (l.length - 1)).getD j (0,0)=if i=j then l.getD (l.length - 1) (0,0) else l.getD j (0,0):=by
 rw [List.getD_eq_getElem?_getD,List.getElem?_take,if_pos hj,List.getElem?_set]
 by_cases h:i=j
 ·rw [if_pos h,if_pos hi,if_pos h]; rfl
 ·rw [if_neg h,if_neg h,<- List.getD_eq_getElem?_getD]
theorem zcs (l:List (Int×Int)) (i:Nat) (p:Int×Int):((l.set i p).take (l.length - 1)).length=l.length - 1:=by simp

theorem ziu {l:List (Int×Int)} {c:Cl} (h:Okn l) (hc:wrongCl c=0):Okn (za5 l c).1/\((za5 l c).2.err=0∨(za5 l c).2.n=0/\(za5 l c).1=l)/\-1073741824<=(za5 l c).2.n/\(za5 l c).2.n<=1073741824:=by
 have hl:=h.len
 have hnum:∀ i,i < l.length->-1073741824<=num l i/\num l i<=1073741824:=fun i hi=>(h.at hi).2.2
 unfold wrongCl at hc
 by_cases k1:1<=c.kind/\c.kind<=6
 case neg=>rw [if_pos k1] at hc; cases hc
 rw [if_neg (by simpa using k1)] at hc
 split at hc
 ·cases hc
 rename_i hn
 split at hc
 ·cases hc
 rename_i ho
 split at hc
 ·cases hc
 rename_i hm
 unfold za5
 by_cases h5:c.kind=5
 ·rw [if_pos h5]
  exact ⟨h,.inl rfl,by simp only; omega,by simp only; omega⟩
 rw [if_neg h5]
 by_cases h1:c.kind=1
 ·rw [if_pos h1]
  by_cases ha:at1 l c.name < l.length
  ·rw [if_pos ha]
   exact ⟨ze2 h ha (by omega) (by omega),.inl rfl,(hnum _ ha).1,(hnum _ ha).2⟩
  ·rw [if_neg ha]
   by_cases hf:5<=l.length
   ·rw [if_pos hf]
    exact ⟨h,.inr ⟨rfl,rfl⟩,by simp only; omega,by simp only; omega⟩
   ·rw [if_neg hf]
    have e:at1 l c.name=l.length:=by have:=zg7 l c.name; omega
    refine ⟨zhb (by simp; omega) (fun j hj=>?_) (fun j k hjk hk=>?_),.inl rfl,by simp only; omega,by simp only; omega⟩
    ·simp only [List.length_append,List.length_cons,List.length_nil] at hj
     by_cases hj':j < l.length
     ·rw [List.getD_eq_getElem?_getD,List.getElem?_append_left hj',<- List.getD_eq_getElem?_getD]
      exact h.at hj'
     ·rw [List.getD_eq_getElem?_getD,List.getElem?_append_right (by omega),show j - l.length=0 by omega]
      show 1<=c.name/\c.name<=255/\-1073741824<=c.n/\c.n<=1073741824
      omega
    ·simp only [List.length_append,List.length_cons,List.length_nil] at hk
     rw [List.getD_eq_getElem?_getD,List.getElem?_append_left (by omega),<- List.getD_eq_getElem?_getD]
     by_cases hk':k < l.length
     ·rw [List.getD_eq_getElem?_getD (i:=k),List.getElem?_append_left hk',<- List.getD_eq_getElem?_getD]
      intro he
      have:=h.uni (by omega) hk' he
      omega
     ·rw [List.getD_eq_getElem?_getD (i:=k),List.getElem?_append_right (by omega),show k - l.length=0 by omega]
      exact zcP (name:=c.name) (by omega)
 rw [if_neg h1]
 by_cases ha:at1 l c.name < l.length
 case neg=>rw [if_pos ha]; exact ⟨h,.inr ⟨rfl,rfl⟩,by simp only; omega,by simp only; omega⟩
 rw [if_neg (by simpa using ha)]
 by_cases h2:c.kind=2
 ·rw [if_pos h2]; exact ⟨h,.inl rfl,(hnum _ ha).1,(hnum _ ha).2⟩
 rw [if_neg h2]
 by_cases h3:c.kind=3
 ·rw [if_pos h3]
  refine ⟨zhb (by rw [zcs]; omega) (fun j hj=>?_) (fun j k hjk hk=>?_),.inl rfl,(hnum _ ha).1,(hnum _ ha).2⟩
  ·rw [zcs] at hj
   rw [zc4 l _ j ha hj]
   split
   ·exact h.at (by omega)
   ·exact h.at (by omega)
  ·rw [zcs] at hk
   rw [zc4 l _ j ha (by omega),zc4 l _ k ha hk]
   intro he
   by_cases ej:at1 l c.name=j
   ·rw [if_pos ej,if_neg (by omega)] at he
    have:=h.uni (by omega) (by omega) he
    omega
   ·rw [if_neg ej] at he
    by_cases ek:at1 l c.name=k
    ·rw [if_pos ek] at he
     have:=h.uni (by omega) (by omega) he
     omega
    ·rw [if_neg ek] at he
     have:=h.uni (by omega) (by omega) he
     omega
 rw [if_neg h3]
 by_cases h4:c.kind=4
 ·rw [if_pos h4]
  by_cases hs:-1073741824<=num l (at1 l c.name)+c.n/\num l (at1 l c.name)+c.n<=1073741824
  ·rw [if_neg (by simpa using hs)]
   exact ⟨ze2 h ha hs.1 hs.2,.inl rfl,hs.1,hs.2⟩
  ·rw [if_pos hs]; exact ⟨h,.inr ⟨rfl,rfl⟩,by simp only; omega,by simp only; omega⟩
 rw [if_neg h4]
 by_cases hb:at1 l c.other < l.length
 case neg=>rw [if_pos hb]; exact ⟨h,.inr ⟨rfl,rfl⟩,by simp only; omega,by simp only; omega⟩
 rw [if_neg (by simpa using hb)]
 exact ⟨ze2 (ze2 h ha (hnum _ hb).1 (hnum _ hb).2) (by rw [zaH]; exact hb) (hnum _ ha).1 (hnum _ ha).2,.inl rfl,(hnum _ hb).1,(hnum _ hb).2⟩

end Go.Mk

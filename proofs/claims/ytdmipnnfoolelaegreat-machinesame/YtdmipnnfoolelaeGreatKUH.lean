/- Texts of the proof, merged: Math21 Math22 Math23 Math26 Mem11 Math28 Math14 Math15 Math16 Math17. -/
import Derived.Test.YtdmipnnfoolelaeGreatKUG
import Derived.Test.YtdmipnnfoolelaeGreatKUD
import Derived.Test.YtdmipnnfoolelaeGreatKUF

namespace Go.Mk
open Go Go.RowKit

structure SizeM (m:Mc) (k:Nat):Prop where
 undo:m.store.undo.length<=k
 answers:m.store.answers.length<=k
 past:m.store.past.length<=k
 box:m.server.box.length<=k
 each:∀ c ∈ m.clients,c.got.length<=k/\c.box.length<=k

theorem SizeM.mono {m:Mc} {k j:Nat} (h:SizeM m k) (hk:k<=j):SizeM m j :=
 ⟨Nat.le_trans h.undo hk,Nat.le_trans h.answers hk,Nat.le_trans h.past hk,Nat.le_trans h.box hk,fun c hc=>⟨Nat.le_trans (h.each c hc).1 hk,Nat.le_trans (h.each c hc).2 hk⟩⟩
theorem zjM (l:List (List Cl)):SizeM (zba l) 0:=⟨Nat.le_refl _,Nat.le_refl _,Nat.le_refl _,Nat.le_refl _,fun c hc=>by
 have hc':c ∈ l.map zbV:=hc
 obtain ⟨x,_,rfl⟩:=List.mem_map.1 hc'
 exact ⟨Nat.le_refl _,Nat.le_refl _⟩⟩

theorem znh (s:St) (p:Int×Int):(zas s p).undo.length<=s.undo.length+1/\(zas s p).answers=s.answers/\(zas s p).past=s.past:=by
 unfold zas
 split
 ·exact ⟨by simp,rfl,rfl⟩
 ·exact ⟨by omega,rfl,rfl⟩

theorem zmZ {s:St} {v:Sv} {k:Nat} (h1:s.undo.length<=k) (h2:s.answers.length<=k) (h3:s.past.length<=k) (h4:v.box.length<=k) :
  (zaE s v).1.undo.length<=k+1/\(zaE s v).1.answers.length<=k+1/\(zaE s v).1.past.length<=k+1/\(zaE s v).2.1.box.length<=k:=by
 unfold zaE
 split
 ·split
  ·rename_i p l _
   obtain ⟨w1,w2,w3⟩:=znh s p
   refine ⟨by simp only []; omega,by simp only [w2]; omega,by simp only [w3]; omega,h4⟩
  ·have:=zkY s.answers ⟨v.now.client,v.now.token,v.says⟩
   refine ⟨by simp [zb2],by simp only [zb2]; omega,by simp only [zb2,List.length_append,List.length_cons,List.length_nil]; omega,h4⟩
 ·split
  ·exact ⟨by simp only []; omega,by simp only []; omega,by simp only []; omega,h4⟩
  ·rename_i b l hb
   rw [hb] at h4
   have h5:l.length<=k:=by simp only [List.length_cons] at h4; omega
   dsimp only
   repeat' split
   all_goals exact ⟨by simp only []; omega,by simp only []; omega,by simp only []; omega,h5⟩

theorem zqj {c:Cn} {k:Nat} (me gen:Int) (up:Bool) (h1:c.got.length<=k) (h2:c.box.length<=k):(zcM c me gen up).1.got.length<=k+1/\(zcM c me gen up).1.box.length<=k+1:=by
 unfold zcM
 split
 ·rename_i b l hb
  rw [hb] at h2
  have h5:l.length<=k:=by simp only [List.length_cons] at h2; omega
  dsimp only
  split
  ·exact ⟨by simp only [List.length_append,List.length_cons,List.length_nil]; omega,by simp only []; omega⟩
  ·exact ⟨by simp only []; omega,by simp only []; omega⟩
 ·repeat' split
  all_goals exact ⟨by simp only []; omega,by simp only []; omega⟩

theorem zoD (v:Sv) (b:List UInt8) {k:Nat} (h:v.box.length<=k):(zcl v b).1.box.length<=k+1:=by
 unfold zcl
 split
 ·simp only []; omega
 ·simp only [List.length_append,List.length_cons,List.length_nil]; omega
theorem znX (c:Cn) (b:List UInt8) {k:Nat} (h1:c.got.length<=k) (h2:c.box.length<=k):(zcu c b).got.length<=k+1/\(zcu c b).box.length<=k+1:=by
 unfold zcu
 split
 ·exact ⟨by simp only []; omega,by simp only [List.length_append,List.length_cons,List.length_nil]; omega⟩
 ·omega
theorem zjd {cl:List Cn} {k:Nat} (h:∀ c ∈ cl,c.got.length<=k/\c.box.length<=k) (i:Nat) {x:Cn} (hx:x.got.length<=k+1/\x.box.length<=k+1):∀ c ∈ cl.set i x,c.got.length<=k+1/\c.box.length<=k+1:=fun c hc=>by
 rcases List.mem_or_eq_of_mem_set hc with h1 | rfl
 ·have:=h c h1; omega
 ·exact hx
theorem zl7 {cl:List Cn} {k:Nat} (h:∀ c ∈ cl,c.got.length<=k/\c.box.length<=k) (i:Nat):(cl.getD i (zbV [])).got.length<=k/\(cl.getD i (zbV [])).box.length<=k:=by
 by_cases hi:i < cl.length
 ·exact h _ (zjx hi)
 ·rw [List.getD_eq_getElem?_getD,List.getElem?_eq_none (by omega)]
  exact ⟨Nat.zero_le _,Nat.zero_le _⟩

theorem znv {m:Mc} {k:Nat} (h:SizeM m k) (kind n:Int):SizeM (doM m kind n).1 (k+1):=by
 have hm:=h.mono (Nat.le_succ k)
 unfold doM
 split
 ·split
  ·exact hm
  ·dsimp only
   have hg:=zl7 h.each n.toNat
   have hgo:=zqj n m.server.gen m.up hg.1 hg.2
   split
   ·exact hm
   ·split
    ·split
     ·exact hm
     ·exact ⟨hm.undo,hm.answers,hm.past,zoD _ _ h.box,zjd h.each _ hgo⟩
    ·exact ⟨hm.undo,hm.answers,hm.past,hm.box,zjd h.each _ hgo⟩
 ·split
  ·split
   ·exact hm
   ·dsimp only
    obtain ⟨s1,s2,s3,s4⟩:=zmZ h.undo h.answers h.past h.box
    split
    ·exact hm
    ·split
     ·split
      ·have hg:=zl7 h.each ((zaE m.store m.server).2.2.1.getD 1 0).toNat
       exact ⟨s1,s2,s3,Nat.le_succ_of_le s4,zjd h.each _ (znX _ _ hg.1 hg.2)⟩
      ·exact ⟨s1,s2,s3,Nat.le_succ_of_le s4,hm.each⟩
     ·exact ⟨s1,s2,s3,Nat.le_succ_of_le s4,hm.each⟩
  ·split
   ·unfold zdG
    split
    ·exact hm
    ·split
     ·exact hm
     ·exact ⟨hm.undo,hm.answers,hm.past,Nat.zero_le _,hm.each⟩
   ·split
    ·unfold zdS
     split
     ·exact hm
     ·split
      ·exact ⟨hm.undo,hm.answers,hm.past,hm.box,hm.each⟩
      ·exact ⟨Nat.zero_le _,hm.answers,hm.past,Nat.zero_le _,hm.each⟩
    ·exact hm
open Go Go.RowKit

theorem zkA {m:Mc} {k:Nat} (h:SizeM m k):∀ steps:List (Int×Int),SizeM (zd3 m steps) (k+steps.length):=fun steps=>by
 unfold zd3
 induction steps generalizing m k with
 | nil=>exact h
 | cons p l ih =>
  have:=ih (znv h p.1 p.2)
  rw [List.length_cons,show k+(l.length+1)=k+1+l.length by omega]
  exact this

open Go Go.RowKit

open Go Go.RowKit

def zge:List Cl->Int
 | []=>0
 | x::l=>if wrongCl x≠0 then wrongCl x else zge l
def errL:List (List Cl)->Int
 | []=>0
 | c::l=>if 8 < c.length then 4 else if zge c≠0 then zge c else errL l
def zf8 (l:List (List Cl)):Int:=if 3 < l.length then 5 else errL l

theorem zh5:∀ {c:List Cl},(∀ y ∈ c,wrongCl y=0)->zge c=0
 | [],_=>rfl
 | x::l,h=>by
  unfold zge
  rw [if_neg (by simp [h x (by simp)])]
  exact zh5 fun y hy=>h y (by simp [hy])
theorem zkf:∀ {c:List Cl} {q:Nat} {y:Cl},(∀ (j:Nat) (z:Cl),j < q->c[j]?=some z->wrongCl z=0)->c[q]?=some y->wrongCl y≠0->zge c=wrongCl y
 | [],q,y,_,hy,_=>by simp at hy
 | x::l,0,y,_,hy,hw=>by
  simp at hy
  subst hy
  unfold zge
  rw [if_pos hw]
 | x::l,q+1,y,h,hy,hw=>by
  unfold zge
  rw [if_neg (by simp [h 0 x (by omega) rfl])]
  exact zkf (q:=q) (fun j z hj hz=>h (j+1) z (by omega) (by simpa using hz)) (by simpa using hy) hw
theorem znp:∀ {l:List (List Cl)},(∀ c ∈ l,c.length<=8/\∀ x ∈ c,wrongCl x=0)->errL l=0
 | [],_=>rfl
 | c::l,h=>by
  obtain ⟨h1,h2⟩:=h c (by simp)
  unfold errL
  rw [if_neg (by omega),if_neg (by simp [zh5 h2])]
  exact znp fun d hd=>h d (by simp [hd])
theorem zlq:∀ {l:List (List Cl)} {k:Nat} {x:List Cl},(∀ (j:Nat) (y:List Cl),j < k->l[j]?=some y->y.length<=8/\∀ z ∈ y,wrongCl z=0)->l[k]?=some x->errL l=errL (x::l.drop (k+1))
 | [],k,x,_,hx=>by simp at hx
 | c::l,0,x,_,hx=>by
  simp at hx
  subst hx
  rfl
 | c::l,k+1,x,h,hx=>by
  obtain ⟨h1,h2⟩:=h 0 c (by omega) rfl
  have ih:=zlq (l:=l) (k:=k) (x:=x) (fun j y hj hy=>h (j+1) y (by omega) (by simpa using hy)) (by simpa using hx)
  rw [errL,if_neg (by omega),if_neg (by simp [zh5 h2]),ih]
  rfl
theorem zj9 {l:List (List Cl)} (h:3 < l.length):zf8 l=5:=if_pos h
theorem zke {l:List (List Cl)} (h3:¬ 3 < l.length) {k:Nat} {x:List Cl} (h:∀ (j:Nat) (y:List Cl),j < k->l[j]?=some y->y.length<=8/\∀ z ∈ y,wrongCl z=0) (hx:l[k]?=some x) (h8:8 < x.length):zf8 l=4:=by
 unfold zf8
 rw [if_neg h3,zlq h hx,errL,if_pos h8]
theorem zkc {l:List (List Cl)} (h3:¬ 3 < l.length) {k q:Nat} {x:List Cl} {y:Cl} (h:∀ (j:Nat) (y:List Cl),j < k->l[j]?=some y->y.length<=8/\∀ z ∈ y,wrongCl z=0) (hx:l[k]?=some x) (h8:¬ 8 < x.length) (ha:∀ (j:Nat) (z:Cl),j < q->x[j]?=some z->wrongCl z=0) (hy:x[q]?=some y) (hw:wrongCl y≠0):zf8 l=wrongCl y:=by
 have hf:=zkf ha hy hw
 unfold zf8
 rw [if_neg h3,zlq h hx,errL,if_neg h8,if_pos (by rw [hf]; exact hw),hf]
theorem zfV {l:List (List Cl)} (h:zbD l):zf8 l=0:=by
 unfold zf8
 rw [if_neg (by have:=h.1; omega)]
 exact znp h.2
open Go Go.RowKit

theorem zh4 {P:Program} (w:World) (base:Nat) (t ty e:TypeId) (i:TypeInfo) (z:Value) (size bytes:Nat) (ht:P.underlying t=some (.slice e)) (hi:P.info? e=some i) (hz:i.zero=some z)
  (hsize:i.size=size) (hby:i.bytes=bytes) (hzs:z.cells.size=size) (hsz:0 < size)
  (v:Value) (n:Nat) (xs:List Value) (hown:w.ownsRow base e size v n xs) (u:Value) (m:Nat) (news:List Value) (hu:Row w size u m news) (h1:∀ u ∈ news,u.oneCell'=true)
  (hbytes:(n+m) * bytes<=140737488355328) (hpos:0 < bytes) (hbase:base<=w.heap.size) :
  ∃ v' w',(Builtin.append_ #[t,t] ty #[v,u]).run P w=.ok v' w'/\w'.ownsRow base e size v' (n+m) (xs++news)/\w.grownBy w' v.ownBlock/\(v'.ownBlock=v.ownBlock∨∀ g,v'.ownBlock=some g->w.heap.size<=g):=by
 obtain ⟨v',w',hrun,h2,h3⟩:=zca (P:=P) w base t ty e i z size bytes ht hi hz hsize hby hzs hsz v n xs hown u m news hu h1 hbytes hpos hbase
 refine ⟨v',w',hrun,h2,h3,?_⟩
 have h63:n+m<=maxLen:=by
  have:n+m<=(n+m) * bytes:=Nat.le_mul_of_pos_right _ hpos
  unfold maxLen
  omega
 rcases hown.2 with ⟨rfl,hn⟩ | ⟨g,cap,cur,rfl,hbg,hg,hnc,hcm,hcs,htake⟩
 ·-- onto nothing: whatever comes is new
  subst hn
  have hx:xs=[]:=List.eq_nil_of_length_eq_zero (by simpa using hown.1)
  subst hx
  obtain ⟨v2,w2,hrun2,h4,_⟩:=zca (P:=P) w w.heap.size t ty e i z size bytes ht hi hz hsize hby hzs hsz (.slice none 0 0) 0 [] (World.ownsRow_nil _ _ _ _) u m news hu h1 hbytes hpos (Nat.le_refl _)
  rw [hrun] at hrun2
  cases hrun2
  exact .inr fun g hgv=>(h4.lt g hgv).1
 ·obtain ⟨hl,ao,ucap,rfl,huc,hum,h0,hcell⟩:=hu
  cases ao with
  | none =>
   have hcap:=h0 rfl
   subst hcap
   have hm0:m=0:=by omega
   subst hm0
   have:=run_append_owned_none (P:=P) w base t ty e i size ht hi _ n xs hown
   rw [this] at hrun
   cases hrun
   exact .inl rfl
  | some ad =>
   have hsrc:∀ j u,news[j]?=some u->w.cell? (ad.add j)=some u:=fun j u hj=>by
    obtain ⟨b,off,e',hc'⟩:=hcell j u hj
    simp only [Option.some.injEq] at e'
    subst e'
    rw [add_plain]; exact hc'
   by_cases hroom:n+m<=cap
   ·subst hsize
    have hr:=run_append_room (P:=P) w t ty e i ht hi g n cap cur hg ad m ucap news hl hsrc h1 hroom (by rw [hcs,hl,<- Nat.add_mul]; exact Nat.mul_le_mul_right _ hroom)
    rw [hrun] at hr
    cases hr
    exact .inl rfl
   ·obtain ⟨v2,w2,hrun2,r1,_⟩:=run_append_arg_grows (P:=P) w t ty e i z size bytes ht hi hz hsize hby hzs hsz ⟨g,0,none⟩ n cap xs hown.1 (hown.cells (g:=g) rfl) ad m ucap news hl hsrc (by omega) h63 hbytes
    rw [hrun] at hrun2
    cases hrun2
    exact .inr fun g hgv=>(r1.lt g hgv).1

section
variable {P:Program} {ops:Array Oper} {rest:List Oper} {o:Oper} {a:Act} {w:World} {Q:Exit->Act->World->Prop}
theorem zeu (hgd:o.guard=none) (s x:Operand) (t:TypeId) (ho:o.op=.call { callee:=.builtin .append,args:=#[s,x],argTypes:=#[t,t] })
  (base:Nat) (e:TypeId) (i:TypeInfo) (z:Value) (size bytes:Nat) (ht:P.underlying t=some (.slice e)) (hi:P.info? e=some i) (hz:i.zero=some z)
  (hsize:i.size=size) (hby:i.bytes=bytes) (hzs:z.cells.size=size) (hsz:0 < size)
  (v:Value) (n:Nat) (xs:List Value) (hs:a.eval s=v) (hown:w.ownsRow base e size v n xs) (u:Value) (hx:a.eval x=u) (m:Nat) (news:List Value) (hu:Row w size u m news) (h1:∀ u ∈ news,u.oneCell'=true)
  (hbytes:(n+m) * bytes<=140737488355328) (hpos:0 < bytes) (hbase:base<=w.heap.size)
  (h:∀ v' w',w'.ownsRow base e size v' (n+m) (xs++news)->w.grownBy w' v.ownBlock->(v'.ownBlock=v.ownBlock∨∀ g,v'.ownBlock=some g->w.heap.size<=g)->wpList P ops Q rest (a.put o.dst v') w'):wpList P ops Q (o::rest) a w:=by
 refine wpList_plain hgd fun K hK=>?_
 obtain ⟨v',w',hrun,h2,h3,h4⟩:=zh4 (P:=P) w base t o.type e i z size bytes ht hi hz hsize hby hzs hsz v n xs hown u m news hu h1 hbytes hpos hbase
 unfold Oper.wp
 simp [execOp,ho,resolve,invoke,builtin,hs,hx,hrun,Result.andThen]
 exact hK _ _ (h v' w' h2 h3 h4)
end
open Go Go.RowKit

theorem zpR {i t:Nat} {r:Rp} (hi:i < 3) (ht:t < 8) (h:zqv r):zbt ⟨i,t,r⟩=0:=by
 obtain ⟨h1,h2,h3,h4,h5⟩:=h
 unfold zbt
 rw [if_neg]
 simp only []
 omega
theorem zmw {l:List (List Cl)} (hl:zbD l) {m:Mc} {ks:List Nat} {bz:Option Nat} (h:MInv l m ks bz) :
  (zaE m.store m.server).2.2.1=[]∨∃ (i:Nat) (t:Int) (r:Rp),zbt ⟨i,t,r⟩=0/\i < m.clients.length/\(zaE m.store m.server).2.2.1=zch ⟨i,t,r⟩:=by
 have h3:=hl.1
 have h8:∀ i,(l.getD i []).length<=8:=fun i=>by
  rw [List.getD_eq_getElem?_getD]
  cases e:l[i]? with
  | none=>simp
  | some x=>exact (hl.2 x (List.mem_of_getElem? e)).1
 cases bz with
 | some i =>
  have hbusy:m.server.busy=true:=h.busy
  obtain ⟨hi,w2,w3,w4,w5⟩:=h.work i rfl
  obtain ⟨c,hc⟩:∃ c,m.clients[i]?=some c:=⟨_,List.getElem?_eq_getElem (by rw [h.nc]; exact hi)⟩
  have ci:=h.clients i c hc
  rw [zeq hc] at w2
  cases hp:m.server.plan with
  | cons q rest=>rw [zik hbusy hp]; exact .inl rfl
  | nil =>
   have p5:c.got.length < (l.getD i []).length:=by
    cases ci.phase with
    | rest a b=>exact absurd rfl b
    | wait a b=>exact absurd rfl b
    | work a b d e f g k=>exact g
    | hear a b=>exact absurd rfl b
    | lost a b=>exact absurd rfl b
   have hk:=zeC hl hi p5
   rw [zhD hbusy hp,w2]
   refine .inr ⟨i,c.got.length,m.server.says,zpR (by omega) (by have:=h8 i; omega) ?_,by rw [h.nc]; exact hi,rfl⟩
   rw [w3,w2]
   exact znE (zha hl h.past) hk
 | none =>
  have hbusy:m.server.busy=false:=h.busy
  cases ks with
  | nil=>rw [zjJ hbusy (by rw [h.box]; rfl)]; exact .inl rfl
  | cons k ks =>
   have hk:k < l.length:=h.ksl k (by simp)
   obtain ⟨c,hc⟩:∃ c,m.clients[k]?=some c:=⟨_,List.getElem?_eq_getElem (by rw [h.nc]; exact hk)⟩
   have ci:=h.clients k c hc
   have p5:c.got.length < (l.getD k []).length:=by
    cases ci.phase with
    | rest a=>exact absurd (by simp) a
    | wait a b d e f g=>exact g
    | work a=>exact absurd (by simp) a
    | hear a=>exact absurd (by simp) a
    | lost a=>exact absurd (by simp) a
   have hbox:m.server.box=zcq (zbM l k c.got.length)::ks.map (fun k=>zcq (zbM l k (zdn m.clients k))):=by
    rw [h.box,List.map_cons,zeq hc]
   have hlast:=ci.last
   have htl:=zgb m.store.past k
   have hmost:=ci.most
   have hS:=serve_take (s:=m.store) hbusy hbox (zhP hl hk p5)
   rw [show (zbM l k c.got.length).client=(k:Int) from rfl,hlast] at hS
   rw [hS]
   by_cases hz:(zbK m.store.past k).length=0
   ·rw [if_pos hz,if_neg (by simp)]
    exact .inl rfl
   ·rw [if_neg hz]
    have h8k:=h8 k
    repeat' split
    ·exact .inr ⟨k,((zbK m.store.past k).length - 1:Nat),_,zkt hl h.past hk (by omega) (by omega),by rw [h.nc]; exact hk,rfl⟩
    ·exact .inl rfl
    ·exact .inl rfl
open Go Go.RowKit

open Go Go.RowKit

section
variable {l:List (List Cl)} {m:Mc} {ks:List Nat} {bz:Option Nat}

end
open Go Go.RowKit

section
variable {l:List (List Cl)} {m:Mc} {ks:List Nat} {bz:Option Nat}

def zpd (m:Mc):Bool:=m.clients.all fun c=>decide ((c.calls.length:Int)<=c.at_)
theorem zpb (h:MInv l m ks bz) (hi:zpd m=true) {i:Nat} {c:Cn} (hc:m.clients[i]?=some c):c.got.length=(l.getD i []).length/\(zbK m.store.past i).length=(l.getD i []).length/\c.got=zcK m.store.past i:=by
 have ci:=h.clients i c hc
 have hm:c ∈ m.clients:=List.mem_of_getElem? hc
 unfold zpd at hi
 rw [List.all_eq_true] at hi
 have:=hi c hm
 rw [decide_eq_true_eq,ci.calls,ci.at_] at this
 have h1:=ci.most
 have h2:=ci.step
 have h3:=zgb m.store.past i
 refine ⟨by omega,by omega,?_⟩
 have hg:=ci.got
 rwa [List.take_of_length_le (by omega)] at hg
end
open Go Go.RowKit

theorem zlJ (a b:List Rq) (i:Nat):zbK (a++b) i=zbK a i++zbK b i:=List.filter_append ..
theorem mine_cons (r:Rq) (b:List Rq) (i:Nat):zbK (r::b) i=if r.client=(i:Int) then r::zbK b i else zbK b i:=by
 unfold zbK
 rw [List.filter_cons]
 by_cases h:r.client=(i:Int)
 ·simp [h]
 ·simp [h]

section
variable {l:List (List Cl)} {m:Mc} {ks:List Nat} {bz:Option Nat}

theorem zoI (h:MInv l m ks bz) {i:Nat} (hi:i < l.length):∃ c,m.clients[i]?=some c:=by
 have hi2:i < m.clients.length:=by rw [h.nc]; exact hi
 exact ⟨m.clients[i],List.getElem?_eq_getElem hi2⟩

theorem zqi (h:MInv l m ks bz) {j:Nat} {r:Rq} (hr:m.store.past[j]?=some r) :
  ∃ i:Nat,i < l.length/\r=zbM l i (zbK (m.store.past.take j) i).length/\(zbK (m.store.past.take j) i).length < (l.getD i []).length:=by
 obtain ⟨i,t,hi,ht,rfl⟩:=h.past r (List.mem_of_getElem? hr)
 obtain ⟨c,hc⟩:=zoI h hi
 have ci:=h.clients i c hc
 have hj:j < m.store.past.length:=(List.getElem?_eq_some_iff.1 hr).1
 have hsplit:m.store.past=m.store.past.take j++zbM l i t::m.store.past.drop (j+1):=by
  have hx:m.store.past[j]=zbM l i t:=(List.getElem?_eq_some_iff.1 hr).2
  have:=List.drop_eq_getElem_cons hj
  rw [hx] at this
  rw [<- this,List.take_append_drop]
 have hm:zbK m.store.past i=zbK (m.store.past.take j) i++zbM l i t::zbK (m.store.past.drop (j+1)) i:=by
  conv=>lhs; rw [hsplit]
  rw [zlJ,mine_cons,if_pos (show (zbM l i t).client=(i:Int) from rfl)]
 have hlen:(zbK (m.store.past.take j) i).length < (zbK m.store.past i).length:=by rw [hm]; simp
 have hk:(zbK m.store.past i)[(zbK (m.store.past.take j) i).length]?=some (zbM l i t):=by rw [hm]; simp
 have hk2:(zbK m.store.past i)[(zbK (m.store.past.take j) i).length]?=some (zbM l i (zbK (m.store.past.take j) i).length):=by
  have e:=congrArg (fun x=>x[(zbK (m.store.past.take j) i).length]?) ci.done
  simp only [List.getElem?_map,List.getElem?_range hlen,Option.map_some] at e
  exact e
 rw [hk] at hk2
 injection hk2 with hk2
 exact ⟨i,hi,hk2,Nat.lt_of_lt_of_le hlen ci.most⟩

end

/-! What was done stays. -/

structure Grow (m m':Mc):Prop where
 past:∃ s,m'.store.past=m.store.past++s
 len:m'.clients.length=m.clients.length
 got:∀ (i:Nat) (c:Cn),m.clients[i]?=some c->∃ (c':Cn) (t:List Rp),m'.clients[i]?=some c'/\c'.got=c.got++t

theorem Grow.refl (m:Mc):Grow m m:=⟨⟨[],by simp⟩,rfl,fun i c h=>⟨c,[],h,by simp⟩⟩
theorem Grow.trans {a b c:Mc} (h:Grow a b) (k:Grow b c):Grow a c:=by
 refine ⟨?_,k.len.trans h.len,fun i x hx=>?_⟩
 ·obtain ⟨s,hs⟩:=h.past
  obtain ⟨t,ht⟩:=k.past
  exact ⟨s++t,by rw [ht,hs,List.append_assoc]⟩
 ·obtain ⟨y,t,hy,e⟩:=h.got i x hx
  obtain ⟨z,u,hz,f⟩:=k.got i y hy
  exact ⟨z,t++u,hz,by rw [f,e,List.append_assoc]⟩

theorem ziK {m:Mc} {st:St} {sv:Sv} {k:Nat} {x y:Cn} (hs:∃ s,st.past=m.store.past++s) (hk:m.clients.getD k (zbV [])=x) (hy:∃ t,y.got=x.got++t) :
  Grow m { m with store:=st,server:=sv,clients:=m.clients.set k y }:=by
 refine ⟨hs,by simp,fun i c hc=>?_⟩
 by_cases hik:k=i
 ·subst hik
  have e:c=x:=by rw [<- hk,List.getD_eq_getElem?_getD,hc]; rfl
  subst e
  obtain ⟨t,ht⟩:=hy
  exact ⟨y,t,List.getElem?_set_self (List.getElem?_eq_some_iff.1 hc).1,ht⟩
 ·exact ⟨c,[],by rw [List.getElem?_set_ne hik]; exact hc,by simp⟩

theorem znF (c:Cn) (me gen:Int) (up:Bool):∃ t,(zcM c me gen up).1.got=c.got++t:=by
 unfold zcM
 cases hb:c.box with
 | nil =>
  simp only []
  repeat' split
  all_goals exact ⟨[],by simp⟩
 | cons b r =>
  simp only []
  split
  ·exact ⟨_,rfl⟩
  ·exact ⟨[],by simp⟩
theorem zji (s:St) (v:Sv):(zaE s v).1.past=s.past∨∃ r,(zaE s v).1.past=s.past++[r]:=by
 unfold zaE
 by_cases hb:v.busy=true
 ·rw [if_pos hb]
  cases v.plan with
  | nil=>exact .inr ⟨_,rfl⟩
  | cons q rest =>
   left
   show (zas s q).past=s.past
   unfold zas
   split <;> rfl
 ·rw [if_neg hb]
  left
  cases v.box with
  | nil=>rfl
  | cons b r =>
   simp only []
   repeat' split
   all_goals rfl
theorem zpr (c:Cn) (b:List UInt8):(zcu c b).got=c.got:=by
 unfold zcu
 split <;> rfl

theorem zqt (m:Mc) (kind n:Int):(doM m kind n).1.store.past=m.store.past∨∃ r,(doM m kind n).1.store.past=m.store.past++[r]:=by
 unfold doM
 simp only []
 by_cases h1:kind=1
 ·rw [if_pos h1]
  left
  repeat' split
  all_goals rfl
 rw [if_neg h1]
 by_cases h2:kind=2
 ·rw [if_pos h2]
  repeat' split
  all_goals first | exact .inl rfl | exact zji _ _
 rw [if_neg h2]
 by_cases h3:kind=3
 ·rw [if_pos h3]
  left
  unfold zdG
  repeat' split
  all_goals rfl
 rw [if_neg h3]
 by_cases h4:kind=4
 ·rw [if_pos h4]
  left
  show (zdS m).store.past=_
  unfold zdS
  repeat' split
  all_goals rfl
 rw [if_neg h4]
 exact .inl rfl

theorem znq (m:Mc) (kind n:Int):Grow m (doM m kind n).1:=by
 unfold doM
 simp only []
 by_cases h1:kind=1
 ·rw [if_pos h1]
  by_cases h2:n < 0∨(m.clients.length:Int)<=n
  ·rw [if_pos h2]; exact Grow.refl m
  rw [if_neg h2]
  by_cases h3:(zcM (m.clients.getD n.toNat (zbV [])) n m.server.gen m.up).2.2≠0
  ·rw [if_pos h3]; exact Grow.refl m
  rw [if_neg h3]
  by_cases h4:(zcM (m.clients.getD n.toNat (zbV [])) n m.server.gen m.up).2.1≠[]
  ·rw [if_pos h4]
   by_cases h5:(zcl m.server (zcM (m.clients.getD n.toNat (zbV [])) n m.server.gen m.up).2.1).2≠0
   ·rw [if_pos h5]; exact Grow.refl m
   rw [if_neg h5]
   exact ziK (st:=m.store) ⟨[],by simp⟩ rfl (znF _ _ _ _)
  ·rw [if_neg h4]
   exact ziK (st:=m.store) (sv:=m.server) ⟨[],by simp⟩ rfl (znF _ _ _ _)
 rw [if_neg h1]
 by_cases h2:kind=2
 ·rw [if_pos h2]
  by_cases h3:¬ m.up=true
  ·rw [if_pos h3]; exact Grow.refl m
  rw [if_neg h3]
  by_cases h4:(zaE m.store m.server).2.2.2≠0
  ·rw [if_pos h4]; exact Grow.refl m
  rw [if_neg h4]
  have hp:∃ s,(zaE m.store m.server).1.past=m.store.past++s:=by
   rcases zji m.store m.server with h | ⟨r,h⟩
   ·exact ⟨[],by rw [h]; simp⟩
   ·exact ⟨_,h⟩
  by_cases h5:(zaE m.store m.server).2.2.1≠[]
  ·rw [if_pos h5]
   by_cases h6:((zaE m.store m.server).2.2.1.getD 1 0).toNat < m.clients.length
   ·rw [if_pos h6]
    exact ziK hp rfl ⟨[],by rw [zpr]; simp⟩
   ·rw [if_neg h6]
    exact ⟨hp,rfl,fun i c h=>⟨c,[],h,by simp⟩⟩
  ·rw [if_neg h5]
   exact ⟨hp,rfl,fun i c h=>⟨c,[],h,by simp⟩⟩
 rw [if_neg h2]
 by_cases h3:kind=3
 ·rw [if_pos h3]
  unfold zdG
  repeat' split
  all_goals exact ⟨⟨[],by simp⟩,rfl,fun i c h=>⟨c,[],h,by simp⟩⟩
 rw [if_neg h3]
 by_cases h4:kind=4
 ·rw [if_pos h4]
  show Grow m (zdS m)
  unfold zdS
  repeat' split
  all_goals exact ⟨⟨[],by simp [zbm]⟩,rfl,fun i c h=>⟨c,[],h,by simp⟩⟩
 rw [if_neg h4]
 exact Grow.refl m

/-! A machine is whole. -/

/-! Alone it is as one by one. -/

theorem zmS {calls:List Cl} {m:Mc} {ks:List Nat} {bz:Option Nat} (h:MInv [calls] m ks bz):zbK m.store.past 0=m.store.past:=by
 unfold zbK
 rw [List.filter_eq_self]
 intro r hr
 obtain ⟨i,t,hi,-,rfl⟩:=h.past r hr
 have:i=0:=by simpa using hi
 subst this
 simp [zbM]

theorem zm6 {calls:List Cl} {m:Mc} {ks:List Nat} {bz:Option Nat} (h:MInv [calls] m ks bz):zcK m.store.past 0=(allCl (m.store.past.map Rq.call)).2.map fun x=>⟨x.1,x.2⟩:=by
 unfold zcK
 have hall:∀ x ∈ m.store.past.zip (allCl (m.store.past.map Rq.call)).2,decide (x.1.client=((0:Nat):Int))=true:=fun x hx=>by
  have hm:=(List.of_mem_zip hx).1
  obtain ⟨i,t,hi,-,e⟩:=h.past x.1 hm
  have:i=0:=by simpa using hi
  subst this
  rw [e]
  simp [zbM]
 rw [List.filter_eq_self.2 hall]
 have hlen:(allCl (m.store.past.map Rq.call)).2.length=m.store.past.length:=by rw [ziC]; simp
 generalize (allCl (m.store.past.map Rq.call)).2=q at *
 clear hall h
 generalize m.store.past=p at *
 induction p generalizing q with
 | nil=>cases q with
  | nil=>rfl
  | cons _ _=>cases hlen
 | cons r p ih=>cases q with
  | nil=>cases hlen
  | cons x q =>
   simp only [List.zip_cons_cons,List.map_cons]
   rw [ih q (by simpa using hlen)]

theorem zrR {calls:List Cl} {m:Mc} {ks:List Nat} {bz:Option Nat} (h:MInv [calls] m ks bz) (hi:zpd m=true) :
  m.clients.length=1/\∀ c,m.clients[0]?=some c->c.got=(allCl calls).2.map (fun x=>⟨x.1,x.2⟩)/\zbN (zaC m.store.cells m.store.undo)=(allCl calls).1:=by
 refine ⟨h.nc,fun c hc=>?_⟩
 obtain ⟨-,h2,h3⟩:=zpb h hi hc
 have ci:=h.clients 0 c hc
 have hp:m.store.past.map Rq.call=calls:=by
  rw [<- zmS h,ci.done,h2]
  refine List.ext_getElem (by simp) fun k k1 k2=>?_
  simp [zbM,k2]
 refine ⟨by rw [h3,zm6 h,hp],by rw [h.nm]; unfold zdQ; rw [hp]⟩

end Go.Mk

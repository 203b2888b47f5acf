/- Texts of the proof, merged: Math21 Math22 Math23 Math26 Mem11 Math14 Math15 Math16 Math17. -/
import Derived.Test.YtdmipnnfoolelafKTG
import Derived.Test.YtdmipnnfoolelafKTD
import Derived.Test.YtdmipnnfoolelafKTF

namespace Go.Mk
open Go Go.RowKit

structure SizeM (m:Mc) (k:Nat):Prop where
 undo:m.store.undo.length<=k
 answers:m.store.answers.length<=k
 past:m.store.past.length<=k
 box:m.server.box.length<=k
 each:∀ c ∈ m.clients,c.got.length<=k/\c.box.length<=k

theorem SizeM.mono {m:Mc} {k j:Nat} (h:SizeM m k) (hk:k<=j):SizeM m j :=
 ⟨Nat.le_trans h.undo hk,Nat.le_trans h.answers hk,Nat.le_trans h.past hk,Nat.le_trans h.box hk,fun c hc=>⟨Nat.le_trans (h.each c hc).1 hk,Nat.le_trans (h.each c hc).2 hk⟩⟩
theorem zi7 (l:List (List Cl)):SizeM (newMc l) 0:=⟨Nat.le_refl _,Nat.le_refl _,Nat.le_refl _,Nat.le_refl _,fun c hc=>by
 have hc':c ∈ l.map zcC:=hc
 obtain ⟨x,_,rfl⟩:=List.mem_map.1 hc'
 exact ⟨Nat.le_refl _,Nat.le_refl _⟩⟩

theorem zkR (s:St) (p:Int×Int):(zak s p).undo.length<=s.undo.length+1/\(zak s p).answers=s.answers/\(zak s p).past=s.past:=by
 unfold zak
 split
 ·exact ⟨by simp,rfl,rfl⟩
 ·exact ⟨by omega,rfl,rfl⟩

theorem zkI {s:St} {v:Sv} {k:Nat} (h1:s.undo.length<=k) (h2:s.answers.length<=k) (h3:s.past.length<=k) (h4:v.box.length<=k) :
  (zaM s v).1.undo.length<=k+1/\(zaM s v).1.answers.length<=k+1/\(zaM s v).1.past.length<=k+1/\(zaM s v).2.1.box.length<=k:=by
 unfold zaM
 split
 ·split
  ·rename_i p l _
   obtain ⟨w1,w2,w3⟩:=zkR s p
   refine ⟨by simp only []; omega,by simp only [w2]; omega,by simp only [w3]; omega,h4⟩
  ·have:=zi5 s.answers ⟨v.now.client,v.now.token,v.says⟩
   refine ⟨by simp [zb0],by simp only [zb0]; omega,by simp only [zb0,List.length_append,List.length_cons,List.length_nil]; omega,h4⟩
 ·split
  ·exact ⟨by simp only []; omega,by simp only []; omega,by simp only []; omega,h4⟩
  ·rename_i b l hb
   rw [hb] at h4
   have h5:l.length<=k:=by simp only [List.length_cons] at h4; omega
   dsimp only
   repeat' split
   all_goals exact ⟨by simp only []; omega,by simp only []; omega,by simp only []; omega,h5⟩

theorem znM {c:Cn} {k:Nat} (me gen:Int) (up:Bool) (h1:c.got.length<=k) (h2:c.box.length<=k):(zdW c me gen up).1.got.length<=k+1/\(zdW c me gen up).1.box.length<=k+1:=by
 unfold zdW
 split
 ·rename_i b l hb
  rw [hb] at h2
  have h5:l.length<=k:=by simp only [List.length_cons] at h2; omega
  dsimp only
  split
  ·exact ⟨by simp only [List.length_append,List.length_cons,List.length_nil]; omega,by simp only []; omega⟩
  ·exact ⟨by simp only []; omega,by simp only []; omega⟩
 ·repeat' split
  all_goals exact ⟨by simp only []; omega,by simp only []; omega⟩

theorem zlQ (v:Sv) (b:List UInt8) {k:Nat} (h:v.box.length<=k):(zcD v b).1.box.length<=k+1:=by
 unfold zcD
 split
 ·simp only []; omega
 ·simp only [List.length_append,List.length_cons,List.length_nil]; omega
theorem zlG (c:Cn) (b:List UInt8) {k:Nat} (h1:c.got.length<=k) (h2:c.box.length<=k):(zdf c b).got.length<=k+1/\(zdf c b).box.length<=k+1:=by
 unfold zdf
 split
 ·exact ⟨by simp only []; omega,by simp only [List.length_append,List.length_cons,List.length_nil]; omega⟩
 ·omega
theorem zha {cl:List Cn} {k:Nat} (h:∀ c ∈ cl,c.got.length<=k/\c.box.length<=k) (i:Nat) {x:Cn} (hx:x.got.length<=k+1/\x.box.length<=k+1):∀ c ∈ cl.set i x,c.got.length<=k+1/\c.box.length<=k+1:=fun c hc=>by
 rcases List.mem_or_eq_of_mem_set hc with h1 | rfl
 ·have:=h c h1; omega
 ·exact hx
theorem zjM {cl:List Cn} {k:Nat} (h:∀ c ∈ cl,c.got.length<=k/\c.box.length<=k) (i:Nat):(cl.getD i (zcC [])).got.length<=k/\(cl.getD i (zcC [])).box.length<=k:=by
 by_cases hi:i < cl.length
 ·exact h _ (zhh hi)
 ·rw [List.getD_eq_getElem?_getD,List.getElem?_eq_none (by omega)]
  exact ⟨Nat.zero_le _,Nat.zero_le _⟩

theorem znz {m:Mc} {k:Nat} (h:SizeM m k) (kind n:Int):SizeM (doM m kind n).1 (k+1):=by
 have hm:=h.mono (Nat.le_succ k)
 unfold doM
 split
 ·split
  ·exact hm
  ·dsimp only
   have hg:=zjM h.each n.toNat
   have hgo:=znM n m.server.gen m.up hg.1 hg.2
   split
   ·exact hm
   ·split
    ·split
     ·exact hm
     ·exact ⟨hm.undo,hm.answers,hm.past,zlQ _ _ h.box,zha h.each _ hgo⟩
    ·exact ⟨hm.undo,hm.answers,hm.past,hm.box,zha h.each _ hgo⟩
 ·split
  ·split
   ·exact hm
   ·dsimp only
    obtain ⟨s1,s2,s3,s4⟩:=zkI h.undo h.answers h.past h.box
    split
    ·exact hm
    ·split
     ·split
      ·have hg:=zjM h.each ((zaM m.store m.server).2.2.1.getD 1 0).toNat
       exact ⟨s1,s2,s3,Nat.le_succ_of_le s4,zha h.each _ (zlG _ _ hg.1 hg.2)⟩
      ·exact ⟨s1,s2,s3,Nat.le_succ_of_le s4,hm.each⟩
     ·exact ⟨s1,s2,s3,Nat.le_succ_of_le s4,hm.each⟩
  ·split
   ·unfold ze6
    split
    ·exact hm
    ·split
     ·exact hm
     ·exact ⟨hm.undo,hm.answers,hm.past,Nat.zero_le _,hm.each⟩
   ·split
    ·unfold zfC
     split
     ·exact hm
     ·split
      ·exact ⟨hm.undo,hm.answers,hm.past,hm.box,hm.each⟩
      ·exact ⟨Nat.zero_le _,hm.answers,hm.past,Nat.zero_le _,hm.each⟩
    ·exact hm
open Go Go.RowKit

theorem zie {m:Mc} {k:Nat} (h:SizeM m k):∀ steps:List (Int×Int),SizeM (zdc m steps) (k+steps.length):=fun steps=>by
 unfold zdc
 induction steps generalizing m k with
 | nil=>exact h
 | cons p l ih =>
  have:=ih (znz h p.1 p.2)
  rw [List.length_cons,show k+(l.length+1)=k+1+l.length by omega]
  exact this

open Go Go.RowKit

open Go Go.RowKit

def ze3:List Cl->Int
 | []=>0
 | x::l=>if wrongCl x≠0 then wrongCl x else ze3 l
def errL:List (List Cl)->Int
 | []=>0
 | c::l=>if 8 < c.length then 4 else if ze3 c≠0 then ze3 c else errL l
def zfq (l:List (List Cl)):Int:=if 3 < l.length then 5 else errL l

theorem zgy:∀ {c:List Cl},(∀ y ∈ c,wrongCl y=0)->ze3 c=0
 | [],_=>rfl
 | x::l,h=>by
  unfold ze3
  rw [if_neg (by simp [h x (by simp)])]
  exact zgy fun y hy=>h y (by simp [hy])
theorem zh5:∀ {c:List Cl} {q:Nat} {y:Cl},(∀ (j:Nat) (z:Cl),j < q->c[j]?=some z->wrongCl z=0)->c[q]?=some y->wrongCl y≠0->ze3 c=wrongCl y
 | [],q,y,_,hy,_=>by simp at hy
 | x::l,0,y,_,hy,hw=>by
  simp at hy
  subst hy
  unfold ze3
  rw [if_pos hw]
 | x::l,q+1,y,h,hy,hw=>by
  unfold ze3
  rw [if_neg (by simp [h 0 x (by omega) rfl])]
  exact zh5 (q:=q) (fun j z hj hz=>h (j+1) z (by omega) (by simpa using hz)) (by simpa using hy) hw
theorem zk5:∀ {l:List (List Cl)},(∀ c ∈ l,c.length<=8/\∀ x ∈ c,wrongCl x=0)->errL l=0
 | [],_=>rfl
 | c::l,h=>by
  obtain ⟨h1,h2⟩:=h c (by simp)
  unfold errL
  rw [if_neg (by omega),if_neg (by simp [zgy h2])]
  exact zk5 fun d hd=>h d (by simp [hd])
theorem ziB:∀ {l:List (List Cl)} {k:Nat} {x:List Cl},(∀ (j:Nat) (y:List Cl),j < k->l[j]?=some y->y.length<=8/\∀ z ∈ y,wrongCl z=0)->l[k]?=some x->errL l=errL (x::l.drop (k+1))
 | [],k,x,_,hx=>by simp at hx
 | c::l,0,x,_,hx=>by
  simp at hx
  subst hx
  rfl
 | c::l,k+1,x,h,hx=>by
  obtain ⟨h1,h2⟩:=h 0 c (by omega) rfl
  have ih:=ziB (l:=l) (k:=k) (x:=x) (fun j y hj hy=>h (j+1) y (by omega) (by simpa using hy)) (by simpa using hx)
  rw [errL,if_neg (by omega),if_neg (by simp [zgy h2]),ih]
  rfl
theorem zlU {l:List (List Cl)} (h:3 < l.length):zfq l=5:=if_pos h
theorem zlh {l:List (List Cl)} (h3:¬ 3 < l.length) {k:Nat} {x:List Cl} (h:∀ (j:Nat) (y:List Cl),j < k->l[j]?=some y->y.length<=8/\∀ z ∈ y,wrongCl z=0) (hx:l[k]?=some x) (h8:8 < x.length):zfq l=4:=by
 unfold zfq
 rw [if_neg h3,ziB h hx,errL,if_pos h8]
theorem zlf {l:List (List Cl)} (h3:¬ 3 < l.length) {k q:Nat} {x:List Cl} {y:Cl} (h:∀ (j:Nat) (y:List Cl),j < k->l[j]?=some y->y.length<=8/\∀ z ∈ y,wrongCl z=0) (hx:l[k]?=some x) (h8:¬ 8 < x.length) (ha:∀ (j:Nat) (z:Cl),j < q->x[j]?=some z->wrongCl z=0) (hy:x[q]?=some y) (hw:wrongCl y≠0):zfq l=wrongCl y:=by
 have hf:=zh5 ha hy hw
 unfold zfq
 rw [if_neg h3,ziB h hx,errL,if_neg h8,if_pos (by rw [hf]; exact hw),hf]
theorem zfN {l:List (List Cl)} (h:zbm l):zfq l=0:=by
 unfold zfq
 rw [if_neg (by have:=h.1; omega)]
 exact zk5 h.2
open Go Go.RowKit

theorem zgl {P:Program} (w:World) (base:Nat) (t ty e:TypeId) (i:TypeInfo) (z:Value) (size bytes:Nat) (ht:P.underlying t=some (.slice e)) (hi:P.info? e=some i) (hz:i.zero=some z)
  (hsize:i.size=size) (hby:i.bytes=bytes) (hzs:z.cells.size=size) (hsz:0 < size)
  (v:Value) (n:Nat) (xs:List Value) (hown:w.ownsRow base e size v n xs) (u:Value) (m:Nat) (news:List Value) (hu:Row w size u m news) (h1:∀ u ∈ news,u.oneCell'=true)
  (hbytes:(n+m) * bytes<=140737488355328) (hpos:0 < bytes) (hbase:base<=w.heap.size) :
  ∃ v' w',(Builtin.append_ #[t,t] ty #[v,u]).run P w=.ok v' w'/\w'.ownsRow base e size v' (n+m) (xs++news)/\w.grownBy w' v.ownBlock/\(v'.ownBlock=v.ownBlock∨∀ g,v'.ownBlock=some g->w.heap.size<=g):=by
 obtain ⟨v',w',hrun,h2,h3⟩:=zbt (P:=P) w base t ty e i z size bytes ht hi hz hsize hby hzs hsz v n xs hown u m news hu h1 hbytes hpos hbase
 refine ⟨v',w',hrun,h2,h3,?_⟩
 have h63:n+m<=maxLen:=by
  have:n+m<=(n+m) * bytes:=Nat.le_mul_of_pos_right _ hpos
  unfold maxLen
  omega
 rcases hown.2 with ⟨rfl,hn⟩ | ⟨g,cap,cur,rfl,hbg,hg,hnc,hcm,hcs,htake⟩
 ·-- onto nothing: whatever comes is new
  subst hn
  have hx:xs=[]:=List.eq_nil_of_length_eq_zero (by simpa using hown.1)
  subst hx
  obtain ⟨v2,w2,hrun2,h4,_⟩:=zbt (P:=P) w w.heap.size t ty e i z size bytes ht hi hz hsize hby hzs hsz (.slice none 0 0) 0 [] (World.ownsRow_nil _ _ _ _) u m news hu h1 hbytes hpos (Nat.le_refl _)
  rw [hrun] at hrun2
  cases hrun2
  exact .inr fun g hgv=>(h4.lt g hgv).1
 ·obtain ⟨hl,ao,ucap,rfl,huc,hum,h0,hcell⟩:=hu
  cases ao with
  | none =>
   have hcap:=h0 rfl
   subst hcap
   have hm0:m=0:=by omega
   subst hm0
   have:=run_append_owned_none (P:=P) w base t ty e i size ht hi _ n xs hown
   rw [this] at hrun
   cases hrun
   exact .inl rfl
  | some ad =>
   have hsrc:∀ j u,news[j]?=some u->w.cell? (ad.add j)=some u:=fun j u hj=>by
    obtain ⟨b,off,e',hc'⟩:=hcell j u hj
    simp only [Option.some.injEq] at e'
    subst e'
    rw [add_plain]; exact hc'
   by_cases hroom:n+m<=cap
   ·subst hsize
    have hr:=run_append_room (P:=P) w t ty e i ht hi g n cap cur hg ad m ucap news hl hsrc h1 hroom (by rw [hcs,hl,<- Nat.add_mul]; exact Nat.mul_le_mul_right _ hroom)
    rw [hrun] at hr
    cases hr
    exact .inl rfl
   ·obtain ⟨v2,w2,hrun2,r1,_⟩:=run_append_arg_grows (P:=P) w t ty e i z size bytes ht hi hz hsize hby hzs hsz ⟨g,0,none⟩ n cap xs hown.1 (hown.cells (g:=g) rfl) ad m ucap news hl hsrc (by omega) h63 hbytes
    rw [hrun] at hrun2
    cases hrun2
    exact .inr fun g hgv=>(r1.lt g hgv).1

section
variable {P:Program} {ops:Array Oper} {rest:List Oper} {o:Oper} {a:Act} {w:World} {Q:Exit->Act->World->Prop}
theorem zft (hgd:o.guard=none) (s x:Operand) (t:TypeId) (ho:o.op=.call { callee:=.builtin .append,args:=#[s,x],argTypes:=#[t,t] })
  (base:Nat) (e:TypeId) (i:TypeInfo) (z:Value) (size bytes:Nat) (ht:P.underlying t=some (.slice e)) (hi:P.info? e=some i) (hz:i.zero=some z)
  (hsize:i.size=size) (hby:i.bytes=bytes) (hzs:z.cells.size=size) (hsz:0 < size)
  (v:Value) (n:Nat) (xs:List Value) (hs:a.eval s=v) (hown:w.ownsRow base e size v n xs) (u:Value) (hx:a.eval x=u) (m:Nat) (news:List Value) (hu:Row w size u m news) (h1:∀ u ∈ news,u.oneCell'=true)
  (hbytes:(n+m) * bytes<=140737488355328) (hpos:0 < bytes) (hbase:base<=w.heap.size)
  (h:∀ v' w',w'.ownsRow base e size v' (n+m) (xs++news)->w.grownBy w' v.ownBlock->(v'.ownBlock=v.ownBlock∨∀ g,v'.ownBlock=some g->w.heap.size<=g)->wpList P ops Q rest (a.put o.dst v') w'):wpList P ops Q (o::rest) a w:=by
 refine wpList_plain hgd fun K hK=>?_
 obtain ⟨v',w',hrun,h2,h3,h4⟩:=zgl (P:=P) w base t o.type e i z size bytes ht hi hz hsize hby hzs hsz v n xs hown u m news hu h1 hbytes hpos hbase
 unfold Oper.wp
 simp [execOp,ho,resolve,invoke,builtin,hs,hx,hrun,Result.andThen]
 exact hK _ _ (h v' w' h2 h3 h4)
end
open Go Go.RowKit

open Go Go.RowKit

section
variable {l:List (List Cl)} {m:Mc} {ks:List Nat} {bz:Option Nat}

theorem znf {cl:List Cn} {i:Nat} {c d:Cn} (h:cl[i]?=some c):(cl.set i d)[i]?=some d:=List.getElem?_set_self (List.getElem?_eq_some_iff.1 h).1

end
open Go Go.RowKit

section
variable {l:List (List Cl)} {m:Mc} {ks:List Nat} {bz:Option Nat}

def zf3 (m:Mc):Bool:=m.clients.all fun c=>decide ((c.calls.length:Int)<=c.at_)
theorem zmc (h:MInv l m ks bz) (hi:zf3 m=true) {i:Nat} {c:Cn} (hc:m.clients[i]?=some c):c.got.length=(l.getD i []).length/\(za6 m.store.past i).length=(l.getD i []).length/\c.got=zbX m.store.past i:=by
 have ci:=h.clients i c hc
 have hm:c ∈ m.clients:=List.mem_of_getElem? hc
 unfold zf3 at hi
 rw [List.all_eq_true] at hi
 have:=hi c hm
 rw [decide_eq_true_eq,ci.calls,ci.at_] at this
 have h1:=ci.most
 have h2:=ci.step
 have h3:=ze4 m.store.past i
 refine ⟨by omega,by omega,?_⟩
 have hg:=ci.got
 rwa [List.take_of_length_le (by omega)] at hg
end
open Go Go.RowKit

theorem zgH (a b:List Rq) (i:Nat):za6 (a++b) i=za6 a i++za6 b i:=List.filter_append ..
theorem mine_cons (r:Rq) (b:List Rq) (i:Nat):za6 (r::b) i=if r.client=(i:Int) then r::za6 b i else za6 b i:=by
 unfold za6
 rw [List.filter_cons]
 by_cases h:r.client=(i:Int)
 ·simp [h]
 ·simp [h]

section
variable {l:List (List Cl)} {m:Mc} {ks:List Nat} {bz:Option Nat}

theorem zh8 (h:MInv l m ks bz) {i:Nat} (hi:i < l.length):∃ c,m.clients[i]?=some c:=by
 have hi2:i < m.clients.length:=by rw [h.nc]; exact hi
 exact ⟨m.clients[i],List.getElem?_eq_getElem hi2⟩

theorem zni (h:MInv l m ks bz) {j:Nat} {r:Rq} (hr:m.store.past[j]?=some r) :
  ∃ i:Nat,i < l.length/\r=zbs l i (za6 (m.store.past.take j) i).length/\(za6 (m.store.past.take j) i).length < (l.getD i []).length:=by
 obtain ⟨i,t,hi,ht,rfl⟩:=h.past r (List.mem_of_getElem? hr)
 obtain ⟨c,hc⟩:=zh8 h hi
 have ci:=h.clients i c hc
 have hj:j < m.store.past.length:=(List.getElem?_eq_some_iff.1 hr).1
 have hsplit:m.store.past=m.store.past.take j++zbs l i t::m.store.past.drop (j+1):=by
  have hx:m.store.past[j]=zbs l i t:=(List.getElem?_eq_some_iff.1 hr).2
  have:=List.drop_eq_getElem_cons hj
  rw [hx] at this
  rw [<- this,List.take_append_drop]
 have hm:za6 m.store.past i=za6 (m.store.past.take j) i++zbs l i t::za6 (m.store.past.drop (j+1)) i:=by
  conv=>lhs; rw [hsplit]
  rw [zgH,mine_cons,if_pos (show (zbs l i t).client=(i:Int) from rfl)]
 have hlen:(za6 (m.store.past.take j) i).length < (za6 m.store.past i).length:=by rw [hm]; simp
 have hk:(za6 m.store.past i)[(za6 (m.store.past.take j) i).length]?=some (zbs l i t):=by rw [hm]; simp
 have hk2:(za6 m.store.past i)[(za6 (m.store.past.take j) i).length]?=some (zbs l i (za6 (m.store.past.take j) i).length):=by
  have e:=congrArg (fun x=>x[(za6 (m.store.past.take j) i).length]?) ci.done
  simp only [List.getElem?_map,List.getElem?_range hlen,Option.map_some] at e
  exact e
 rw [hk] at hk2
 injection hk2 with hk2
 exact ⟨i,hi,hk2,Nat.lt_of_lt_of_le hlen ci.most⟩

end

/-! What was done stays. -/

structure Grow (m m':Mc):Prop where
 past:∃ s,m'.store.past=m.store.past++s
 len:m'.clients.length=m.clients.length
 got:∀ (i:Nat) (c:Cn),m.clients[i]?=some c->∃ (c':Cn) (t:List Rp),m'.clients[i]?=some c'/\c'.got=c.got++t

theorem Grow.refl (m:Mc):Grow m m:=⟨⟨[],by simp⟩,rfl,fun i c h=>⟨c,[],h,by simp⟩⟩
theorem Grow.trans {a b c:Mc} (h:Grow a b) (k:Grow b c):Grow a c:=by
 refine ⟨?_,k.len.trans h.len,fun i x hx=>?_⟩
 ·obtain ⟨s,hs⟩:=h.past
  obtain ⟨t,ht⟩:=k.past
  exact ⟨s++t,by rw [ht,hs,List.append_assoc]⟩
 ·obtain ⟨y,t,hy,e⟩:=h.got i x hx
  obtain ⟨z,u,hz,f⟩:=k.got i y hy
  exact ⟨z,t++u,hz,by rw [f,e,List.append_assoc]⟩

/-! A machine is whole. -/

structure WholeC (p:List Rq) (i:Nat) (c:Cn):Prop where
 len:(c.got.length:Int)=c.at_
 step:(za6 p i).length=c.got.length∨(za6 p i).length=c.got.length+1
 first:∀ k,k < (za6 p i).length->k < c.calls.length/\((za6 p i).getD k zeroRq).token=(k:Int)/\((za6 p i).getD k zeroRq).call=c.calls.getD k ze5
 got:c.got=(zbX p i).take c.got.length
def zd6 (m:Mc):Prop:=zaZ (zao m.store.cells m.store.undo)=zcu m.store.past/\∀ (i:Nat) (c:Cn),m.clients[i]?=some c->WholeC m.store.past i c

theorem zlk {l:List (List Cl)} {m:Mc} {ks:List Nat} {bz:Option Nat} (h:MInv l m ks bz):zd6 m:=by
 refine ⟨h.nm,fun i c hc=>?_⟩
 have ci:=h.clients i c hc
 refine ⟨ci.at_.symm,ci.step,fun k hk=>?_,ci.got⟩
 have e:(za6 m.store.past i).getD k zeroRq=zbs l i k:=by
  have e:=congrArg (fun x=>x.getD k zeroRq) ci.done
  simp only [List.getD_eq_getElem?_getD,List.getElem?_map,List.getElem?_range hk] at e
  rw [List.getD_eq_getElem?_getD,e]
  rfl
 rw [e,ci.calls]
 exact ⟨Nat.lt_of_lt_of_le hk ci.most,rfl,rfl⟩

theorem zlI {m:Mc} (h:zd6 m) {i:Nat} {c:Cn} (hc:m.clients[i]?=some c) {r0 r:Rp} {rest:List Rp} (hg:c.got=r0::rest) (hne:r≠r0) :
  ¬ zd6 { m with clients:=m.clients.set i { c with got:=r::rest } }:=by
 intro hw
 have h1:=(h.2 i c hc).got
 have h2:=(hw.2 i _ (znf hc)).got
 simp only [] at h2
 rw [hg] at h1
 cases ht:zbX m.store.past i with
 | nil=>rw [ht] at h1; simp at h1
 | cons x xs =>
  rw [ht] at h1 h2
  simp only [List.length_cons,List.take_succ_cons,List.cons.injEq] at h1 h2
  exact hne (h2.1.trans h1.1.symm)

theorem zkj {m:Mc} (h:zaZ (zao m.store.cells m.store.undo)=zcu m.store.past) (hr:zb8 (zao m.store.cells m.store.undo)=0) {x:Int} (h0:(zao m.store.cells m.store.undo).getD 0 0≠0)
  (hx:(zao m.store.cells m.store.undo).getD 2 0≠x):zaZ ((zao m.store.cells m.store.undo).set 2 x)≠zcu m.store.past:=by
 rw [<- h]
 generalize zao m.store.cells m.store.undo=xs at *
 obtain ⟨hl,h1,h5,-⟩:=(zem xs).1 hr
 intro e
 unfold zaZ at e
 have e0:(xs.set 2 x).getD 0 0=xs.getD 0 0:=by rw [List.getD_eq_getElem?_getD,List.getElem?_set_ne (by decide),<- List.getD_eq_getElem?_getD]
 rw [e0] at e
 obtain ⟨k,hk⟩:∃ k,(xs.getD 0 0).toNat=k+1:=⟨(xs.getD 0 0).toNat - 1,by omega⟩
 rw [hk] at e
 unfold zaz at e
 rw [List.range_succ_eq_map] at e
 simp only [List.map_cons,List.cons.injEq,Prod.mk.injEq] at e
 have e1:=e.1.2
 rw [List.getD_eq_getElem?_getD,List.getElem?_set_self (by omega)] at e1
 exact hx e1.symm

theorem zjv {l:List (List Cl)} {m:Mc} {ks:List Nat} {bz:Option Nat} (h:MInv l m ks bz) {j:Nat} {r:Rq} (hr:m.store.past[j]?=some r) :
  ∃ (i:Nat) (c:Cn),m.clients[i]?=some c/\r.client=(i:Int)/\¬ WholeC (m.store.past++[r]) i c:=by
 obtain ⟨i,hi,e,-⟩:=zni h hr
 obtain ⟨c,hc⟩:=zh8 h hi
 refine ⟨i,c,hc,by rw [e]; rfl,fun hw=>?_⟩
 have hlt:(za6 (m.store.past.take j) i).length < (za6 m.store.past i).length:=by
  have hj:j < m.store.past.length:=(List.getElem?_eq_some_iff.1 hr).1
  have hsplit:m.store.past=m.store.past.take j++r::m.store.past.drop (j+1):=by
   have hx:m.store.past[j]=r:=(List.getElem?_eq_some_iff.1 hr).2
   have:=List.drop_eq_getElem_cons hj
   rw [hx] at this
   rw [<- this,List.take_append_drop]
  conv=>rhs; rw [hsplit]
  rw [zgH,mine_cons,if_pos (show r.client=(i:Int) by rw [e]; rfl)]
  simp
 have hm:za6 (m.store.past++[r]) i=za6 m.store.past i++[r]:=by rw [zgt,if_pos (show r.client=(i:Int) by rw [e]; rfl)]
 obtain ⟨-,ht,-⟩:=hw.first (za6 m.store.past i).length (by rw [hm]; simp)
 rw [hm] at ht
 have hg:(za6 m.store.past i++[r]).getD (za6 m.store.past i).length zeroRq=r:=by rw [List.getD_eq_getElem?_getD]; simp
 rw [hg,e] at ht
 have ht2:((za6 (m.store.past.take j) i).length:Int)=((za6 m.store.past i).length:Int):=ht
 omega

/-! Alone it is as one by one. -/

theorem zkN {calls:List Cl} {m:Mc} {ks:List Nat} {bz:Option Nat} (h:MInv [calls] m ks bz):za6 m.store.past 0=m.store.past:=by
 unfold za6
 rw [List.filter_eq_self]
 intro r hr
 obtain ⟨i,t,hi,-,rfl⟩:=h.past r hr
 have:i=0:=by simpa using hi
 subst this
 simp [zbs]

theorem zkq {calls:List Cl} {m:Mc} {ks:List Nat} {bz:Option Nat} (h:MInv [calls] m ks bz):zbX m.store.past 0=(allCl (m.store.past.map Rq.call)).2.map fun x=>⟨x.1,x.2⟩:=by
 unfold zbX
 have hall:∀ x ∈ m.store.past.zip (allCl (m.store.past.map Rq.call)).2,decide (x.1.client=((0:Nat):Int))=true:=fun x hx=>by
  have hm:=(List.of_mem_zip hx).1
  obtain ⟨i,t,hi,-,e⟩:=h.past x.1 hm
  have:i=0:=by simpa using hi
  subst this
  rw [e]
  simp [zbs]
 rw [List.filter_eq_self.2 hall]
 have hlen:(allCl (m.store.past.map Rq.call)).2.length=m.store.past.length:=by rw [zfh]; simp
 generalize (allCl (m.store.past.map Rq.call)).2=q at *
 clear hall h
 generalize m.store.past=p at *
 induction p generalizing q with
 | nil=>cases q with
  | nil=>rfl
  | cons _ _=>cases hlen
 | cons r p ih=>cases q with
  | nil=>cases hlen
  | cons x q =>
   simp only [List.zip_cons_cons,List.map_cons]
   rw [ih q (by simpa using hlen)]

theorem zoV {calls:List Cl} {m:Mc} {ks:List Nat} {bz:Option Nat} (h:MInv [calls] m ks bz) (hi:zf3 m=true) :
  m.clients.length=1/\∀ c,m.clients[0]?=some c->c.got=(allCl calls).2.map (fun x=>⟨x.1,x.2⟩)/\zaZ (zao m.store.cells m.store.undo)=(allCl calls).1:=by
 refine ⟨h.nc,fun c hc=>?_⟩
 obtain ⟨-,h2,h3⟩:=zmc h hi hc
 have ci:=h.clients 0 c hc
 have hp:m.store.past.map Rq.call=calls:=by
  rw [<- zkN h,ci.done,h2]
  refine List.ext_getElem (by simp) fun k k1 k2=>?_
  simp [zbs,k2]
 refine ⟨by rw [h3,zkq h,hp],by rw [h.nm]; unfold zcu; rw [hp]⟩

end Go.Mk

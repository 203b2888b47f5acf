/- Texts of the proof, merged: Mem11 Math14 Math15 Math16 Math17 Math28. -/
import Derived.Test.YtikbhmnjlmbeeaeGreatKOG
import Derived.Test.YtikbhmnjlmbeeaeGreatKOH

namespace Go.Mk
open Go Go.RowKit

theorem zhA {P : Program} (w : World) (base : Nat) (t ty e : TypeId) (i : TypeInfo) (z : Value) (size bytes : Nat) (ht : P.underlying t = some (.slice e)) (hi : P.info? e = some i) (hz : i.zero = some z)
  (hsize : i.size = size) (hby : i.bytes = bytes) (hzs : z.cells.size = size) (hsz : 0 < size)
  (v : Value) (n : Nat) (xs : List Value) (hown : w.ownsRow base e size v n xs) (u : Value) (m : Nat) (news : List Value) (hu : Row w size u m news) (h1 : ∀ u ∈ news,u.oneCell' = true)
  (hbytes : (n + m) * bytes <= 140737488355328) (hpos : 0 < bytes) (hbase : base <= w.heap.size) :
  ∃ v' w',(Builtin.append_ #[t,t] ty #[v,u]).run P w = .ok v' w' /\ w'.ownsRow base e size v' (n + m) (xs ++ news) /\ w.grownBy w' v.ownBlock /\ (v'.ownBlock = v.ownBlock ∨ ∀ g,v'.ownBlock = some g -> w.heap.size <= g):=by
 obtain ⟨v',w',hrun,h2,h3⟩:=zcc (P:=P) w base t ty e i z size bytes ht hi hz hsize hby hzs hsz v n xs hown u m news hu h1 hbytes hpos hbase
 refine ⟨v',w',hrun,h2,h3,?_⟩
 have h63 : n + m <= maxLen:=by
  have : n + m <= (n + m) * bytes:=Nat.le_mul_of_pos_right _ hpos
  unfold maxLen
  omega
 rcases hown.2 with ⟨rfl,hn⟩ | ⟨g,cap,cur,rfl,hbg,hg,hnc,hcm,hcs,htake⟩
 ·-- onto nothing: whatever comes is new
  subst hn
  have hx : xs = []:=List.eq_nil_of_length_eq_zero (by simpa using hown.1)
  subst hx
  obtain ⟨v2,w2,hrun2,h4,_⟩:=zcc (P:=P) w w.heap.size t ty e i z size bytes ht hi hz hsize hby hzs hsz (.slice none 0 0) 0 [] (World.ownsRow_nil _ _ _ _) u m news hu h1 hbytes hpos (Nat.le_refl _)
  rw [hrun] at hrun2
  cases hrun2
  exact .inr fun g hgv=>(h4.lt g hgv).1
 ·obtain ⟨hl,ao,ucap,rfl,huc,hum,h0,hcell⟩:=hu
  cases ao with
  | none =>
   have hcap:=h0 rfl
   subst hcap
   have hm0 : m = 0:=by omega
   subst hm0
   have:=run_append_owned_none (P:=P) w base t ty e i size ht hi _ n xs hown
   rw [this] at hrun
   cases hrun
   exact .inl rfl
  | some ad =>
   have hsrc : ∀ j u,news[j]? = some u -> w.cell? (ad.add j) = some u:=fun j u hj=>by
    obtain ⟨b,off,e',hc'⟩:=hcell j u hj
    simp only [Option.some.injEq] at e'
    subst e'
    rw [add_plain]; exact hc'
   by_cases hroom : n + m <= cap
   ·subst hsize
    have hr:=run_append_room (P:=P) w t ty e i ht hi g n cap cur hg ad m ucap news hl hsrc h1 hroom (by rw [hcs,hl,<- Nat.add_mul]; exact Nat.mul_le_mul_right _ hroom)
    rw [hrun] at hr
    cases hr
    exact .inl rfl
   ·obtain ⟨v2,w2,hrun2,r1,_⟩:=run_append_arg_grows (P:=P) w t ty e i z size bytes ht hi hz hsize hby hzs hsz ⟨g,0,none⟩ n cap xs hown.1 (hown.cells (g:=g) rfl) ad m ucap news hl hsrc (by omega) h63 hbytes
    rw [hrun] at hrun2
    cases hrun2
    exact .inr fun g hgv=>(r1.lt g hgv).1

section
variable {P : Program} {ops : Array Oper} {rest : List Oper} {o : Oper} {a : Act} {w : World} {Q : Exit -> Act -> World -> Prop}
theorem zeg (hgd : o.guard = none) (s x : Operand) (t : TypeId) (ho : o.op = .call { callee:=.builtin .append,args:=#[s,x],argTypes:=#[t,t] })
  (base : Nat) (e : TypeId) (i : TypeInfo) (z : Value) (size bytes : Nat) (ht : P.underlying t = some (.slice e)) (hi : P.info? e = some i) (hz : i.zero = some z)
  (hsize : i.size = size) (hby : i.bytes = bytes) (hzs : z.cells.size = size) (hsz : 0 < size)
  (v : Value) (n : Nat) (xs : List Value) (hs : a.eval s = v) (hown : w.ownsRow base e size v n xs) (u : Value) (hx : a.eval x = u) (m : Nat) (news : List Value) (hu : Row w size u m news) (h1 : ∀ u ∈ news,u.oneCell' = true)
  (hbytes : (n + m) * bytes <= 140737488355328) (hpos : 0 < bytes) (hbase : base <= w.heap.size)
  (h : ∀ v' w',w'.ownsRow base e size v' (n + m) (xs ++ news) -> w.grownBy w' v.ownBlock -> (v'.ownBlock = v.ownBlock ∨ ∀ g,v'.ownBlock = some g -> w.heap.size <= g) -> wpList P ops Q rest (a.put o.dst v') w') : wpList P ops Q (o :: rest) a w:=by
 refine wpList_plain hgd fun K hK=>?_
 obtain ⟨v',w',hrun,h2,h3,h4⟩:=zhA (P:=P) w base t o.type e i z size bytes ht hi hz hsize hby hzs hsz v n xs hown u m news hu h1 hbytes hpos hbase
 unfold Oper.wp
 simp [execOp,ho,resolve,invoke,builtin,hs,hx,hrun,Result.andThen]
 exact hK _ _ (h v' w' h2 h3 h4)
end
open Go Go.RowKit

open Go Go.RowKit

section
variable {l : List (List Cl)} {m : Mc} {ks : List Nat} {bz : Option Nat}

end
open Go Go.RowKit

section
variable {l : List (List Cl)} {m : Mc} {ks : List Nat} {bz : Option Nat}

def zn7 (m : Mc) : Bool:=m.clients.all fun c=>decide ((c.calls.length : Int) <= c.at_)
theorem zoJ (h : MInv l m ks bz) (hi : zn7 m = true) {i : Nat} {c : Cn} (hc : m.clients[i]? = some c) : c.got.length = (l.getD i []).length /\ (zbK m.store.past i).length = (l.getD i []).length /\ c.got = zcK m.store.past i:=by
 have ci:=h.clients i c hc
 have hm : c ∈ m.clients:=List.mem_of_getElem? hc
 unfold zn7 at hi
 rw [List.all_eq_true] at hi
 have:=hi c hm
 rw [decide_eq_true_eq,ci.calls,ci.at_] at this
 have h1:=ci.most
 have h2:=ci.step
 have h3:=zga m.store.past i
 refine ⟨by omega,by omega,?_⟩
 have hg:=ci.got
 rwa [List.take_of_length_le (by omega)] at hg
end
open Go Go.RowKit

theorem zk7 (a b : List Rq) (i : Nat) : zbK (a ++ b) i = zbK a i ++ zbK b i:=List.filter_append ..
theorem mine_cons (r : Rq) (b : List Rq) (i : Nat) : zbK (r :: b) i = if r.client = (i : Int) then r :: zbK b i else zbK b i:=by
 unfold zbK
 rw [List.filter_cons]
 by_cases h : r.client = (i : Int)
 ·simp [h]
 ·simp [h]

section
variable {l : List (List Cl)} {m : Mc} {ks : List Nat} {bz : Option Nat}

theorem zmR (h : MInv l m ks bz) {i : Nat} (hi : i < l.length) : ∃ c,m.clients[i]? = some c:=by
 have hi2 : i < m.clients.length:=by rw [h.nc]; exact hi
 exact ⟨m.clients[i],List.getElem?_eq_getElem hi2⟩

theorem zpC (h : MInv l m ks bz) {j : Nat} {r : Rq} (hr : m.store.past[j]? = some r) :
  ∃ i : Nat,i < l.length /\ r = zbN l i (zbK (m.store.past.take j) i).length /\ (zbK (m.store.past.take j) i).length < (l.getD i []).length:=by
 obtain ⟨i,t,hi,ht,rfl⟩:=h.past r (List.mem_of_getElem? hr)
 obtain ⟨c,hc⟩:=zmR h hi
 have ci:=h.clients i c hc
 have hj : j < m.store.past.length:=(List.getElem?_eq_some_iff.1 hr).1
 have hsplit : m.store.past = m.store.past.take j ++ zbN l i t :: m.store.past.drop (j + 1):=by
  have hx : m.store.past[j] = zbN l i t:=(List.getElem?_eq_some_iff.1 hr).2
  have:=List.drop_eq_getElem_cons hj
  rw [hx] at this
  rw [<- this,List.take_append_drop]
 have hm : zbK m.store.past i = zbK (m.store.past.take j) i ++ zbN l i t :: zbK (m.store.past.drop (j + 1)) i:=by
  conv=>lhs; rw [hsplit]
  rw [zk7,mine_cons,if_pos (show (zbN l i t).client = (i : Int) from rfl)]
 have hlen : (zbK (m.store.past.take j) i).length < (zbK m.store.past i).length:=by rw [hm]; simp
 have hk : (zbK m.store.past i)[(zbK (m.store.past.take j) i).length]? = some (zbN l i t):=by rw [hm]; simp
 have hk2 : (zbK m.store.past i)[(zbK (m.store.past.take j) i).length]? = some (zbN l i (zbK (m.store.past.take j) i).length):=by
  have e:=congrArg (fun x=>x[(zbK (m.store.past.take j) i).length]?) ci.done
  simp only [List.getElem?_map,List.getElem?_range hlen,Option.map_some] at e
  exact e
 rw [hk] at hk2
 injection hk2 with hk2
 exact ⟨i,hi,hk2,Nat.lt_of_lt_of_le hlen ci.most⟩

end

/-! What was done stays. -/

structure Grow (m m' : Mc) : Prop where
 past : ∃ s,m'.store.past = m.store.past ++ s
 len : m'.clients.length = m.clients.length
 got : ∀ (i : Nat) (c : Cn),m.clients[i]? = some c -> ∃ (c' : Cn) (t : List Rp),m'.clients[i]? = some c' /\ c'.got = c.got ++ t

theorem Grow.refl (m : Mc) : Grow m m:=⟨⟨[],by simp⟩,rfl,fun i c h=>⟨c,[],h,by simp⟩⟩
theorem Grow.trans {a b c : Mc} (h : Grow a b) (k : Grow b c) : Grow a c:=by
 refine ⟨?_,k.len.trans h.len,fun i x hx=>?_⟩
 ·obtain ⟨s,hs⟩:=h.past
  obtain ⟨t,ht⟩:=k.past
  exact ⟨s ++ t,by rw [ht,hs,List.append_assoc]⟩
 ·obtain ⟨y,t,hy,e⟩:=h.got i x hx
  obtain ⟨z,u,hz,f⟩:=k.got i y hy
  exact ⟨z,t ++ u,hz,by rw [f,e,List.append_assoc]⟩

theorem zii {m : Mc} {st : St} {sv : Sv} {k : Nat} {x y : Cn} (hs : ∃ s,st.past = m.store.past ++ s) (hk : m.clients.getD k (zb0 []) = x) (hy : ∃ t,y.got = x.got ++ t) :
  Grow m { m with store:=st,server:=sv,clients:=m.clients.set k y }:=by
 refine ⟨hs,by simp,fun i c hc=>?_⟩
 by_cases hik : k = i
 ·subst hik
  have e : c = x:=by rw [<- hk,List.getD_eq_getElem?_getD,hc]; rfl
  subst e
  obtain ⟨t,ht⟩:=hy
  exact ⟨y,t,List.getElem?_set_self (List.getElem?_eq_some_iff.1 hc).1,ht⟩
 ·exact ⟨c,[],by rw [List.getElem?_set_ne hik]; exact hc,by simp⟩

theorem zmp (c : Cn) (me gen : Int) (up : Bool) : ∃ t,(zcH c me gen up).1.got = c.got ++ t:=by
 unfold zcH
 cases hb : c.box with
 | nil =>
  simp only []
  repeat' split
  all_goals exact ⟨[],by simp⟩
 | cons b r =>
  simp only []
  split
  ·exact ⟨_,rfl⟩
  ·exact ⟨[],by simp⟩
theorem ziz (s : St) (v : Sv) : (zaL s v).1.past = s.past ∨ ∃ r,(zaL s v).1.past = s.past ++ [r]:=by
 unfold zaL
 by_cases hb : v.busy = true
 ·rw [if_pos hb]
  cases v.plan with
  | nil=>exact .inr ⟨_,rfl⟩
  | cons q rest =>
   left
   show (zav s q).past = s.past
   unfold zav
   split <;> rfl
 ·rw [if_neg hb]
  left
  cases v.box with
  | nil=>rfl
  | cons b r =>
   simp only []
   repeat' split
   all_goals rfl
theorem znY (c : Cn) (b : List UInt8) : (zcs c b).got = c.got:=by
 unfold zcs
 split <;> rfl

theorem zpy (m : Mc) (kind n : Int) : (doM m kind n).1.store.past = m.store.past ∨ ∃ r,(doM m kind n).1.store.past = m.store.past ++ [r]:=by
 unfold doM
 simp only []
 by_cases h1 : kind = 1
 ·rw [if_pos h1]
  left
  repeat' split
  all_goals rfl
 rw [if_neg h1]
 by_cases h2 : kind = 2
 ·rw [if_pos h2]
  repeat' split
  all_goals first | exact .inl rfl | exact ziz _ _
 rw [if_neg h2]
 by_cases h3 : kind = 3
 ·rw [if_pos h3]
  left
  unfold zcT
  repeat' split
  all_goals rfl
 rw [if_neg h3]
 by_cases h4 : kind = 4
 ·rw [if_pos h4]
  left
  show (zdB m).store.past = _
  unfold zdB
  repeat' split
  all_goals rfl
 rw [if_neg h4]
 exact .inl rfl

theorem zpc (m : Mc) (kind n : Int) : Grow m (doM m kind n).1:=by
 unfold doM
 simp only []
 by_cases h1 : kind = 1
 ·rw [if_pos h1]
  by_cases h2 : n < 0 ∨ (m.clients.length : Int) <= n
  ·rw [if_pos h2]; exact Grow.refl m
  rw [if_neg h2]
  by_cases h3 : (zcH (m.clients.getD n.toNat (zb0 [])) n m.server.gen m.up).2.2 ≠ 0
  ·rw [if_pos h3]; exact Grow.refl m
  rw [if_neg h3]
  by_cases h4 : (zcH (m.clients.getD n.toNat (zb0 [])) n m.server.gen m.up).2.1 ≠ []
  ·rw [if_pos h4]
   by_cases h5 : (zcj m.server (zcH (m.clients.getD n.toNat (zb0 [])) n m.server.gen m.up).2.1).2 ≠ 0
   ·rw [if_pos h5]; exact Grow.refl m
   rw [if_neg h5]
   exact zii (st:=m.store) ⟨[],by simp⟩ rfl (zmp _ _ _ _)
  ·rw [if_neg h4]
   exact zii (st:=m.store) (sv:=m.server) ⟨[],by simp⟩ rfl (zmp _ _ _ _)
 rw [if_neg h1]
 by_cases h2 : kind = 2
 ·rw [if_pos h2]
  by_cases h3 : ¬ m.up = true
  ·rw [if_pos h3]; exact Grow.refl m
  rw [if_neg h3]
  by_cases h4 : (zaL m.store m.server).2.2.2 ≠ 0
  ·rw [if_pos h4]; exact Grow.refl m
  rw [if_neg h4]
  have hp : ∃ s,(zaL m.store m.server).1.past = m.store.past ++ s:=by
   rcases ziz m.store m.server with h | ⟨r,h⟩
   ·exact ⟨[],by rw [h]; simp⟩
   ·exact ⟨_,h⟩
  by_cases h5 : (zaL m.store m.server).2.2.1 ≠ []
  ·rw [if_pos h5]
   by_cases h6 : ((zaL m.store m.server).2.2.1.getD 1 0).toNat < m.clients.length
   ·rw [if_pos h6]
    exact zii hp rfl ⟨[],by rw [znY]; simp⟩
   ·rw [if_neg h6]
    exact ⟨hp,rfl,fun i c h=>⟨c,[],h,by simp⟩⟩
  ·rw [if_neg h5]
   exact ⟨hp,rfl,fun i c h=>⟨c,[],h,by simp⟩⟩
 rw [if_neg h2]
 by_cases h3 : kind = 3
 ·rw [if_pos h3]
  unfold zcT
  repeat' split
  all_goals exact ⟨⟨[],by simp⟩,rfl,fun i c h=>⟨c,[],h,by simp⟩⟩
 rw [if_neg h3]
 by_cases h4 : kind = 4
 ·rw [if_pos h4]
  show Grow m (zdB m)
  unfold zdB
  repeat' split
  all_goals exact ⟨⟨[],by simp [zbB]⟩,rfl,fun i c h=>⟨c,[],h,by simp⟩⟩
 rw [if_neg h4]
 exact Grow.refl m

/-! A machine is whole. -/

/-! Alone it is as one by one. -/

theorem zlG {calls : List Cl} {m : Mc} {ks : List Nat} {bz : Option Nat} (h : MInv [calls] m ks bz) : zbK m.store.past 0 = m.store.past:=by
 unfold zbK
 rw [List.filter_eq_self]
 intro r hr
 obtain ⟨i,t,hi,-,rfl⟩:=h.past r hr
 have : i = 0:=by simpa using hi
 subst this
 simp [zbN]

theorem zlQ {calls : List Cl} {m : Mc} {ks : List Nat} {bz : Option Nat} (h : MInv [calls] m ks bz) : zcK m.store.past 0 = (zdN (m.store.past.map Rq.call)).2.map fun x=>⟨x.1,x.2⟩:=by
 unfold zcK
 have hall : ∀ x ∈ m.store.past.zip (zdN (m.store.past.map Rq.call)).2,decide (x.1.client = ((0 : Nat) : Int)) = true:=fun x hx=>by
  have hm:=(List.of_mem_zip hx).1
  obtain ⟨i,t,hi,-,e⟩:=h.past x.1 hm
  have : i = 0:=by simpa using hi
  subst this
  rw [e]
  simp [zbN]
 rw [List.filter_eq_self.2 hall]
 have hlen : (zdN (m.store.past.map Rq.call)).2.length = m.store.past.length:=by rw [zj8]; simp
 generalize (zdN (m.store.past.map Rq.call)).2 = q at *
 clear hall h
 generalize m.store.past = p at *
 induction p generalizing q with
 | nil=>cases q with
  | nil=>rfl
  | cons _ _=>cases hlen
 | cons r p ih=>cases q with
  | nil=>cases hlen
  | cons x q =>
   simp only [List.zip_cons_cons,List.map_cons]
   rw [ih q (by simpa using hlen)]

theorem zqy {calls : List Cl} {m : Mc} {ks : List Nat} {bz : Option Nat} (h : MInv [calls] m ks bz) (hi : zn7 m = true) :
  m.clients.length = 1 /\ ∀ c,m.clients[0]? = some c -> c.got = (zdN calls).2.map (fun x=>⟨x.1,x.2⟩) /\ zbP (zaG m.store.cells m.store.undo) = (zdN calls).1:=by
 refine ⟨h.nc,fun c hc=>?_⟩
 obtain ⟨-,h2,h3⟩:=zoJ h hi hc
 have ci:=h.clients 0 c hc
 have hp : m.store.past.map Rq.call = calls:=by
  rw [<- zlG h,ci.done,h2]
  refine List.ext_getElem (by simp) fun k k1 k2=>?_
  simp [zbN,k2]
 refine ⟨by rw [h3,zlQ h,hp],by rw [h.nm]; unfold zdK; rw [hp]⟩

open Go Go.RowKit

theorem znI {i t : Nat} {r : Rp} (hi : i < 3) (ht : t < 8) (h : zoX r) : zbv ⟨i,t,r⟩ = 0:=by
 obtain ⟨h1,h2,h3,h4,h5⟩:=h
 unfold zbv
 rw [if_neg]
 simp only []
 omega
theorem zmg {l : List (List Cl)} (hl : zbF l) {m : Mc} {ks : List Nat} {bz : Option Nat} (h : MInv l m ks bz) :
  (zaL m.store m.server).2.2.1 = [] ∨ ∃ (i : Nat) (t : Int) (r : Rp),zbv ⟨i,t,r⟩ = 0 /\ i < m.clients.length /\ (zaL m.store m.server).2.2.1 = zch ⟨i,t,r⟩:=by
 have h3:=hl.1
 have h8 : ∀ i,(l.getD i []).length <= 8:=fun i=>by
  rw [List.getD_eq_getElem?_getD]
  cases e : l[i]? with
  | none=>simp
  | some x=>exact (hl.2 x (List.mem_of_getElem? e)).1
 cases bz with
 | some i =>
  have hbusy : m.server.busy = true:=h.busy
  obtain ⟨hi,w2,w3,w4,w5⟩:=h.work i rfl
  obtain ⟨c,hc⟩ : ∃ c,m.clients[i]? = some c:=⟨_,List.getElem?_eq_getElem (by rw [h.nc]; exact hi)⟩
  have ci:=h.clients i c hc
  rw [zd9 hc] at w2
  cases hp : m.server.plan with
  | cons q rest=>rw [zhS hbusy hp]; exact .inl rfl
  | nil =>
   have p5 : c.got.length < (l.getD i []).length:=by
    cases ci.phase with
    | rest a b=>exact absurd rfl b
    | wait a b=>exact absurd rfl b
    | work a b d e f g k=>exact g
    | hear a b=>exact absurd rfl b
    | lost a b=>exact absurd rfl b
   have hk:=zfJ hl hi p5
   rw [zhb hbusy hp,w2]
   refine .inr ⟨i,c.got.length,m.server.says,znI (by omega) (by have:=h8 i; omega) ?_,by rw [h.nc]; exact hi,rfl⟩
   rw [w3,w2]
   exact zmu (zgW hl h.past) hk
 | none =>
  have hbusy : m.server.busy = false:=h.busy
  cases ks with
  | nil=>rw [zi2 hbusy (by rw [h.box]; rfl)]; exact .inl rfl
  | cons k ks =>
   have hk : k < l.length:=h.ksl k (by simp)
   obtain ⟨c,hc⟩ : ∃ c,m.clients[k]? = some c:=⟨_,List.getElem?_eq_getElem (by rw [h.nc]; exact hk)⟩
   have ci:=h.clients k c hc
   have p5 : c.got.length < (l.getD k []).length:=by
    cases ci.phase with
    | rest a=>exact absurd (by simp) a
    | wait a b d e f g=>exact g
    | work a=>exact absurd (by simp) a
    | hear a=>exact absurd (by simp) a
    | lost a=>exact absurd (by simp) a
   have hbox : m.server.box = zcq (zbN l k c.got.length) :: ks.map (fun k=>zcq (zbN l k (zdi m.clients k))):=by
    rw [h.box,List.map_cons,zd9 hc]
   have hlast:=ci.last
   have htl:=zga m.store.past k
   have hmost:=ci.most
   have hS:=serve_take (s:=m.store) hbusy hbox (zhv hl hk p5)
   rw [show (zbN l k c.got.length).client = (k : Int) from rfl,hlast] at hS
   rw [hS]
   by_cases hz : (zbK m.store.past k).length = 0
   ·rw [if_pos hz,if_neg (by simp)]
    exact .inl rfl
   ·rw [if_neg hz]
    have h8k:=h8 k
    repeat' split
    ·exact .inr ⟨k,((zbK m.store.past k).length - 1 : Nat),_,zjJ hl h.past hk (by omega) (by omega),by rw [h.nc]; exact hk,rfl⟩
    ·exact .inl rfl
    ·exact .inl rfl
end Go.Mk

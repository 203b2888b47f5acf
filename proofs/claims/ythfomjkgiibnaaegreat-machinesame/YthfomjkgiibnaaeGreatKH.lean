/- Texts of the proof, merged: Math26 Mem11 Math28 Math14 Math15 Math16 Math17. -/
import Derived.Test.YthfomjkgiibnaaeGreatKA
import Derived.Test.YthfomjkgiibnaaeGreatKD
import Derived.Test.YthfomjkgiibnaaeGreatKF
import Derived.Test.YthfomjkgiibnaaeGreatKG

namespace Go.Mk
open Go Go.RowKit

def zgB : List Cl -> Int
 | []=>0
 | x :: l=>if wrongCl x ≠ 0 then wrongCl x else zgB l
def errL : List (List Cl) -> Int
 | []=>0
 | c :: l=>if 8 < c.length then 4 else if zgB c ≠ 0 then zgB c else errL l
def zf7 (l : List (List Cl)) : Int:=if 3 < l.length then 5 else errL l

theorem zhY : ∀ {c : List Cl},(∀ y ∈ c,wrongCl y = 0) -> zgB c = 0
 | [],_=>rfl
 | x :: l,h=>by
  unfold zgB
  rw [if_neg (by simp [h x (by simp)])]
  exact zhY fun y hy=>h y (by simp [hy])
theorem zkA : ∀ {c : List Cl} {q : Nat} {y : Cl},(∀ (j : Nat) (z : Cl),j < q -> c[j]? = some z -> wrongCl z = 0) -> c[q]? = some y -> wrongCl y ≠ 0 -> zgB c = wrongCl y
 | [],q,y,_,hy,_=>by simp at hy
 | x :: l,0,y,_,hy,hw=>by
  simp at hy
  subst hy
  unfold zgB
  rw [if_pos hw]
 | x :: l,q + 1,y,h,hy,hw=>by
  unfold zgB
  rw [if_neg (by simp [h 0 x (by omega) rfl])]
  exact zkA (q:=q) (fun j z hj hz=>h (j + 1) z (by omega) (by simpa using hz)) (by simpa using hy) hw
theorem znd : ∀ {l : List (List Cl)},(∀ c ∈ l,c.length <= 8 /\ ∀ x ∈ c,wrongCl x = 0) -> errL l = 0
 | [],_=>rfl
 | c :: l,h=>by
  obtain ⟨h1,h2⟩:=h c (by simp)
  unfold errL
  rw [if_neg (by omega),if_neg (by simp [zhY h2])]
  exact znd fun d hd=>h d (by simp [hd])
theorem zln : ∀ {l : List (List Cl)} {k : Nat} {x : List Cl},(∀ (j : Nat) (y : List Cl),j < k -> l[j]? = some y -> y.length <= 8 /\ ∀ z ∈ y,wrongCl z = 0) -> l[k]? = some x -> errL l = errL (x :: l.drop (k + 1))
 | [],k,x,_,hx=>by simp at hx
 | c :: l,0,x,_,hx=>by
  simp at hx
  subst hx
  rfl
 | c :: l,k + 1,x,h,hx=>by
  obtain ⟨h1,h2⟩:=h 0 c (by omega) rfl
  have ih:=zln (l:=l) (k:=k) (x:=x) (fun j y hj hy=>h (j + 1) y (by omega) (by simpa using hy)) (by simpa using hx)
  rw [errL,if_neg (by omega),if_neg (by simp [zhY h2]),ih]
  rfl
theorem zkm {l : List (List Cl)} (h : 3 < l.length) : zf7 l = 5:=if_pos h
theorem zks {l : List (List Cl)} (h3 : ¬ 3 < l.length) {k : Nat} {x : List Cl} (h : ∀ (j : Nat) (y : List Cl),j < k -> l[j]? = some y -> y.length <= 8 /\ ∀ z ∈ y,wrongCl z = 0) (hx : l[k]? = some x) (h8 : 8 < x.length) : zf7 l = 4:=by
 unfold zf7
 rw [if_neg h3,zln h hx,errL,if_pos h8]
theorem zkb {l : List (List Cl)} (h3 : ¬ 3 < l.length) {k q : Nat} {x : List Cl} {y : Cl} (h : ∀ (j : Nat) (y : List Cl),j < k -> l[j]? = some y -> y.length <= 8 /\ ∀ z ∈ y,wrongCl z = 0) (hx : l[k]? = some x) (h8 : ¬ 8 < x.length) (ha : ∀ (j : Nat) (z : Cl),j < q -> x[j]? = some z -> wrongCl z = 0) (hy : x[q]? = some y) (hw : wrongCl y ≠ 0) : zf7 l = wrongCl y:=by
 have hf:=zkA ha hy hw
 unfold zf7
 rw [if_neg h3,zln h hx,errL,if_neg h8,if_pos (by rw [hf]; exact hw),hf]
theorem zfV {l : List (List Cl)} (h : zbK l) : zf7 l = 0:=by
 unfold zf7
 rw [if_neg (by have:=h.1; omega)]
 exact znd h.2
open Go Go.RowKit

theorem zh1 {P : Program} (w : World) (base : Nat) (t ty e : TypeId) (i : TypeInfo) (z : Value) (size bytes : Nat) (ht : P.underlying t = some (.slice e)) (hi : P.info? e = some i) (hz : i.zero = some z)
  (hsize : i.size = size) (hby : i.bytes = bytes) (hzs : z.cells.size = size) (hsz : 0 < size)
  (v : Value) (n : Nat) (xs : List Value) (hown : w.ownsRow base e size v n xs) (u : Value) (m : Nat) (news : List Value) (hu : Row w size u m news) (h1 : ∀ u ∈ news,u.oneCell' = true)
  (hbytes : (n + m) * bytes <= 140737488355328) (hpos : 0 < bytes) (hbase : base <= w.heap.size) :
  ∃ v' w',(Builtin.append_ #[t,t] ty #[v,u]).run P w = .ok v' w' /\ w'.ownsRow base e size v' (n + m) (xs ++ news) /\ w.grownBy w' v.ownBlock /\ (v'.ownBlock = v.ownBlock ∨ ∀ g,v'.ownBlock = some g -> w.heap.size <= g):=by
 obtain ⟨v',w',hrun,h2,h3⟩:=zce (P:=P) w base t ty e i z size bytes ht hi hz hsize hby hzs hsz v n xs hown u m news hu h1 hbytes hpos hbase
 refine ⟨v',w',hrun,h2,h3,?_⟩
 have h63 : n + m <= maxLen:=by
  have : n + m <= (n + m) * bytes:=Nat.le_mul_of_pos_right _ hpos
  unfold maxLen
  omega
 rcases hown.2 with ⟨rfl,hn⟩ | ⟨g,cap,cur,rfl,hbg,hg,hnc,hcm,hcs,htake⟩
 ·-- onto nothing: whatever comes is new
  subst hn
  have hx : xs = []:=List.eq_nil_of_length_eq_zero (by simpa using hown.1)
  subst hx
  obtain ⟨v2,w2,hrun2,h4,_⟩:=zce (P:=P) w w.heap.size t ty e i z size bytes ht hi hz hsize hby hzs hsz (.slice none 0 0) 0 [] (World.ownsRow_nil _ _ _ _) u m news hu h1 hbytes hpos (Nat.le_refl _)
  rw [hrun] at hrun2
  cases hrun2
  exact .inr fun g hgv=>(h4.lt g hgv).1
 ·obtain ⟨hl,ao,ucap,rfl,huc,hum,h0,hcell⟩:=hu
  cases ao with
  | none =>
   have hcap:=h0 rfl
   subst hcap
   have hm0 : m = 0:=by omega
   subst hm0
   have:=run_append_owned_none (P:=P) w base t ty e i size ht hi _ n xs hown
   rw [this] at hrun
   cases hrun
   exact .inl rfl
  | some ad =>
   have hsrc : ∀ j u,news[j]? = some u -> w.cell? (ad.add j) = some u:=fun j u hj=>by
    obtain ⟨b,off,e',hc'⟩:=hcell j u hj
    simp only [Option.some.injEq] at e'
    subst e'
    rw [add_plain]; exact hc'
   by_cases hroom : n + m <= cap
   ·subst hsize
    have hr:=run_append_room (P:=P) w t ty e i ht hi g n cap cur hg ad m ucap news hl hsrc h1 hroom (by rw [hcs,hl,<- Nat.add_mul]; exact Nat.mul_le_mul_right _ hroom)
    rw [hrun] at hr
    cases hr
    exact .inl rfl
   ·obtain ⟨v2,w2,hrun2,r1,_⟩:=run_append_arg_grows (P:=P) w t ty e i z size bytes ht hi hz hsize hby hzs hsz ⟨g,0,none⟩ n cap xs hown.1 (hown.cells (g:=g) rfl) ad m ucap news hl hsrc (by omega) h63 hbytes
    rw [hrun] at hrun2
    cases hrun2
    exact .inr fun g hgv=>(r1.lt g hgv).1

section
variable {P : Program} {ops : Array Oper} {rest : List Oper} {o : Oper} {a : Act} {w : World} {Q : Exit -> Act -> World -> Prop}
theorem zez (hgd : o.guard = none) (s x : Operand) (t : TypeId) (ho : o.op = .call { callee:=.builtin .append,args:=#[s,x],argTypes:=#[t,t] })
  (base : Nat) (e : TypeId) (i : TypeInfo) (z : Value) (size bytes : Nat) (ht : P.underlying t = some (.slice e)) (hi : P.info? e = some i) (hz : i.zero = some z)
  (hsize : i.size = size) (hby : i.bytes = bytes) (hzs : z.cells.size = size) (hsz : 0 < size)
  (v : Value) (n : Nat) (xs : List Value) (hs : a.eval s = v) (hown : w.ownsRow base e size v n xs) (u : Value) (hx : a.eval x = u) (m : Nat) (news : List Value) (hu : Row w size u m news) (h1 : ∀ u ∈ news,u.oneCell' = true)
  (hbytes : (n + m) * bytes <= 140737488355328) (hpos : 0 < bytes) (hbase : base <= w.heap.size)
  (h : ∀ v' w',w'.ownsRow base e size v' (n + m) (xs ++ news) -> w.grownBy w' v.ownBlock -> (v'.ownBlock = v.ownBlock ∨ ∀ g,v'.ownBlock = some g -> w.heap.size <= g) -> wpList P ops Q rest (a.put o.dst v') w') : wpList P ops Q (o :: rest) a w:=by
 refine wpList_plain hgd fun K hK=>?_
 obtain ⟨v',w',hrun,h2,h3,h4⟩:=zh1 (P:=P) w base t o.type e i z size bytes ht hi hz hsize hby hzs hsz v n xs hown u m news hu h1 hbytes hpos hbase
 unfold Oper.wp
 simp [execOp,ho,resolve,invoke,builtin,hs,hx,hrun,Result.andThen]
 exact hK _ _ (h v' w' h2 h3 h4)
end
open Go Go.RowKit

theorem zpn {i t : Nat} {r : Rp} (hi : i < 3) (ht : t < 8) (h : zqt r) : zbz ⟨i,t,r⟩ = 0:=by
 obtain ⟨h1,h2,h3,h4,h5⟩:=h
 unfold zbz
 rw [if_neg]
 simp only []
 omega
theorem zmG {l : List (List Cl)} (hl : zbK l) {m : Mc} {ks : List Nat} {bz : Option Nat} (h : MInv l m ks bz) :
  (zaL m.store m.server).2.2.1 = [] ∨ ∃ (i : Nat) (t : Int) (r : Rp),zbz ⟨i,t,r⟩ = 0 /\ i < m.clients.length /\ (zaL m.store m.server).2.2.1 = zcm ⟨i,t,r⟩:=by
 have h3:=hl.1
 have h8 : ∀ i,(l.getD i []).length <= 8:=fun i=>by
  rw [List.getD_eq_getElem?_getD]
  cases e : l[i]? with
  | none=>simp
  | some x=>exact (hl.2 x (List.mem_of_getElem? e)).1
 cases bz with
 | some i =>
  have hbusy : m.server.busy = true:=h.busy
  obtain ⟨hi,w2,w3,w4,w5⟩:=h.work i rfl
  obtain ⟨c,hc⟩ : ∃ c,m.clients[i]? = some c:=⟨_,List.getElem?_eq_getElem (by rw [h.nc]; exact hi)⟩
  have ci:=h.clients i c hc
  rw [zes hc] at w2
  cases hp : m.server.plan with
  | cons q rest=>rw [zim hbusy hp]; exact .inl rfl
  | nil =>
   have p5 : c.got.length < (l.getD i []).length:=by
    cases ci.phase with
    | rest a b=>exact absurd rfl b
    | wait a b=>exact absurd rfl b
    | work a b d e f g k=>exact g
    | hear a b=>exact absurd rfl b
    | lost a b=>exact absurd rfl b
   have hk:=zeR hl hi p5
   rw [zhp hbusy hp,w2]
   refine .inr ⟨i,c.got.length,m.server.says,zpn (by omega) (by have:=h8 i; omega) ?_,by rw [h.nc]; exact hi,rfl⟩
   rw [w3,w2]
   exact znp (zg9 hl h.past) hk
 | none =>
  have hbusy : m.server.busy = false:=h.busy
  cases ks with
  | nil=>rw [zjh hbusy (by rw [h.box]; rfl)]; exact .inl rfl
  | cons k ks =>
   have hk : k < l.length:=h.ksl k (by simp)
   obtain ⟨c,hc⟩ : ∃ c,m.clients[k]? = some c:=⟨_,List.getElem?_eq_getElem (by rw [h.nc]; exact hk)⟩
   have ci:=h.clients k c hc
   have p5 : c.got.length < (l.getD k []).length:=by
    cases ci.phase with
    | rest a=>exact absurd (by simp) a
    | wait a b d e f g=>exact g
    | work a=>exact absurd (by simp) a
    | hear a=>exact absurd (by simp) a
    | lost a=>exact absurd (by simp) a
   have hbox : m.server.box = zcw (zbQ l k c.got.length) :: ks.map (fun k=>zcw (zbQ l k (zds m.clients k))):=by
    rw [h.box,List.map_cons,zes hc]
   have hlast:=ci.last
   have htl:=zgd m.store.past k
   have hmost:=ci.most
   have hS:=serve_take (s:=m.store) hbusy hbox (zh7 hl hk p5)
   rw [show (zbQ l k c.got.length).client = (k : Int) from rfl,hlast] at hS
   rw [hS]
   by_cases hz : (zbN m.store.past k).length = 0
   ·rw [if_pos hz,if_neg (by simp)]
    exact .inl rfl
   ·rw [if_neg hz]
    have h8k:=h8 k
    repeat' split
    ·exact .inr ⟨k,((zbN m.store.past k).length - 1 : Nat),_,zkk hl h.past hk (by omega) (by omega),by rw [h.nc]; exact hk,rfl⟩
    ·exact .inl rfl
    ·exact .inl rfl
open Go Go.RowKit

open Go Go.RowKit

section
variable {l : List (List Cl)} {m : Mc} {ks : List Nat} {bz : Option Nat}

end
open Go Go.RowKit

section
variable {l : List (List Cl)} {m : Mc} {ks : List Nat} {bz : Option Nat}

def zoC (m : Mc) : Bool:=m.clients.all fun c=>decide ((c.calls.length : Int) <= c.at_)
theorem zox (h : MInv l m ks bz) (hi : zoC m = true) {i : Nat} {c : Cn} (hc : m.clients[i]? = some c) : c.got.length = (l.getD i []).length /\ (zbN m.store.past i).length = (l.getD i []).length /\ c.got = zcL m.store.past i:=by
 have ci:=h.clients i c hc
 have hm : c ∈ m.clients:=List.mem_of_getElem? hc
 unfold zoC at hi
 rw [List.all_eq_true] at hi
 have:=hi c hm
 rw [decide_eq_true_eq,ci.calls,ci.at_] at this
 have h1:=ci.most
 have h2:=ci.step
 have h3:=zgd m.store.past i
 refine ⟨by omega,by omega,?_⟩
 have hg:=ci.got
 rwa [List.take_of_length_le (by omega)] at hg
end
open Go Go.RowKit

theorem zlC (a b : List Rq) (i : Nat) : zbN (a ++ b) i = zbN a i ++ zbN b i:=List.filter_append ..
theorem mine_cons (r : Rq) (b : List Rq) (i : Nat) : zbN (r :: b) i = if r.client = (i : Int) then r :: zbN b i else zbN b i:=by
 unfold zbN
 rw [List.filter_cons]
 by_cases h : r.client = (i : Int)
 ·simp [h]
 ·simp [h]

section
variable {l : List (List Cl)} {m : Mc} {ks : List Nat} {bz : Option Nat}

theorem znZ (h : MInv l m ks bz) {i : Nat} (hi : i < l.length) : ∃ c,m.clients[i]? = some c:=by
 have hi2 : i < m.clients.length:=by rw [h.nc]; exact hi
 exact ⟨m.clients[i],List.getElem?_eq_getElem hi2⟩

theorem zp8 (h : MInv l m ks bz) {j : Nat} {r : Rq} (hr : m.store.past[j]? = some r) :
  ∃ i : Nat,i < l.length /\ r = zbQ l i (zbN (m.store.past.take j) i).length /\ (zbN (m.store.past.take j) i).length < (l.getD i []).length:=by
 obtain ⟨i,t,hi,ht,rfl⟩:=h.past r (List.mem_of_getElem? hr)
 obtain ⟨c,hc⟩:=znZ h hi
 have ci:=h.clients i c hc
 have hj : j < m.store.past.length:=(List.getElem?_eq_some_iff.1 hr).1
 have hsplit : m.store.past = m.store.past.take j ++ zbQ l i t :: m.store.past.drop (j + 1):=by
  have hx : m.store.past[j] = zbQ l i t:=(List.getElem?_eq_some_iff.1 hr).2
  have:=List.drop_eq_getElem_cons hj
  rw [hx] at this
  rw [<- this,List.take_append_drop]
 have hm : zbN m.store.past i = zbN (m.store.past.take j) i ++ zbQ l i t :: zbN (m.store.past.drop (j + 1)) i:=by
  conv=>lhs; rw [hsplit]
  rw [zlC,mine_cons,if_pos (show (zbQ l i t).client = (i : Int) from rfl)]
 have hlen : (zbN (m.store.past.take j) i).length < (zbN m.store.past i).length:=by rw [hm]; simp
 have hk : (zbN m.store.past i)[(zbN (m.store.past.take j) i).length]? = some (zbQ l i t):=by rw [hm]; simp
 have hk2 : (zbN m.store.past i)[(zbN (m.store.past.take j) i).length]? = some (zbQ l i (zbN (m.store.past.take j) i).length):=by
  have e:=congrArg (fun x=>x[(zbN (m.store.past.take j) i).length]?) ci.done
  simp only [List.getElem?_map,List.getElem?_range hlen,Option.map_some] at e
  exact e
 rw [hk] at hk2
 injection hk2 with hk2
 exact ⟨i,hi,hk2,Nat.lt_of_lt_of_le hlen ci.most⟩

end

/-! What was done stays. -/

structure Grow (m m' : Mc) : Prop where
 past : ∃ s,m'.store.past = m.store.past ++ s
 len : m'.clients.length = m.clients.length
 got : ∀ (i : Nat) (c : Cn),m.clients[i]? = some c -> ∃ (c' : Cn) (t : List Rp),m'.clients[i]? = some c' /\ c'.got = c.got ++ t

theorem Grow.refl (m : Mc) : Grow m m:=⟨⟨[],by simp⟩,rfl,fun i c h=>⟨c,[],h,by simp⟩⟩
theorem Grow.trans {a b c : Mc} (h : Grow a b) (k : Grow b c) : Grow a c:=by
 refine ⟨?_,k.len.trans h.len,fun i x hx=>?_⟩
 ·obtain ⟨s,hs⟩:=h.past
  obtain ⟨t,ht⟩:=k.past
  exact ⟨s ++ t,by rw [ht,hs,List.append_assoc]⟩
 ·obtain ⟨y,t,hy,e⟩:=h.got i x hx
  obtain ⟨z,u,hz,f⟩:=k.got i y hy
  exact ⟨z,t ++ u,hz,by rw [f,e,List.append_assoc]⟩

theorem zjn {m : Mc} {st : St} {sv : Sv} {k : Nat} {x y : Cn} (hs : ∃ s,st.past = m.store.past ++ s) (hk : m.clients.getD k (zb3 []) = x) (hy : ∃ t,y.got = x.got ++ t) :
  Grow m { m with store:=st,server:=sv,clients:=m.clients.set k y }:=by
 refine ⟨hs,by simp,fun i c hc=>?_⟩
 by_cases hik : k = i
 ·subst hik
  have e : c = x:=by rw [<- hk,List.getD_eq_getElem?_getD,hc]; rfl
  subst e
  obtain ⟨t,ht⟩:=hy
  exact ⟨y,t,List.getElem?_set_self (List.getElem?_eq_some_iff.1 hc).1,ht⟩
 ·exact ⟨c,[],by rw [List.getElem?_set_ne hik]; exact hc,by simp⟩

theorem znf (c : Cn) (me gen : Int) (up : Bool) : ∃ t,(zcQ c me gen up).1.got = c.got ++ t:=by
 unfold zcQ
 cases hb : c.box with
 | nil =>
  simp only []
  repeat' split
  all_goals exact ⟨[],by simp⟩
 | cons b r =>
  simp only []
  split
  ·exact ⟨_,rfl⟩
  ·exact ⟨[],by simp⟩
theorem ziS (s : St) (v : Sv) : (zaL s v).1.past = s.past ∨ ∃ r,(zaL s v).1.past = s.past ++ [r]:=by
 unfold zaL
 by_cases hb : v.busy = true
 ·rw [if_pos hb]
  cases v.plan with
  | nil=>exact .inr ⟨_,rfl⟩
  | cons q rest =>
   left
   show (zax s q).past = s.past
   unfold zax
   split <;> rfl
 ·rw [if_neg hb]
  left
  cases v.box with
  | nil=>rfl
  | cons b r =>
   simp only []
   repeat' split
   all_goals rfl
theorem zoG (c : Cn) (b : List UInt8) : (zcx c b).got = c.got:=by
 unfold zcx
 split <;> rfl

theorem zqn (m : Mc) (kind n : Int) : (doM m kind n).1.store.past = m.store.past ∨ ∃ r,(doM m kind n).1.store.past = m.store.past ++ [r]:=by
 unfold doM
 simp only []
 by_cases h1 : kind = 1
 ·rw [if_pos h1]
  left
  repeat' split
  all_goals rfl
 rw [if_neg h1]
 by_cases h2 : kind = 2
 ·rw [if_pos h2]
  repeat' split
  all_goals first | exact .inl rfl | exact ziS _ _
 rw [if_neg h2]
 by_cases h3 : kind = 3
 ·rw [if_pos h3]
  left
  unfold zc2
  repeat' split
  all_goals rfl
 rw [if_neg h3]
 by_cases h4 : kind = 4
 ·rw [if_pos h4]
  left
  show (zdW m).store.past = _
  unfold zdW
  repeat' split
  all_goals rfl
 rw [if_neg h4]
 exact .inl rfl

theorem znx (m : Mc) (kind n : Int) : Grow m (doM m kind n).1:=by
 unfold doM
 simp only []
 by_cases h1 : kind = 1
 ·rw [if_pos h1]
  by_cases h2 : n < 0 ∨ (m.clients.length : Int) <= n
  ·rw [if_pos h2]; exact Grow.refl m
  rw [if_neg h2]
  by_cases h3 : (zcQ (m.clients.getD n.toNat (zb3 [])) n m.server.gen m.up).2.2 ≠ 0
  ·rw [if_pos h3]; exact Grow.refl m
  rw [if_neg h3]
  by_cases h4 : (zcQ (m.clients.getD n.toNat (zb3 [])) n m.server.gen m.up).2.1 ≠ []
  ·rw [if_pos h4]
   by_cases h5 : (zco m.server (zcQ (m.clients.getD n.toNat (zb3 [])) n m.server.gen m.up).2.1).2 ≠ 0
   ·rw [if_pos h5]; exact Grow.refl m
   rw [if_neg h5]
   exact zjn (st:=m.store) ⟨[],by simp⟩ rfl (znf _ _ _ _)
  ·rw [if_neg h4]
   exact zjn (st:=m.store) (sv:=m.server) ⟨[],by simp⟩ rfl (znf _ _ _ _)
 rw [if_neg h1]
 by_cases h2 : kind = 2
 ·rw [if_pos h2]
  by_cases h3 : ¬ m.up = true
  ·rw [if_pos h3]; exact Grow.refl m
  rw [if_neg h3]
  by_cases h4 : (zaL m.store m.server).2.2.2 ≠ 0
  ·rw [if_pos h4]; exact Grow.refl m
  rw [if_neg h4]
  have hp : ∃ s,(zaL m.store m.server).1.past = m.store.past ++ s:=by
   rcases ziS m.store m.server with h | ⟨r,h⟩
   ·exact ⟨[],by rw [h]; simp⟩
   ·exact ⟨_,h⟩
  by_cases h5 : (zaL m.store m.server).2.2.1 ≠ []
  ·rw [if_pos h5]
   by_cases h6 : ((zaL m.store m.server).2.2.1.getD 1 0).toNat < m.clients.length
   ·rw [if_pos h6]
    exact zjn hp rfl ⟨[],by rw [zoG]; simp⟩
   ·rw [if_neg h6]
    exact ⟨hp,rfl,fun i c h=>⟨c,[],h,by simp⟩⟩
  ·rw [if_neg h5]
   exact ⟨hp,rfl,fun i c h=>⟨c,[],h,by simp⟩⟩
 rw [if_neg h2]
 by_cases h3 : kind = 3
 ·rw [if_pos h3]
  unfold zc2
  repeat' split
  all_goals exact ⟨⟨[],by simp⟩,rfl,fun i c h=>⟨c,[],h,by simp⟩⟩
 rw [if_neg h3]
 by_cases h4 : kind = 4
 ·rw [if_pos h4]
  show Grow m (zdW m)
  unfold zdW
  repeat' split
  all_goals exact ⟨⟨[],by simp [zbr]⟩,rfl,fun i c h=>⟨c,[],h,by simp⟩⟩
 rw [if_neg h4]
 exact Grow.refl m

/-! A machine is whole. -/

/-! Alone it is as one by one. -/

theorem zmt {calls : List Cl} {m : Mc} {ks : List Nat} {bz : Option Nat} (h : MInv [calls] m ks bz) : zbN m.store.past 0 = m.store.past:=by
 unfold zbN
 rw [List.filter_eq_self]
 intro r hr
 obtain ⟨i,t,hi,-,rfl⟩:=h.past r hr
 have : i = 0:=by simpa using hi
 subst this
 simp [zbQ]

theorem zmE {calls : List Cl} {m : Mc} {ks : List Nat} {bz : Option Nat} (h : MInv [calls] m ks bz) : zcL m.store.past 0 = (allCl (m.store.past.map Rq.call)).2.map fun x=>⟨x.1,x.2⟩:=by
 unfold zcL
 have hall : ∀ x ∈ m.store.past.zip (allCl (m.store.past.map Rq.call)).2,decide (x.1.client = ((0 : Nat) : Int)) = true:=fun x hx=>by
  have hm:=(List.of_mem_zip hx).1
  obtain ⟨i,t,hi,-,e⟩:=h.past x.1 hm
  have : i = 0:=by simpa using hi
  subst this
  rw [e]
  simp [zbQ]
 rw [List.filter_eq_self.2 hall]
 have hlen : (allCl (m.store.past.map Rq.call)).2.length = m.store.past.length:=by rw [ziB]; simp
 generalize (allCl (m.store.past.map Rq.call)).2 = q at *
 clear hall h
 generalize m.store.past = p at *
 induction p generalizing q with
 | nil=>cases q with
  | nil=>rfl
  | cons _ _=>cases hlen
 | cons r p ih=>cases q with
  | nil=>cases hlen
  | cons x q =>
   simp only [List.zip_cons_cons,List.map_cons]
   rw [ih q (by simpa using hlen)]

theorem zru {calls : List Cl} {m : Mc} {ks : List Nat} {bz : Option Nat} (h : MInv [calls] m ks bz) (hi : zoC m = true) :
  m.clients.length = 1 /\ ∀ c,m.clients[0]? = some c -> c.got = (allCl calls).2.map (fun x=>⟨x.1,x.2⟩) /\ zbU (zaH m.store.cells m.store.undo) = (allCl calls).1:=by
 refine ⟨h.nc,fun c hc=>?_⟩
 obtain ⟨-,h2,h3⟩:=zox h hi hc
 have ci:=h.clients 0 c hc
 have hp : m.store.past.map Rq.call = calls:=by
  rw [<- zmt h,ci.done,h2]
  refine List.ext_getElem (by simp) fun k k1 k2=>?_
  simp [zbQ,k2]
 refine ⟨by rw [h3,zmE h,hp],by rw [h.nm]; unfold zd1; rw [hp]⟩

end Go.Mk

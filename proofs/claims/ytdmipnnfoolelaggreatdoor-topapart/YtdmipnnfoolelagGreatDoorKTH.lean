/- zbb of the proof, merged: Math18 Math27 Math19 Math20 Math28 MapB. -/
import Derived.Test.YtdmipnnfoolelagGreatDoorKTG
import Derived.Test.YtdmipnnfoolelagGreatDoorKTF
import Derived.Test.YtdmipnnfoolelagGreatDoorKTA
import Derived.Maps.OwnSet
import Derived.Maps.OwnOps

namespace Go.Mk
open Go Go.RowKit

structure Done (l:List (List Cl)) (p:List Rq):Prop where
 all:∀ i,i < l.length->zaA p i=(List.range (l.getD i []).length).map (zax l i)
 past:zg6 l p
 at_:∀ (j:Nat) (r:Rq),p[j]?=some r->∃ i:Nat,i < l.length/\r=zax l i (zaA (p.take j) i).length/\(zaA (p.take j) i).length < (l.getD i []).length

theorem ztx {l:List (List Cl)} {m:Mc} {ks:List Nat} {bz:Option Nat} (h:MInv l m ks bz) (hi:zdE m=true):Done l m.store.past:=by
 refine ⟨fun i hil=>?_,h.past,fun j r hr=>zsX h hr⟩
 obtain ⟨c,hc⟩:=zk6 h hil
 have ci:=h.clients i c hc
 obtain ⟨-,h2,-⟩:=zhq h hi hc
 rw [<- h2]
 exact ci.done

def zjy (p:List Rq):List Rp:=(zdv (p.map Rq.call)).2.map fun x=>⟨x.1,x.2⟩
theorem reps_snoc (p:List Rq) (r:Rq):zjy (p++[r])=zjy p++[(zaO (names p) r.call).2]:=by
 unfold zjy names
 rw [List.map_append,List.map_cons,List.map_nil,zfy]
 simp [zfQ]
theorem zlb:names []=[]:=rfl

theorem zjQ {X:Type} {P:List X->Prop} (h0:P []) (hs:∀ l x,P l->P (l++[x])):∀ l,P l:=by
 intro l
 have:∀ n,n<=l.length->P (l.take n):=by
  intro n
  induction n with
  | zero=>intro _; simpa using h0
  | succ n ih =>
   intro hn
   rw [List.take_add_one,List.getElem?_eq_getElem (by omega)]
   exact hs _ _ (ih (by omega))
 have:=this l.length (Nat.le_refl _)
 rwa [List.take_length] at this

theorem sumTo_pick (g:Nat->Nat) (k c:Nat):∀ n,sumTo (fun i=>g i+if k=i then c else 0) n=sumTo g n+if k < n then c else 0
 | 0=>by simp [sumTo]
 | n+1=>by
  unfold sumTo
  rw [sumTo_pick g k c n]
  by_cases h1:k < n
  ·rw [if_pos h1,if_neg (by omega),if_pos (by omega)]; omega
  ·rw [if_neg h1]
   by_cases h2:k=n
   ·rw [if_pos h2,if_pos (by omega)]; omega
   ·rw [if_neg h2,if_neg (by omega)]; omega

theorem ziY {n:Nat} {p:List Rq} (hp:∀ r ∈ p,∃ i:Nat,i < n/\r.client=(i:Int)) (f:Rq->Bool):sumTo (fun i=>(zaA p i).countP f) n=p.countP f:=by
 induction p with
 | nil =>
  have:sumTo (fun i=>(zaA [] i).countP f) n=sumTo (fun _=>0) n:=rfl
  rw [this]
  clear this hp
  induction n with
  | zero=>rfl
  | succ n ih=>unfold sumTo; rw [ih]; rfl
 | cons r p ih =>
  obtain ⟨k,hk,hc⟩:=hp r (by simp)
  have e:(fun i=>(zaA (r::p) i).countP f)=fun i=>(zaA p i).countP f+if k=i then (if f r then 1 else 0) else 0:=by
   funext i
   rw [mine_cons,hc]
   by_cases hi:k=i
   ·subst hi; rw [if_pos rfl,if_pos rfl,List.countP_cons]
   ·rw [if_neg (by omega),if_neg hi]; rfl
  rw [e,sumTo_pick,if_pos hk,ih (fun x hx=>hp x (by simp [hx])),List.countP_cons]

theorem zsz {n:Nat}:∀ {p:List Rq},(∀ r ∈ p,∃ i:Nat,i < n/\r.client=(i:Int))->∀ (f:Rp->Bool),sumTo (fun i=>(told p i).countP f) n=(zjy p).countP f:=by
 intro p
 refine zjQ (P:=fun p=>(∀ r ∈ p,∃ i:Nat,i < n/\r.client=(i:Int))->∀ (f:Rp->Bool),sumTo (fun i=>(told p i).countP f) n=(zjy p).countP f) ?_ ?_ p
 ·intro hx f
  have:sumTo (fun i=>(told [] i).countP f) n=sumTo (fun _=>0) n:=rfl
  rw [this]
  clear this hx
  induction n with
  | zero=>rfl
  | succ n ih=>unfold sumTo; rw [ih]; rfl
 ·intro p r ih hp f
  obtain ⟨k,hk,hc⟩:=hp r (by simp)
  have e:(fun i=>(told (p++[r]) i).countP f)=fun i=>(told p i).countP f+if k=i then (if f (zaO (names p) r.call).2 then 1 else 0) else 0:=by
   funext i
   rw [told_snoc,hc]
   by_cases hi:k=i
   ·subst hi; rw [if_pos rfl,if_pos rfl,List.countP_append]; simp
   ·rw [if_neg (by omega),if_neg hi]; rfl
  rw [e,sumTo_pick,if_pos hk,ih (fun x hx=>hp x (by simp [hx])),reps_snoc,List.countP_append]
  simp

theorem zpx {l:List (List Cl)} {p:List Rq} (h:zg6 l p):∀ r ∈ p,∃ i:Nat,i < l.length/\r.client=(i:Int):=fun r hr=>by
 obtain ⟨i,t,hi,-,rfl⟩:=h r hr
 exact ⟨i,hi,rfl⟩

theorem zl9 {l:List (List Cl)} {p:List Rq} (hd:Done l p) {P:List Rq->Prop} (h0:P []) (hs:∀ q i,P q->i < l.length->(zaA q i).length < (l.getD i []).length->P (q++[zax l i (zaA q i).length])):P p:=by
 have:∀ n,n<=p.length->P (p.take n):=by
  intro n
  induction n with
  | zero=>intro _; simpa using h0
  | succ n ih =>
   intro hn
   have hg:p[n]?=some (p[n]'(by omega)):=List.getElem?_eq_getElem (by omega)
   obtain ⟨i,hi,e,ht⟩:=hd.at_ n _ hg
   rw [List.take_add_one,hg,e]
   exact hs _ i (ih (by omega)) hi ht
 have:=this p.length (Nat.le_refl _)
 rwa [List.take_length] at this

theorem zh2 (l:List (List Cl)) (q:List Rq) (i t k:Nat):(zaA (q++[zax l i t]) k).length=(zaA q k).length+if i=k then 1 else 0:=by
 rw [zgr]
 by_cases h0:i=k
 ·subst h0; rw [if_pos (show (zax l i t).client=(i:Int) from rfl),if_pos rfl]; simp
 ·rw [if_neg (show ¬ (zax l i t).client=(k:Int) from fun h=>h0 (by have h':(i:Int)=(k:Int):=h; omega)),if_neg h0]; rfl

theorem zoN {X:Type} (c:List X) (z:X):(List.range c.length).map (fun t=>c.getD t z)=c:=by
 refine List.ext_getElem (by simp) fun k k1 k2=>?_
 simp [k2]
theorem zdd {l:List (List Cl)} {p:List Rq} (hd:Done l p) {i:Nat} (hi:i < l.length):(zaA p i).map Rq.call=l.getD i []:=by
 rw [hd.all i hi,List.map_map]
 exact zoN (l.getD i []) zeroCl
theorem zjr {n:Nat} {p:List Rq} (hp:∀ r ∈ p,∃ i:Nat,i < n/\r.client=(i:Int)):sumTo (fun i=>(zaA p i).length) n=p.length:=by
 have:=ziY hp (fun _=>true)
 simpa using this
theorem znC {f:Nat->Nat} {n c:Nat} (h:∀ i,i < n->f i=c):sumTo f n=n * c:=by
 induction n with
 | zero=>simp [sumTo]
 | succ n ih=>unfold sumTo; rw [ih (fun i hi=>h i (by omega)),h n (by omega),Nat.add_mul]; omega

/-! zc8 counts once. -/

def putC:Cl:=⟨1,9,0,0⟩
def addC:Cl:=⟨4,9,0,1⟩
def zbw (k e:Nat):List (List Cl):=(putC::List.replicate e addC)::List.replicate (k - 1) (List.replicate e addC)
def zeO (r:Rq):Bool:=r.call.kind == 4
def isMiss (r:Rp):Bool:=r.err == 6

theorem ztI:zaO [] putC=([(9,0)],⟨0,0⟩):=rfl
theorem do_add0:zaO [] addC=([],⟨6,0⟩):=rfl
theorem zt9 (s:Int) (h0:0<=s) (h1:s<=1000):zaO [(9,s)] addC=([(9,s+1)],⟨0,s+1⟩):=by
 have ha:at1 [(9,s)] addC.name=0:=by simp [at1,addC,List.findIdx_cons]
 unfold zaO
 rw [ha]
 simp [addC,num,put1]
 omega

theorem zq8 {k e i t:Nat} (hi:i < (zbw k e).length) (ht:t < ((zbw k e).getD i []).length):(zax (zbw k e) i t).call=if i=0/\t=0 then putC else addC:=by
 unfold zbw at *
 unfold zax
 cases i with
 | zero =>
  cases t with
  | zero=>rfl
  | succ t =>
   rw [if_neg (by simp)]
   simp at ht
   simp [ht]
 | succ i =>
  rw [if_neg (by simp)]
  simp at hi
  have hg:((putC::List.replicate e addC)::List.replicate (k - 1) (List.replicate e addC)).getD (i+1) []=List.replicate e addC:=by
   simp [hi]
  simp only [hg] at ht ⊢
  simp at ht
  simp [ht]

theorem zpI {k e:Nat} {p:List Rq} (hd:Done (zbw k e) p) :
  (p.length<=1000)->((zaA p 0).length=0->names p=[]/\(zjy p).countP isMiss=p.countP zeO) /\
   (0 < (zaA p 0).length->∃ s:Nat,names p=[(9,(s:Int))]/\s<=p.countP zeO/\s+(zjy p).countP isMiss=p.countP zeO):=by
 refine zl9 hd (P:=fun p=>p.length<=1000->((zaA p 0).length=0->names p=[]/\(zjy p).countP isMiss=p.countP zeO) /\
   (0 < (zaA p 0).length->∃ s:Nat,names p=[(9,(s:Int))]/\s<=p.countP zeO/\s+(zjy p).countP isMiss=p.countP zeO)) ?_ ?_
 ·intro _
  exact ⟨fun _=>⟨rfl,rfl⟩,fun h=>by simp [zhG] at h⟩
 ·intro q i ih hi ht hlen
  have ih:=ih (by simp at hlen; omega)
  have hql:q.length<=999:=by simp at hlen; omega
  have hcq:q.countP zeO<=q.length:=List.countP_le_length
  have hc:=zq8 hi ht
  rw [names_snoc,reps_snoc,List.countP_append,List.countP_append]
  have hml:=zh2 (zbw k e) q i (zaA q i).length 0
  rw [hml]
  by_cases hz:(zaA q 0).length=0
  ·obtain ⟨hn,hm⟩:=ih.1 hz
   rw [hn]
   by_cases h0:i=0
   ·subst h0
    rw [if_pos ⟨rfl,hz⟩] at hc
    have hadd:zeO (zax (zbw k e) 0 (zaA q 0).length)=false:=by unfold zeO; rw [hc]; rfl
    rw [hc,ztI]
    refine ⟨fun h=>by simp at h,fun _=>⟨0,rfl,by omega,?_⟩⟩
    simp [hadd,isMiss,hm]
   ·rw [if_neg (fun h=>h0 h.1)] at hc
    have hadd:zeO (zax (zbw k e) i (zaA q i).length)=true:=by unfold zeO; rw [hc]; rfl
    rw [hc,do_add0,if_neg h0]
    refine ⟨fun _=>⟨rfl,?_⟩,fun h=>by omega⟩
    simp [hadd,isMiss,hm]
  ·obtain ⟨s,hn,hs,hm⟩:=ih.2 (by omega)
   have hc2:(zax (zbw k e) i (zaA q i).length).call=addC:=by
    rw [hc,if_neg]
    rintro ⟨rfl,h⟩
    exact hz h
   have hadd:zeO (zax (zbw k e) i (zaA q i).length)=true:=by unfold zeO; rw [hc2]; rfl
   rw [hn,hc2,zt9 s (by omega) (by omega)]
   refine ⟨fun h=>by omega,fun _=>⟨s+1,by simp,?_,?_⟩⟩
   ·simp [hadd]; omega
   ·simp [hadd,isMiss] at hm ⊢; omega

theorem zg0 {k e i:Nat} (hi:i < (zbw k e).length):(zbw k e).getD i []=if i=0 then putC::List.replicate e addC else List.replicate e addC:=by
 unfold zbw at *
 cases i with
 | zero=>rfl
 | succ i =>
  simp at hi
  simp [hi]
theorem zkJ {k e:Nat} (hk:1<=k):(zbw k e).length=k:=by unfold zbw; simp; omega

theorem zqU {k e:Nat} (hk:1<=k) (hk3:k<=3) (he:e<=7) {p:List Rq} (hd:Done (zbw k e) p) :
  ∃ s:Nat,names p=[(9,(s:Int))]/\s+sumTo (fun i=>(told p i).countP isMiss) k=k * e:=by
 have hl:=zkJ (e:=e) hk
 have hin:=zpx hd.past
 rw [hl] at hin
 have hlen:p.length<=24:=by
  rw [<- zjr hin]
  refine Nat.le_trans (zgP (b:=8) fun i hi=>?_) (by omega)
  have:=zdd hd (i:=i) (by omega)
  have e1:=congrArg List.length this
  rw [List.length_map,zg0 (by omega)] at e1
  split at e1 <;> simp at e1 <;> omega
 have h0:0 < (zaA p 0).length:=by
  have e1:=congrArg List.length (zdd hd (i:=0) (by omega))
  rw [List.length_map,zg0 (by omega),if_pos rfl] at e1
  simp at e1
  omega
 obtain ⟨s,hn,-,hs⟩:=(zpI hd (by omega)).2 h0
 refine ⟨s,hn,?_⟩
 rw [zsz hin,hs,<- ziY hin]
 refine znC fun i hi=>?_
 have e1:(zaA p i).countP zeO=((zaA p i).map Rq.call).countP (fun c=>c.kind == 4):=by rw [List.countP_map]; rfl
 rw [e1,zdd hd (by omega),zg0 (by omega)]
 split
 ·rw [List.countP_cons,List.countP_replicate]; rfl
 ·rw [List.countP_replicate]; rfl

/-! Nothing is lost in turning. -/

def zd3:Cl:=⟨6,1,2,0⟩
def ze2 (a b:Int) (k:Nat):List (List Cl):=[⟨1,1,0,a⟩::⟨1,2,0,b⟩::List.replicate k zd3,List.replicate k zd3]

theorem zsT {a b:Int} {k i t:Nat} (hi:i < (ze2 a b k).length) (ht:t < ((ze2 a b k).getD i []).length) :
  (zax (ze2 a b k) i t).call=if i=0/\t=0 then ⟨1,1,0,a⟩ else if i=0/\t=1 then ⟨1,2,0,b⟩ else zd3:=by
 unfold ze2 at *
 unfold zax
 match i,hi with
 | 0,_ =>
  match t with
  | 0=>rfl
  | 1=>rfl
  | t+2 =>
   rw [if_neg (by simp),if_neg (by simp)]
   simp at ht
   simp [ht]
 | 1,_ =>
  rw [if_neg (by simp),if_neg (by simp)]
  simp at ht
  simp [ht]

theorem zk4 (a:Int):zaO [] zd3=([],⟨6,0⟩)/\zaO [(1,a)] zd3=([(1,a)],⟨6,0⟩):=by
 refine ⟨rfl,?_⟩
 have h1:at1 [(1,a)] 1=0:=by simp [at1,List.findIdx_cons]
 have h2:at1 [(1,a)] 2=1:=by simp [at1,List.findIdx_cons]
 unfold zaO zd3
 simp [h1,h2]
theorem zhf (x y:Int):(zaO [(1,x),(2,y)] zd3).1=[(1,y),(2,x)]:=by
 have h1:at1 [(1,x),(2,y)] 1=0:=by simp [at1,List.findIdx_cons]
 have h2:at1 [(1,x),(2,y)] 2=1:=by simp [at1,List.findIdx_cons]
 unfold zaO zd3
 simp [h1,h2,put1,num]
theorem zpW (a:Int):(zaO [] ⟨1,1,0,a⟩).1=[(1,a)]:=by simp [zaO,at1]
theorem zrT (a b:Int):(zaO [(1,a)] ⟨1,2,0,b⟩).1=[(1,a),(2,b)]:=by
 have h2:at1 [(1,a)] 2=1:=by simp [at1,List.findIdx_cons]
 simp [zaO,h2]

theorem zsB {a b:Int} {k:Nat} {p:List Rq} (hd:Done (ze2 a b k) p):names p=[(1,a),(2,b)]∨names p=[(1,b),(2,a)]:=by
 have h2:2<=(zaA p 0).length:=by
  have e1:=congrArg List.length (zdd hd (i:=0) (by simp [ze2]))
  rw [List.length_map] at e1
  simp [ze2] at e1
  omega
 suffices h:((zaA p 0).length=0->names p=[])/\((zaA p 0).length=1->names p=[(1,a)])/\(2<=(zaA p 0).length->names p=[(1,a),(2,b)]∨names p=[(1,b),(2,a)]) from h.2.2 h2
 clear h2
 refine zl9 hd (P:=fun p=>((zaA p 0).length=0->names p=[])/\((zaA p 0).length=1->names p=[(1,a)])/\(2<=(zaA p 0).length->names p=[(1,a),(2,b)]∨names p=[(1,b),(2,a)])) ?_ ?_
 ·refine ⟨fun _=>rfl,fun h=>?_,fun h=>?_⟩ <;> simp [zhG] at h
 ·intro q i ih hi ht
  obtain ⟨i0,i1,i2⟩:=ih
  have hc:=zsT hi ht
  rw [zh2,names_snoc,hc]
  by_cases h0:i=0
  ·subst h0
   rw [if_pos rfl]
   by_cases z0:(zaA q 0).length=0
   ·rw [if_pos ⟨rfl,z0⟩,i0 z0]
    exact ⟨fun h=>by omega,fun _=>zpW a,fun h=>by omega⟩
   ·rw [if_neg (fun h=>z0 h.2)]
    by_cases z1:(zaA q 0).length=1
    ·rw [if_pos ⟨rfl,z1⟩,i1 z1]
     exact ⟨fun h=>by omega,fun h=>by omega,fun _=>.inl (zrT a b)⟩
    ·rw [if_neg (fun h=>z1 h.2)]
     refine ⟨fun h=>by omega,fun h=>by omega,fun _=>?_⟩
     rcases i2 (by omega) with h | h
     ·rw [h]; exact .inr (zhf a b)
     ·rw [h]; exact .inl (zhf b a)
  ·rw [if_neg h0,if_neg (fun h=>h0 h.1),if_neg (fun h=>h0 h.1)]
   refine ⟨fun h=>?_,fun h=>?_,fun h=>?_⟩
   ·rw [i0 (by omega),(zk4 a).1]
   ·rw [i1 (by omega),(zk4 a).2]
   ·rcases i2 (by omega) with h | h
    ·rw [h]; exact .inr (zhf a b)
    ·rw [h]; exact .inl (zhf b a)

open Go Go.RowKit

structure SzM (m:Mc):Prop where
 undo:m.store.undo.length+m.server.plan.length<=3
 answers:m.store.answers.length<=m.store.past.length

theorem zt1 (l:List (List Cl)):SzM (zcJ l):=⟨(by decide:(0:Nat)+0<=3),Nat.le_refl _⟩
theorem zrn {s:St} {v:Sv} (h1:s.undo.length+v.plan.length<=3) (h2:s.answers.length<=s.past.length) (hc:v.busy=false->s.undo=[]) :
  (zaI s v).1.undo.length+(zaI s v).2.1.plan.length<=3/\(zaI s v).1.answers.length<=(zaI s v).1.past.length:=by
 unfold zaI
 split
 ·split
  ·rename_i p l hp
   obtain ⟨w1,w2,w3⟩:=zox s p
   rw [hp] at h1
   simp only [List.length_cons] at h1
   exact ⟨by simp only []; omega,by simp only [w2,w3]; exact h2⟩
  ·have:=zlM s.answers ⟨v.now.client,v.now.token,v.says⟩
   refine ⟨by simp [zdQ,zbQ],?_⟩
   simp only [zdQ,List.length_append,List.length_cons,List.length_nil]
   omega
 ·rename_i hb
  have hu:=hc (by simpa using hb)
  split
  ·exact ⟨h1,h2⟩
  ·dsimp only
   have hp:∀ c,s.undo.length+(zbE (zbg s.cells) c).length<=3:=fun c=>by
    rw [hu]
    simpa using zjb (zbg s.cells) c
   repeat' split
   all_goals first | exact ⟨h1,h2⟩ | exact ⟨hp _,h2⟩
theorem zqw (v:Sv) (b:List UInt8):(zbZ v b).1.plan=v.plan:=by
 unfold zbZ
 split <;> rfl
theorem zo2 {m:Mc} (hs:SzM m):SzM (zbP m):=by
 unfold zbP
 split
 ·exact hs
 ·split
  ·exact ⟨hs.undo,hs.answers⟩
  ·exact ⟨(by decide:(0:Nat)+0<=3),hs.answers⟩
theorem ztT {l:List (List Cl)} {m:Mc} {ks:List Nat} {bz:Option Nat} (h:MInv l m ks bz) (hs:SzM m) (kind n:Int):SzM (doM m kind n).1:=by
 unfold doM
 split
 ·split
  ·exact hs
  ·dsimp only
   split
   ·exact hs
   ·split
    ·split
     ·exact hs
     ·exact ⟨by simp only [zqw]; exact hs.undo,hs.answers⟩
    ·exact ⟨hs.undo,hs.answers⟩
 ·split
  ·split
   ·exact hs
   ·rename_i hu
    dsimp only
    have hu:m.up=true:=by simpa using hu
    obtain ⟨z1,z2⟩:=zrn hs.undo hs.answers fun hb=>h.clean hu (by
     have hz:=h.busy
     rw [hb] at hz
     cases bz with
     | none=>rfl
     | some i=>cases hz)
    repeat' split
    all_goals first | exact hs | exact ⟨z1,z2⟩
  ·split
   ·unfold zf5
    split
    ·exact hs
    ·split
     ·exact hs
     ·exact ⟨Nat.le_trans (Nat.add_le_add_left (Nat.zero_le _) _) hs.undo,hs.answers⟩
   ·split
    ·exact zo2 hs
    ·exact hs
theorem zpc {l:List (List Cl)} (hl:zaG l):∀ (steps:List (Int×Int)) {m:Mc} {ks:List Nat} {bz:Option Nat},MInv l m ks bz->SzM m->SzM (zcS m steps)
 | [],_,_,_,_,hs=>hs
 | p::q,m,ks,bz,h,hs=>by
  obtain ⟨ks1,bz1,h1⟩:=znH hl h p.1 p.2
  exact zpc hl q h1 (ztT h hs p.1 p.2)
theorem zt2 {l:List (List Cl)} (hl:zaG l) (steps:List (Int×Int)):SzM (zcS (zcJ l) steps):=by
 obtain ⟨ks,bz,h⟩:=zpy hl []
 exact zpc hl steps (m:=zcJ l) h (zt1 l)

theorem zrl {l:List (List Cl)} (hl:zaG l) {m:Mc} {ks:List Nat} {bz:Option Nat} (h:MInv l m ks bz) (hs:SzM m):SizeM m 24:=by
 have hp:m.store.past.length<=24:=by
  have h1:=ziY (n:=l.length) (p:=m.store.past) (fun r hr=>by
   obtain ⟨i,t,hi,_,rfl⟩:=h.past r hr
   exact ⟨i,hi,rfl⟩) (fun _=>true)
  rw [List.countP_true] at h1
  have h2:sumTo (fun i=>(zaA m.store.past i).length) l.length<=l.length * 8:=zgP fun i hi=>by
   obtain ⟨c,hc⟩:∃ c,m.clients[i]?=some c:=⟨m.clients[i]'(by rw [h.nc]; exact hi),List.getElem?_eq_getElem _⟩
   have h3:=(h.clients i c hc).most
   have h4:(l.getD i []).length<=8:=by
    rw [List.getD_eq_getElem?_getD,List.getElem?_eq_getElem hi]
    exact (hl.2 _ (List.getElem_mem hi)).1
   omega
  have h5:=hl.1
  have h6:m.store.past.length<=l.length * 8:=by
   rw [<- h1]
   exact h2
  omega
 refine ⟨?_,?_,hp,?_,fun c hc=>?_⟩
 ·have:=hs.undo; omega
 ·have:=hs.answers; omega
 ·rw [h.box,List.length_map]
  have:=zhe h.nodup h.ksl
  have:=hl.1
  omega
 ·obtain ⟨i,hi⟩:=List.mem_iff_getElem?.1 hc
  have ci:=h.clients i c hi
  have h3:=ci.most
  have h4:(l.getD i []).length<=8:=by
   rw [List.getD_eq_getElem?_getD]
   cases e:l[i]? with
   | none=>exact Nat.zero_le _
   | some y=>exact (hl.2 y (List.mem_of_getElem? e)).1
  have h5:=ci.step
  refine ⟨by omega,?_⟩
  cases ci.phase with
  | rest _ _ _ e _=>rw [e]; exact Nat.zero_le _
  | wait _ _ _ _ e _=>rw [e]; exact Nat.zero_le _
  | work _ _ _ _ e _ _=>rw [e]; exact Nat.zero_le _
  | lost _ _ _ e _ _=>rw [e]; exact Nat.zero_le _
  | hear _ _ _ _ e=>rw [e]; exact (by decide:(1:Nat)<=24)

structure GzM (l:List (List Cl)) (m:Mc):Prop where
 right:zaG l
 inv:∃ ks bz,MInv l m ks bz
 sz:SzM m
theorem GzM.size {l:List (List Cl)} {m:Mc} (h:GzM l m):SizeM m 24:=by
 obtain ⟨h1,⟨ks,bz,h2⟩,h3⟩:=h
 exact zrl h1 h2 h3
theorem zr9 {l:List (List Cl)} {m:Mc} (h:GzM l m) (kind n:Int):GzM l (doM m kind n).1:=by
 obtain ⟨h1,⟨ks,bz,h2⟩,h3⟩:=h
 exact ⟨h1,znH h1 h2 kind n,ztT h2 h3 kind n⟩
theorem zs2 {l:List (List Cl)} {m:Mc} (h:GzM l m):GzM l (zbP m):=by
 obtain ⟨h1,⟨ks,bz,h2⟩,h3⟩:=h
 exact ⟨h1,⟨_,_,(zhp h2).choose_spec.choose_spec⟩,zo2 h3⟩
theorem zlW {l:List (List Cl)} (hl:zaG l) (steps:List (Int×Int)):GzM l (zcS (zcJ l) steps):=⟨hl,zpy hl steps,zt2 hl steps⟩
theorem zpg {l:List (List Cl)}:∀ (q:List Nat) {m:Mc},GzM l m->GzM l (q.foldl (fun m (n:Nat)=>(doM m 1 (n:Int)).1) m)
 | [],_,h=>h
 | n::q,_,h=>zpg q (zr9 h 1 (n:Int))
theorem zmh {l:List (List Cl)} {m:Mc} (h:GzM l m):GzM l (roundM m):=zr9 (zpg _ (zs2 h)) 2 0
theorem zkw {l:List (List Cl)}:∀ (n:Nat) {m:Mc},GzM l m->GzM l (zba n m).1
 | 0,_,h=>h
 | n+1,_,h=>by
  unfold zba
  split
  ·exact h
  ·exact zkw n (zmh h)

open Go Go.RowKit

def zd1 (k i:Nat):Cl:=⟨1,((1+100 * k+i:Nat):Int),0,(i:Int)⟩
def zck (n m:Nat):List (List Cl):=[(List.range n).map (zd1 0),(List.range m).map (zd1 1)]

theorem zma {n m i:Nat} (hn:n<=8) (hm:m<=8):((zck n m).getD i []).length<=8:=by
 unfold zck
 match i with
 | 0=>simpa using hn
 | 1=>simpa using hm
 | _+2=>simp
theorem ztz {n m i t:Nat} (hi:i < (zck n m).length) (ht:t < ((zck n m).getD i []).length):(zax (zck n m) i t).call=zd1 i t:=by
 unfold zck at *
 unfold zax
 match i,hi with
 | 0,_ =>
  simp at ht
  simp [ht]
 | 1,_ =>
  simp at ht
  simp [ht]

theorem ztJ {l:List (Int×Int)} {k i:Nat} (h:∀ y ∈ l.map Prod.fst,y≠((1+100 * k+i:Nat):Int)):zaO l (zd1 k i)=if 5<=l.length then (l,⟨9,0⟩) else (l++[(((1+100 * k+i:Nat):Int),(i:Int))],⟨0,0⟩):=by
 have h1:at1 l ((1+100 * k+i:Nat):Int)=l.length:=zjm fun j hj e=>by
  refine h _ ?_ e
  rw [List.getD_eq_getElem?_getD,List.getElem?_eq_getElem hj]
  exact List.mem_map.2 ⟨l[j],List.getElem_mem hj,rfl⟩
 unfold zaO zd1
 simp only []
 rw [if_neg (by decide),if_pos trivial,h1,if_neg (by omega)]

structure Room (q:List Rq):Prop where
 len:(names q).length=min 5 q.length
 from_:∀ y ∈ (names q).map Prod.fst,∃ i t:Nat,i < 2/\t < (zaA q i).length/\y=((1+100 * i+t:Nat):Int)
 most:∀ i,(zaA q i).length<=8
 told:∀ k t:Nat,k < 2->t < (zaA q k).length->(((told q k).getD t ⟨0,0⟩).err=0/\((1+100 * k+t:Nat):Int) ∈ (names q).map Prod.fst)∨(((told q k).getD t ⟨0,0⟩).err=9/\((1+100 * k+t:Nat):Int) ∉ (names q).map Prod.fst)

theorem zso {n m:Nat} (hn:n<=8) (hm:m<=8) {p:List Rq} (hd:Done (zck n m) p):Room p:=by
 refine zl9 hd (P:=Room) ?_ ?_
 ·refine ⟨rfl,fun y hy=>by simp [zlb] at hy,fun i=>by simp [zhG],fun k t _ ht=>by simp [zhG] at ht⟩
 ·intro q i ih hi ht
  have hc:=ztz hi ht
  have hl8:=zma (i:=i) hn hm
  have hi2:i < 2:=hi
  have hnew:∀ y ∈ (names q).map Prod.fst,y≠((1+100 * i+(zaA q i).length:Nat):Int):=fun y hy e=>by
   obtain ⟨k,t,hk,htl,rfl⟩:=ih.from_ y hy
   have:=ih.most k
   have:=ih.most i
   have e2:1+100 * k+t=1+100 * i+(zaA q i).length:=by omega
   by_cases hki:k=i
   ·subst hki; omega
   ·omega
  have hput:=ztJ hnew
  rw [<- hc] at hput
  have hms:=fun k=>zh2 (zck n m) q i (zaA q i).length k
  have hns:=names_snoc q (zax (zck n m) i (zaA q i).length)
  have hmost:∀ k,(zaA (q++[zax (zck n m) i (zaA q i).length]) k).length<=8:=fun k=>by
   rw [hms]
   have:=ih.most k
   by_cases hik:i=k
   ·subst hik; rw [if_pos rfl]; omega
   ·rw [if_neg hik]; omega
  have htl:∀ k t,t < (zaA q k).length->(told (q++[zax (zck n m) i (zaA q i).length]) k).getD t ⟨0,0⟩=(told q k).getD t ⟨0,0⟩:=fun k t h=>by
   rw [told_snoc]
   split
   ·rw [List.getD_eq_getElem?_getD,List.getElem?_append_left (by rw [zdu]; exact h),<- List.getD_eq_getElem?_getD]
   ·rfl
  have htn:(told (q++[zax (zck n m) i (zaA q i).length]) i).getD (zaA q i).length ⟨0,0⟩=(zaO (names q) (zax (zck n m) i (zaA q i).length).call).2:=by
   rw [told_snoc,if_pos (show (zax (zck n m) i (zaA q i).length).client=(i:Int) from rfl),List.getD_eq_getElem?_getD,List.getElem?_append_right (by rw [zdu]; exact Nat.le_refl _),zdu]
   simp
  have hcase:∀ k t,t < (zaA (q++[zax (zck n m) i (zaA q i).length]) k).length->t < (zaA q k).length∨(k=i/\t=(zaA q i).length):=fun k t h=>by
   rw [hms] at h
   by_cases hik:i=k
   ·subst hik; rw [if_pos rfl] at h; by_cases h2:t < (zaA q i).length
    ·exact .inl h2
    ·exact .inr ⟨rfl,by omega⟩
   ·rw [if_neg hik] at h; exact .inl (by omega)
  by_cases h5:5<=(names q).length
  ·rw [if_pos h5] at hput
   rw [hput] at hns htn
   have hq5:5<=q.length:=by have:=ih.len; omega
   refine ⟨?_,?_,hmost,?_⟩
   ·rw [hns,ih.len]; simp; omega
   ·rw [hns]
    intro y hy
    obtain ⟨k,t,hk,h,e⟩:=ih.from_ y hy
    exact ⟨k,t,hk,by rw [hms]; omega,e⟩
   ·rw [hns]
    intro k t hk h
    rcases hcase k t h with h | ⟨rfl,rfl⟩
    ·rw [htl k t h]; exact ih.told k t hk h
    ·rw [htn]; exact .inr ⟨rfl,fun hm=>hnew _ hm rfl⟩
  ·rw [if_neg h5] at hput
   rw [hput] at hns htn
   have hq5:q.length < 5:=by have:=ih.len; omega
   have hmem:∀ y:Int,y ∈ (names (q++[zax (zck n m) i (zaA q i).length])).map Prod.fst↔y ∈ (names q).map Prod.fst∨y=((1+100 * i+(zaA q i).length:Nat):Int):=fun y=>by
    rw [hns,List.map_append,List.mem_append]
    simp
   refine ⟨?_,?_,hmost,?_⟩
   ·rw [hns]; simp [ih.len]; omega
   ·intro y hy
    rcases (hmem y).1 hy with h | rfl
    ·obtain ⟨k,t,hk,h,e⟩:=ih.from_ y h
     exact ⟨k,t,hk,by rw [hms]; omega,e⟩
    ·exact ⟨i,(zaA q i).length,hi2,by rw [hms,if_pos rfl]; omega,rfl⟩
   ·intro k t hk h
    rcases hcase k t h with h | ⟨rfl,rfl⟩
    ·rw [htl k t h]
     rcases ih.told k t hk h with ⟨h1,h2⟩ | ⟨h1,h2⟩
     ·exact .inl ⟨h1,(hmem _).2 (.inl h2)⟩
     ·refine .inr ⟨h1,fun hm=>?_⟩
      rcases (hmem _).1 hm with h3 | h3
      ·exact h2 h3
      ·have:=ih.most k
       have:=ih.most i
       have e2:1+100 * k+t=1+100 * i+(zaA q i).length:=by omega
       by_cases hki:k=i
       ·subst hki; omega
       ·omega
    ·rw [htn]; exact .inl ⟨rfl,(hmem _).2 (.inr rfl)⟩

theorem zp7 {n m:Nat} {p:List Rq} (hd:Done (zck n m) p):p.length=n+m:=by
 have hin:=zpx hd.past
 have hl:(zck n m).length=2:=rfl
 rw [hl] at hin
 rw [<- zjr hin]
 have e0:=congrArg List.length (zdd hd (i:=0) (by simp [zck]))
 have e1:=congrArg List.length (zdd hd (i:=1) (by simp [zck]))
 rw [List.length_map] at e0 e1
 simp [zck] at e0 e1
 simp [sumTo,e0,e1]

open Go Go.RowKit

def look (l:List (Int×Int)) (x:Int):Option Int:=if at1 l x < l.length then some (num l (at1 l x)) else none

theorem zeX {l:List (Int×Int)} (h:Okn l) (x v:Int):look l x=some v↔∃ k,k < l.length/\l.getD k (0,0)=(x,v):=by
 unfold look
 constructor
 ·intro e
  by_cases hk:at1 l x < l.length
  ·rw [if_pos hk] at e
   injection e with e
   exact ⟨_,hk,Prod.ext (zd7 hk) e⟩
  ·rw [if_neg hk] at e; cases e
 ·rintro ⟨k,hk,e⟩
  have ha:at1 l x=k:=zn5 hk (by rw [e]) (fun j hj e2=>by
   have:=h.uni (i:=j) (j:=k) (by omega) hk (by rw [e2,e])
   omega)
  rw [ha,if_pos hk]
  unfold num
  rw [e]
theorem zkS {l:List (Int×Int)} {x:Int}:look l x=none↔¬ at1 l x < l.length:=by
 unfold look
 split <;> simp_all
theorem zkW {l:List (Int×Int)} {x:Int} (h:at1 l x < l.length):look l x=some (num l (at1 l x)):=if_pos h

def zix (f:Int->Option Int) (x:Int) (v:Option Int):Int->Option Int:=fun y=>if y=x then v else f y

def doF (f:Int->Option Int) (c:Cl):(Int->Option Int)×Rp :=
 if c.kind=1 then (zix f c.name (some c.n),⟨0,(f c.name).getD 0⟩)
 else match f c.name with
 | none=>(f,⟨6,0⟩)
 | some v =>
  if c.kind=2 then (f,⟨0,v⟩)
  else if c.kind=3 then (zix f c.name none,⟨0,v⟩)
  else if ¬ (-1073741824<=v+c.n/\v+c.n<=1073741824) then (f,⟨3,0⟩) else (zix f c.name (some (v+c.n)),⟨0,v+c.n⟩)

theorem zli {a b:Option Int} (h:∀ v,a=some v↔b=some v):a=b:=by
 cases a with
 | none=>cases b with
  | none=>rfl
  | some v=>exact absurd ((h v).2 rfl) (by simp)
 | some v=>exact ((h v).1 rfl).symm

theorem zk5 {l:List (Int×Int)} (h:Okn l) {x n:Int} (hx:at1 l x < l.length) (h1:-1073741824<=n) (h2:n<=1073741824):look (put1 l (at1 l x) n)=zix (look l) x (some n):=by
 have hok:=zfR h hx h1 h2
 funext y
 unfold zix
 refine zli fun v=>?_
 rw [zeX hok]
 by_cases hy:y=x
 ·subst hy
  rw [if_pos rfl]
  constructor
  ·rintro ⟨k,hk,e⟩
   rw [zay] at hk
   have e1:=congrArg Prod.fst e
   rw [zdR _ _ _ _ hx] at e1
   have hkk:=h.uni hk hx (by rw [e1,zd7 hx])
   have e2:=congrArg Prod.snd e
   rw [zer _ _ _ _ hx,if_pos hkk.symm] at e2
   rw [e2]
  ·intro e
   injection e with e
   refine ⟨at1 l y,by rw [zay]; exact hx,?_⟩
   rw [zcC _ _ _ _ hx,if_pos rfl,zd7 hx,e]
 ·rw [if_neg hy,zeX h]
  constructor
  ·rintro ⟨k,hk,e⟩
   rw [zay] at hk
   rw [zcC _ _ _ _ hx] at e
   by_cases hkx:at1 l x=k
   ·rw [if_pos hkx,<- hkx,zd7 hx] at e
    exact absurd (congrArg Prod.fst e).symm hy
   ·rw [if_neg hkx] at e
    exact ⟨k,hk,e⟩
  ·rintro ⟨k,hk,e⟩
   refine ⟨k,by rw [zay]; exact hk,?_⟩
   rw [zcC _ _ _ _ hx,if_neg (fun hkx=>?_)]
   ·exact e
   ·subst hkx
    rw [<- zd7 hx,e] at hy
    exact hy rfl

theorem zrv {l:List (Int×Int)} {x n:Int} (hx:¬ at1 l x < l.length) (hok:Okn l) (hok2:Okn (l++[(x,n)])):look (l++[(x,n)])=zix (look l) x (some n):=by
 funext y
 unfold zix
 refine zli fun v=>?_
 rw [zeX hok2]
 have hl:(l++[(x,n)]).getD l.length (0,0)=(x,n):=by rw [List.getD_eq_getElem?_getD]; simp
 by_cases hy:y=x
 ·subst hy
  rw [if_pos rfl]
  constructor
  ·rintro ⟨k,hk,e⟩
   have:k=l.length:=hok2.uni hk (by simp) (by rw [e,hl])
   rw [this,hl] at e
   exact congrArg some (congrArg Prod.snd e)
  ·intro e
   injection e with e
   exact ⟨l.length,by simp,by rw [hl,e]⟩
 ·rw [if_neg hy,zeX hok]
  constructor
  ·rintro ⟨k,hk,e⟩
   have hkl:k < l.length:=by
    by_cases h:k < l.length
    ·exact h
    ·simp at hk
     have:k=l.length:=by omega
     rw [this,hl] at e
     exact absurd (congrArg Prod.fst e).symm hy
   refine ⟨k,hkl,?_⟩
   rw [List.getD_eq_getElem?_getD,List.getElem?_append_left hkl,<- List.getD_eq_getElem?_getD] at e
   exact e
  ·rintro ⟨k,hk,e⟩
   refine ⟨k,by simp; omega,?_⟩
   rw [List.getD_eq_getElem?_getD,List.getElem?_append_left hk,<- List.getD_eq_getElem?_getD]
   exact e

theorem zfa {l:List (Int×Int)} {i j:Nat} (hi:i < l.length) (hj:j < l.length - 1):((l.set i (l.getD (l.length - 1) (0,0))).take (l.length - 1)).getD j (0,0)=if i=j then l.getD (l.length - 1) (0,0) else l.getD j (0,0):=by
 rw [List.getD_eq_getElem?_getD,List.getElem?_take,if_pos hj,List.getElem?_set]
 by_cases h:i=j
 ·subst h; rw [if_pos rfl,if_pos hi,if_pos rfl]; rfl
 ·rw [if_neg h,if_neg h,List.getD_eq_getElem?_getD]

theorem zpQ {l:List (Int×Int)} {x:Int} (h:Okn l) (hx:at1 l x < l.length) (hok:Okn ((l.set (at1 l x) (l.getD (l.length - 1) (0,0))).take (l.length - 1))) :
  look ((l.set (at1 l x) (l.getD (l.length - 1) (0,0))).take (l.length - 1))=zix (look l) x none:=by
 have hlen:((l.set (at1 l x) (l.getD (l.length - 1) (0,0))).take (l.length - 1)).length=l.length - 1:=by simp
 funext y
 unfold zix
 refine zli fun v=>?_
 rw [zeX hok,hlen]
 by_cases hy:y=x
 ·subst hy
  rw [if_pos rfl]
  constructor
  ·rintro ⟨k,hk,e⟩
   rw [zfa hx hk] at e
   by_cases hkx:at1 l y=k
   ·rw [if_pos hkx] at e
    have:=h.uni (i:=l.length - 1) (j:=at1 l y) (by omega) hx (by rw [e,zd7 hx])
    omega
   ·rw [if_neg hkx] at e
    have:=h.uni (i:=k) (j:=at1 l y) (by omega) hx (by rw [e,zd7 hx])
    omega
  ·intro e; cases e
 ·rw [if_neg hy,zeX h]
  constructor
  ·rintro ⟨k,hk,e⟩
   rw [zfa hx hk] at e
   by_cases hkx:at1 l x=k
   ·rw [if_pos hkx] at e; exact ⟨l.length - 1,by omega,e⟩
   ·rw [if_neg hkx] at e; exact ⟨k,by omega,e⟩
  ·rintro ⟨k,hk,e⟩
   have hne:k≠at1 l x:=fun hkx=>by
    subst hkx
    rw [<- zd7 hx,e] at hy
    exact hy rfl
   by_cases hkl:k=l.length - 1
   ·subst hkl
    refine ⟨at1 l x,by omega,?_⟩
    rw [zfa hx (by omega),if_pos rfl,e]
   ·refine ⟨k,by omega,?_⟩
    rw [zfa hx (by omega),if_neg (fun h=>hne h.symm),e]

theorem zph {l:List (Int×Int)} {c:Cl} (h:Okn l) (hc:wrongCl c=0) (k1:1<=c.kind) (k4:c.kind<=4) (hroom:at1 l c.name < l.length∨l.length < 5):look (zaO l c).1=(doF (look l) c).1/\(zaO l c).2=(doF (look l) c).2:=by
 have hok:=(zhX h hc).1
 have hn:=(zgx hc).2.2.2
 obtain ⟨kind,name,other,n⟩:=c
 simp only [] at *
 have hk:kind=1∨kind=2∨kind=3∨kind=4:=by omega
 by_cases hx:at1 l name < l.length
 ·have hs:=zkW hx
  rcases hk with rfl | rfl | rfl | rfl
  ·have e:zaO l ⟨1,name,other,n⟩=(put1 l (at1 l name) n,⟨0,num l (at1 l name)⟩):=by simp [zaO,hx]
   rw [e]
   unfold doF
   simp only [if_pos,hs]
   exact ⟨zk5 h hx hn.1 hn.2,rfl⟩
  ·have e:zaO l ⟨2,name,other,n⟩=(l,⟨0,num l (at1 l name)⟩):=by simp [zaO,hx]
   rw [e]
   unfold doF
   simp only [hs]
   exact ⟨rfl,rfl⟩
  ·have e:zaO l ⟨3,name,other,n⟩=((l.set (at1 l name) (l.getD (l.length - 1) (0,0))).take (l.length - 1),⟨0,num l (at1 l name)⟩):=by simp [zaO,hx]
   rw [e] at hok ⊢
   unfold doF
   simp only [hs]
   exact ⟨zpQ h hx hok,rfl⟩
  ·by_cases hr:-1073741824<=num l (at1 l name)+n/\num l (at1 l name)+n<=1073741824
   ·have e:zaO l ⟨4,name,other,n⟩=(put1 l (at1 l name) (num l (at1 l name)+n),⟨0,num l (at1 l name)+n⟩):=by simp [zaO,hx,hr]
    rw [e]
    unfold doF
    simp only [hs]
    rw [if_neg (by decide),if_neg (by decide),if_neg (by decide),if_neg (by simpa using hr)]
    exact ⟨zk5 h hx hr.1 hr.2,rfl⟩
   ·have e:zaO l ⟨4,name,other,n⟩=(l,⟨3,0⟩):=by simp [zaO,hx,hr]
    rw [e]
    unfold doF
    simp only [hs]
    rw [if_neg (by decide),if_neg (by decide),if_neg (by decide),if_pos hr]
    exact ⟨rfl,rfl⟩
 ·have hs:look l name=none:=zkS.2 hx
  have h5:l.length < 5:=hroom.resolve_left hx
  rcases hk with rfl | rfl | rfl | rfl
  ·have e:zaO l ⟨1,name,other,n⟩=(l++[(name,n)],⟨0,0⟩):=by simp [zaO,hx]; omega
   rw [e] at hok ⊢
   unfold doF
   simp only [hs]
   exact ⟨zrv hx h hok,rfl⟩
  all_goals
   have e:∀ k,k≠5->k≠1->zaO l ⟨k,name,other,n⟩=(l,⟨6,0⟩):=fun k a b=>by simp [zaO,hx,a,b]
   rw [e _ (by decide) (by decide)]
   unfold doF
   simp only [hs]
   exact ⟨rfl,rfl⟩

theorem zg2 {f g:Int->Option Int} {x y:Int} {v:Option Int} (h:f y=g y):zix f x v y=zix g x v y:=by
 unfold zix
 rw [h]
theorem zqd {f g:Int->Option Int} {c:Cl} (h:f c.name=g c.name):(doF f c).2=(doF g c).2/\∀ x,f x=g x->(doF f c).1 x=(doF g c).1 x:=by
 unfold doF
 rw [h]
 by_cases h1:c.kind=1
 ·rw [if_pos h1,if_pos h1]
  exact ⟨rfl,fun x hx=>zg2 hx⟩
 rw [if_neg h1,if_neg h1]
 cases g c.name with
 | none=>exact ⟨rfl,fun x hx=>hx⟩
 | some v =>
  simp only []
  by_cases h2:c.kind=2
  ·rw [if_pos h2,if_pos h2]; exact ⟨rfl,fun x hx=>hx⟩
  rw [if_neg h2,if_neg h2]
  by_cases h3:c.kind=3
  ·rw [if_pos h3,if_pos h3]
   exact ⟨rfl,fun x hx=>zg2 hx⟩
  rw [if_neg h3,if_neg h3]
  split
  ·exact ⟨rfl,fun x hx=>hx⟩
  ·exact ⟨rfl,fun x hx=>zg2 hx⟩
theorem zk3 {f:Int->Option Int} {c:Cl} {x:Int} (hx:x≠c.name):(doF f c).1 x=f x:=by
 unfold doF
 by_cases h1:c.kind=1
 ·rw [if_pos h1]; exact if_neg hx
 rw [if_neg h1]
 cases f c.name with
 | none=>rfl
 | some v =>
  simp only []
  by_cases h2:c.kind=2
  ·rw [if_pos h2]
  rw [if_neg h2]
  by_cases h3:c.kind=3
  ·rw [if_pos h3]; exact if_neg hx
  rw [if_neg h3]
  split
  ·rfl
  ·exact if_neg hx

def zmX (s:(Int->Option Int)×List Rp) (c:Cl):(Int->Option Int)×List Rp:=((doF s.1 c).1,s.2++[(doF s.1 c).2])
def zfd (cs:List Cl):(Int->Option Int)×List Rp:=cs.foldl zmX (fun _=>none,[])
theorem allF_snoc (cs:List Cl) (c:Cl):zfd (cs++[c])=zmX (zfd cs) c:=by simp [zfd]

theorem zqC {a b:List Int} (ha:a.Nodup) (hs:∀ x ∈ a,x ∈ b):a.length<=b.length:=by
 induction a generalizing b with
 | nil=>exact Nat.zero_le _
 | cons x a ih =>
  obtain ⟨hx,ha⟩:=List.nodup_cons.1 ha
  have hxb:x ∈ b:=hs x (by simp)
  have:=ih (b:=b.erase x) ha (fun y hy=>(List.mem_erase_of_ne (fun e=>hx (by rw [<- e]; exact hy))).2 (hs y (by simp [hy])))
  rw [List.length_erase_of_mem hxb] at this
  have hpos:0 < b.length:=List.length_pos_of_mem hxb
  simp
  omega

theorem zhO {l:List (Int×Int)} {x:Int}:x ∈ l.map Prod.fst↔at1 l x < l.length:=by
 constructor
 ·intro h
  obtain ⟨p,hp,rfl⟩:=List.mem_map.1 h
  unfold at1
  exact List.findIdx_lt_length_of_exists ⟨p,hp,by simp⟩
 ·intro h
  have e:=zd7 h
  rw [List.getD_eq_getElem?_getD,List.getElem?_eq_getElem h] at e
  exact List.mem_map.2 ⟨_,List.getElem_mem h,e⟩

theorem znm {l:List (Int×Int)} {ns:List Int} (h:Okn l) (hs:∀ x ∈ l.map Prod.fst,x ∈ ns) (h5:ns.length<=5) {x:Int} (hx:x ∈ ns):at1 l x < l.length∨l.length < 5:=by
 by_cases ha:at1 l x < l.length
 ·exact .inl ha
 ·right
  have hn:x ∉ l.map Prod.fst:=fun hm=>ha (zhO.1 hm)
  have:=zqC (List.nodup_cons.2 ⟨hn,h.2.2⟩) (b:=ns) (fun y hy=>by
   rcases List.mem_cons.1 hy with rfl | hy
   ·exact hx
   ·exact hs y hy)
  simp at this
  omega

theorem zrq {ns:List Int} (h5:ns.length<=5) (q:List Rq) (hq:∀ r ∈ q,1<=r.call.kind/\r.call.kind<=4/\wrongCl r.call=0/\r.call.name ∈ ns) :
  Okn (names q)/\(∀ x ∈ (names q).map Prod.fst,x ∈ ns)/\look (names q)=(zfd (q.map Rq.call)).1/\zjy q=(zfd (q.map Rq.call)).2:=by
 revert hq
 refine zjQ (P:=fun q=>(∀ r ∈ q,1<=r.call.kind/\r.call.kind<=4/\wrongCl r.call=0/\r.call.name ∈ ns)->Okn (names q)/\(∀ x ∈ (names q).map Prod.fst,x ∈ ns)/\look (names q)=(zfd (q.map Rq.call)).1/\zjy q=(zfd (q.map Rq.call)).2) ?_ ?_ q
 ·intro _
  refine ⟨okn_nil,fun x hx=>by simp [zlb] at hx,?_,rfl⟩
  funext x
  rfl
 ·intro q r ih hq
  obtain ⟨i1,i2,i3,i4⟩:=ih (fun x hx=>hq x (by simp [hx]))
  obtain ⟨k1,k4,hw,hn⟩:=hq r (by simp)
  obtain ⟨d1,d2⟩:=zph i1 hw k1 k4 (znm i1 i2 h5 hn)
  have hok:=(zhX i1 hw).1
  rw [names_snoc,reps_snoc,List.map_append,List.map_cons,List.map_nil,allF_snoc]
  unfold zmX
  rw [<- i3,<- i4]
  refine ⟨hok,fun x hx=>?_,d1,by rw [d2]⟩
  by_cases hxn:x=r.call.name
  ·rw [hxn]; exact hn
  ·refine i2 x (zhO.2 ?_)
   have h1:=zhO.1 hx
   have h2:=congrFun d1 x
   rw [zk3 hxn] at h2
   by_cases h3:at1 (names q) x < (names q).length
   ·exact h3
   ·rw [zkS.2 h3,zkW h1] at h2
    cases h2

theorem zoy {ns:List Int} (h5:ns.length<=5) {R:Nat->Int->Prop} (hR:∀ i k x,R i x->R k x->i=k) (q:List Rq)
  (hq:∀ r ∈ q,(1<=r.call.kind/\r.call.kind<=4/\wrongCl r.call=0/\r.call.name ∈ ns)/\∃ i:Nat,r.client=(i:Int)/\R i r.call.name) (k:Nat) :
  (∀ x,R k x->(zfd (q.map Rq.call)).1 x=(zfd ((zaA q k).map Rq.call)).1 x)/\told q k=(zfd ((zaA q k).map Rq.call)).2:=by
 revert hq
 refine zjQ (P:=fun q=>(∀ r ∈ q,(1<=r.call.kind/\r.call.kind<=4/\wrongCl r.call=0/\r.call.name ∈ ns)/\∃ i:Nat,r.client=(i:Int)/\R i r.call.name) ->
  (∀ x,R k x->(zfd (q.map Rq.call)).1 x=(zfd ((zaA q k).map Rq.call)).1 x)/\told q k=(zfd ((zaA q k).map Rq.call)).2) ?_ ?_ q
 ·intro _
  exact ⟨fun x _=>rfl,rfl⟩
 ·intro q r ih hq
  obtain ⟨i1,i2⟩:=ih (fun x hx=>hq x (by simp [hx]))
  obtain ⟨hr,i,hc,hri⟩:=hq r (by simp)
  have hall:=zrq h5 q (fun x hx=>(hq x (by simp [hx])).1)
  have hdo:=zph hall.1 hr.2.2.1 hr.1 hr.2.1 (znm hall.1 hall.2.1 h5 hr.2.2.2)
  rw [List.map_append,List.map_cons,List.map_nil,allF_snoc,told_snoc,zgr]
  by_cases hik:r.client=(k:Int)
  ·rw [if_pos hik,if_pos hik,List.map_append,List.map_cons,List.map_nil,allF_snoc]
   have hk:i=k:=by omega
   subst hk
   have hcg:=zqd (i1 _ hri)
   unfold zmX
   refine ⟨fun x hx=>hcg.2 x (i1 x hx),?_⟩
   rw [i2,hdo.2,hall.2.2.1,hcg.1]
  ·rw [if_neg hik,if_neg hik]
   refine ⟨fun x hx=>?_,i2⟩
   rw [<- i1 x hx]
   unfold zmX
   refine zk3 (fun e=>hik ?_)
   have:=hR i k x (by rw [e]; exact hri) hx
   rw [hc,this]

theorem zkQ {l:List (List Cl)} {p:List Rq} (hd:Done l p) {ns:List Int} (h5:ns.length<=5) {R:Nat->Int->Prop} (hR:∀ i k x,R i x->R k x->i=k)
  (hl:∀ i,i < l.length->∀ c ∈ l.getD i [],1<=c.kind/\c.kind<=4/\wrongCl c=0/\c.name ∈ ns/\R i c.name) {k:Nat} (hk:k < l.length):told p k=(zfd (l.getD k [])).2:=by
 have:=(zoy h5 hR p (fun r hr=>by
  obtain ⟨i,t,hi,ht,rfl⟩:=hd.past r hr
  obtain ⟨a,b,c,d,e⟩:=hl i hi _ (zfI (d:=zeroCl) ht)
  exact ⟨⟨a,b,c,d⟩,i,rfl,e⟩) k).2
 rw [this,zdd hd hk]

open Go Go.RowKit

theorem zr7 {i t:Nat} {r:Rp} (hi:i < 3) (ht:t < 8) (h:ztv r):zbp ⟨i,t,r⟩=0:=by
 obtain ⟨h1,h2,h3,h4,h5⟩:=h
 unfold zbp
 rw [if_neg]
 simp only []
 omega
theorem znQ {l:List (List Cl)} (hl:zaG l) {m:Mc} {ks:List Nat} {bz:Option Nat} (h:MInv l m ks bz) :
  (zaI m.store m.server).2.2.1=[]∨∃ (i:Nat) (t:Int) (r:Rp),zbp ⟨i,t,r⟩=0/\i < m.clients.length/\(zaI m.store m.server).2.2.1=zbF ⟨i,t,r⟩:=by
 have h3:=hl.1
 have h8:∀ i,(l.getD i []).length<=8:=fun i=>by
  rw [List.getD_eq_getElem?_getD]
  cases e:l[i]? with
  | none=>simp
  | some x=>exact (hl.2 x (List.mem_of_getElem? e)).1
 cases bz with
 | some i =>
  have hbusy:m.server.busy=true:=h.busy
  obtain ⟨hi,w2,w3,w4,w5⟩:=h.work i rfl
  obtain ⟨c,hc⟩:∃ c,m.clients[i]?=some c:=⟨_,List.getElem?_eq_getElem (by rw [h.nc]; exact hi)⟩
  have ci:=h.clients i c hc
  rw [zbs hc] at w2
  cases hp:m.server.plan with
  | cons q rest=>rw [zf1 hbusy hp]; exact .inl rfl
  | nil =>
   have p5:c.got.length < (l.getD i []).length:=by
    cases ci.phase with
    | rest a b=>exact absurd rfl b
    | wait a b=>exact absurd rfl b
    | work a b d e f g k=>exact g
    | hear a b=>exact absurd rfl b
    | lost a b=>exact absurd rfl b
   have hk:=zel hl hi p5
   rw [zfp hbusy hp,w2]
   refine .inr ⟨i,c.got.length,m.server.says,zr7 (by omega) (by have:=h8 i; omega) ?_,by rw [h.nc]; exact hi,rfl⟩
   rw [w3,w2]
   exact zpp (zfq hl h.past) hk
 | none =>
  have hbusy:m.server.busy=false:=h.busy
  cases ks with
  | nil=>rw [zgM hbusy (by rw [h.box]; rfl)]; exact .inl rfl
  | cons k ks =>
   have hk:k < l.length:=h.ksl k (by simp)
   obtain ⟨c,hc⟩:∃ c,m.clients[k]?=some c:=⟨_,List.getElem?_eq_getElem (by rw [h.nc]; exact hk)⟩
   have ci:=h.clients k c hc
   have p5:c.got.length < (l.getD k []).length:=by
    cases ci.phase with
    | rest a=>exact absurd (by simp) a
    | wait a b d e f g=>exact g
    | work a=>exact absurd (by simp) a
    | hear a=>exact absurd (by simp) a
    | lost a=>exact absurd (by simp) a
   have hbox:m.server.box=zbv (zax l k c.got.length)::ks.map (fun k=>zbv (zax l k (za6 m.clients k))):=by
    rw [h.box,List.map_cons,zbs hc]
   have hlast:=ci.last
   have htl:=zdu m.store.past k
   have hmost:=ci.most
   have hS:=serve_take (s:=m.store) hbusy hbox (zgi hl hk p5)
   rw [show (zax l k c.got.length).client=(k:Int) from rfl,hlast] at hS
   rw [hS]
   by_cases hz:(zaA m.store.past k).length=0
   ·rw [if_pos hz,if_neg (by simp)]
    exact .inl rfl
   ·rw [if_neg hz]
    have h8k:=h8 k
    repeat' split
    ·exact .inr ⟨k,((zaA m.store.past k).length - 1:Nat),_,zh0 hl h.past hk (by omega) (by omega),by rw [h.nc]; exact hk,rfl⟩
    ·exact .inl rfl
    ·exact .inl rfl
open Go Go.RowKit Go.Maps

def ztf:DataW Unit:=.lit (.bool true)
def noD:DataW Unit:=.lit (.bool false)
def zdJ (x:Int):Lit:=.int .i64 x
def zgt (xs:List Int):DataW Unit:=setOf ztf (xs.map zdJ)
theorem zqW (xs:List Int) (x:Int):zgt (xs++[x])=(zgt xs).put (zdJ x) ztf:=by
 unfold zgt
 rw [List.map_append]
 exact setOf_snoc _ _ _
theorem zhK (a b:Int):(zdJ a).sameKey (zdJ b)=decide (a=b):=by simp [zdJ,Lit.sameKey]
theorem zpd (xs:List Int):∀ x ∈ xs.map zdJ,WideAt.IsKeyLit x:=fun x hx=>by
 obtain ⟨y,_,rfl⟩:=List.mem_map.1 hx
 exact trivial
theorem zo1 (y:Int):∀ (xs:List Int) (m:DataW Unit),IsMap m->((xs.map zdJ).foldl (fun m x=>m.put x ztf) m).atKey (zdJ y) noD=if y ∈ xs then ztf else m.atKey (zdJ y) noD
 | [],m,_=>by simp
 | x::xs,m,hm=>by
  rw [List.map_cons,List.foldl_cons,zo1 y xs _ (hm.put _ _)]
  by_cases h:y ∈ xs
  ·rw [if_pos h,if_pos (List.mem_cons_of_mem _ h)]
  ·rw [if_neg h]
   by_cases e:y=x
   ·subst e
    rw [if_pos (List.mem_cons_self ..)]
    exact atKey_put_same hm (by exact trivial) _ _
   ·rw [if_neg (by simp [e,h])]
    refine atKey_put_other ?_ _ _
    intro q
    exact e (by simpa [zdJ] using q)
theorem ztk (xs:List Int) (y:Int):(zgt xs).atKey (zdJ y) noD=.lit (.bool (decide (y ∈ xs))):=by
 unfold zgt setOf
 rw [zo1 y xs _ isMap_empty]
 by_cases h:y ∈ xs
 ·rw [if_pos h,decide_eq_true h]; rfl
 ·rw [if_neg h,decide_eq_false h]; rfl
theorem zpj:∀ (xs acc:List Int),(acc++xs).Nodup->((xs.map zdJ).foldl addKey (acc.map zdJ))=(acc++xs).map zdJ
 | [],acc,_=>by simp
 | x::xs,acc,h=>by
  rw [List.map_cons,List.foldl_cons]
  have hx:x ∉ acc:=fun q=>by
   have:=List.nodup_append.1 h
   exact this.2.2 x q x (by simp) rfl
  have e:addKey (acc.map zdJ) (zdJ x)=(acc++[x]).map zdJ:=by
   unfold addKey
   rw [if_neg]
   ·simp
   ·rw [List.any_map,List.any_eq_true]
    rintro ⟨y,hy,q⟩
    have q:(zdJ y).sameKey (zdJ x)=true:=q
    rw [zhK] at q
    exact hx (by rw [<- of_decide_eq_true q]; exact hy)
  rw [e,zpj xs (acc++[x]) (by simpa using h)]
  simp
theorem zqD {xs:List Int} (h:xs.Nodup):size (zgt xs)=xs.length:=by
 unfold zgt
 rw [size_setOf _ _ (zpd xs)]
 have:=zpj xs [] (by simpa using h)
 simp only [List.map_nil,List.nil_append] at this
 rw [this,List.length_map]
def distinct (xs:List Int):List Int:=xs.foldl (fun acc x=>if x ∈ acc then acc else acc++[x]) []
theorem zgG:∀ (xs acc:List Int),(xs.map zdJ).foldl addKey (acc.map zdJ)=(xs.foldl (fun acc x=>if x ∈ acc then acc else acc++[x]) acc).map zdJ
 | [],acc=>rfl
 | x::xs,acc=>by
  rw [List.map_cons,List.foldl_cons,List.foldl_cons,<- zgG xs]
  congr 1
  unfold addKey
  by_cases h:x ∈ acc
  ·rw [if_pos,if_pos h]
   rw [List.any_map,List.any_eq_true]
   exact ⟨x,h,by show (zdJ x).sameKey (zdJ x)=true; rw [zhK]; simp⟩
  ·rw [if_neg,if_neg h]
   ·simp
   ·rw [List.any_map,List.any_eq_true]
    rintro ⟨y,hy,q⟩
    have q:(zdJ y).sameKey (zdJ x)=true:=q
    rw [zhK] at q
    exact h (by rw [<- of_decide_eq_true q]; exact hy)
theorem zko (xs:List Int):size (zgt xs)=(distinct xs).length:=by
 unfold zgt
 rw [size_setOf _ _ (zpd xs)]
 have:=zgG xs []
 simp only [List.map_nil] at this
 rw [this,List.length_map]
 rfl
theorem zft (y:Int):∀ (xs acc:List Int),(y ∈ xs.foldl (fun acc x=>if x ∈ acc then acc else acc++[x]) acc)↔y ∈ acc∨y ∈ xs
 | [],acc=>by simp
 | x::xs,acc=>by
  rw [List.foldl_cons,zft y xs]
  by_cases h:x ∈ acc
  ·rw [if_pos h,List.mem_cons]
   constructor
   ·rintro (q | q)
    ·exact .inl q
    ·exact .inr (.inr q)
   ·rintro (q | q | q)
    ·exact .inl q
    ·subst q; exact .inl h
    ·exact .inr q
  ·rw [if_neg h,List.mem_append,List.mem_singleton,List.mem_cons]
   constructor
   ·rintro ((q | q) | q)
    ·exact .inl q
    ·exact .inr (.inl q)
    ·exact .inr (.inr q)
   ·rintro (q | q | q)
    ·exact .inl (.inl q)
    ·exact .inl (.inr q)
    ·exact .inr q

section
variable {P:Program} {k e:TypeId} {w:World} {b n:Nat} {D:DataW Unit}
theorem zri (he:P.underlying e=some .bool) {v:Value} {z:DataW Unit×List MemPlace} (h:plainElem P e v=some z):∃ c,v=.bool c/\z=(.lit (.bool c),[]):=by
 cases v with
 | bool c=>rw [plainElem_bool he] at h; cases h; exact ⟨c,rfl,rfl⟩
 | _=>simp [plainElem,he] at h
theorem zmM {t:TypeId} (h:w.ownsMap P k (plainElem P e) b n D) (K:Keyed P k) (ht:P.underlying t=some (.map k e)) (he:P.underlying e=some .bool) (hz:(zeroValue e).run P w=.ok (.bool false) w)
  {key:Value} {kl:Lit} (hkey:keyOf P k key=some kl):∃ c,(Instr.lookup t (.map (some b)) key false).run P w=.ok (.bool c) w/\D.atKey kl noD=.lit (.bool c):=by
 obtain ⟨v,ps,hrun,hv⟩:=h.lookup K ht hz (plainElem_bool he false) hkey
 obtain ⟨c,rfl,hc⟩:=zri he hv
 simp only [Prod.mk.injEq] at hc
 exact ⟨c,hrun,hc.1⟩
theorem zoe {t:TypeId} {xs:List Int} (h:w.ownsMap P k (plainElem P e) b n (zgt xs)) (hk:P.underlying k=some (.int .i64)) (ht:P.underlying t=some (.map k e)) (he:P.underlying e=some .bool) (hz:(zeroValue e).run P w=.ok (.bool false) w)
  {x:Int} (hx:(Lit.int .i64 x).wf=true):(Instr.lookup t (.map (some b)) (.int .i64 x) false).run P w=.ok (.bool (decide (x ∈ xs))) w:=by
 obtain ⟨c,hrun,hc⟩:=zmM h (int_keyed hk) ht he hz (keyOf_int_mk hk hx)
 have hc2:(zgt xs).atKey (zdJ x) noD=.lit (.bool c):=hc
 rw [ztk] at hc2
 injection hc2 with h1
 injection h1 with h2
 rw [hrun,h2]
theorem zn1 {w':World} (h:w.ownsMap P k (plainElem P e) b n D) (he:Ext w w'):w'.ownsMap P k (plainElem P e) b n D:=by
 obtain ⟨es,clock,h1,h2⟩:=h
 have hb:b < w.heap.size:=(Array.getElem?_eq_some_iff.1 h1).1
 exact ⟨es,clock,by rw [he.block b hb]; exact h1,h2⟩
end

end Go.Mk
